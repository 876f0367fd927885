import PyProof.Rows.All
import Wide.All
import OpenK.AllK
import Wide.FinOn
import PyProof.EqAt
import PyProof.EqKinds
import PyProof.TupleCall
import KE.BitLaws
import KE.KSortTupG
import PyProof.SetScanFacts
import PyProof.ListMulRoad
import PyProof.PassesOwn
import KE.KTryMore
import OpenK.KOwn
import PyProof.NsDelKeeps
import KE.KIsAll
import PyProof.ExcArgsOwn
import PyProof.ExcAttrAll.ValueError
import PyProof.ExcBaseAll.ValueError
import KE.RegKTryMore
import KE.RegKIsAll
import PySem.Challenge.RW_steploft_k68_which_words_differ
set_option Elab.async false
set_option linter.all false
set_option maxRecDepth 100000
namespace L2
open PySem PySem.Spec PyProof.Rows
/-- a key: an int or a str -/
abbrev Key := Sum Int Str
def keyIs : Key → Value → Bool
  | .inl k, v => Value.isInt k v
  | .inr x, v => Value.isStrOf x v
def keyH (w : World) : Key → Int
  | .inl k => hashInt k
  | .inr x => hashStr w x
theorem keyIs_shape : ∀ {k : Key} {v : Value}, keyIs k v = true → (∃ i t, k = Sum.inl i ∧ v = Value.int i t) ∨ (∃ x t, k = Sum.inr x ∧ v = Value.str x t)
  | .inl i, v, h => by
    obtain ⟨t, e⟩ := Value.isInt_shape (k := i) (v := v) h
    exact .inl ⟨i, t, rfl, e⟩
  | .inr x, v, h => by
    obtain ⟨t, e⟩ := Value.isStrOf_shape (x := x) (v := v) h
    exact .inr ⟨x, t, rfl, e⟩
theorem key_ll (a b : Int) : decide ((Sum.inl a : Key) = Sum.inl b) = (a == b) := by
  by_cases e : a = b
  · subst e; simp
  · have h : ¬ (Sum.inl a : Key) = Sum.inl b := fun q => e (Sum.inl.inj q)
    rw [decide_eq_false h]
    exact (beq_eq_false_iff_ne.mpr e).symm
theorem key_rr (a b : Str) : decide ((Sum.inr a : Key) = Sum.inr b) = decide (a = b) := by
  by_cases e : a = b
  · subst e; simp
  · have h : ¬ (Sum.inr a : Key) = Sum.inr b := fun q => e (Sum.inr.inj q)
    rw [decide_eq_false h, decide_eq_false e]
theorem key_lr (a : Int) (b : Str) : decide ((Sum.inl a : Key) = Sum.inr b) = false := decide_eq_false (fun q => nomatch q)
theorem key_rl (a : Str) (b : Int) : decide ((Sum.inr a : Key) = Sum.inl b) = false := decide_eq_false (fun q => nomatch q)
def mixKind (prog : Program) (w : World) : PySem.KeyKind prog w Key where
  is := keyIs
  hash := keyH w
  inj := fun v a b ha hb => by
    rcases keyIs_shape ha with ⟨i, t, rfl, rfl⟩ | ⟨x, t, rfl, rfl⟩
    · rcases keyIs_shape hb with ⟨j, u, rfl, e⟩ | ⟨y, u, rfl, e⟩
      · injection e with e1 _; rw [e1]
      · exact nomatch e
    · rcases keyIs_shape hb with ⟨j, u, rfl, e⟩ | ⟨y, u, rfl, e⟩
      · exact nomatch e
      · injection e with e1 _; rw [e1]
  byValue := fun k v h => by
    rcases keyIs_shape h with ⟨i, t, rfl, rfl⟩ | ⟨x, t, rfl, rfl⟩ <;> rfl
  pyHash := fun hv h => by
    rcases keyIs_shape hv with ⟨i, t, rfl, rfl⟩ | ⟨x, t, rfl, rfl⟩
    · exact wpAny_pyHash_int h
    · exact wpAny_pyHash_str h
  eqBool := fun hu hv h => by
    rcases keyIs_shape hu with ⟨i, t, rfl, rfl⟩ | ⟨x, t, rfl, rfl⟩
    · rcases keyIs_shape hv with ⟨j, u, rfl, rfl⟩ | ⟨y, u, rfl, rfl⟩
      · rw [key_ll] at h; exact wpAny_eqBool_int h
      · rw [key_lr] at h; exact SeqAt.EqAt.int_str i t y u _ _ _ _ h
    · rcases keyIs_shape hv with ⟨j, u, rfl, rfl⟩ | ⟨y, u, rfl, rfl⟩
      · rw [key_rl] at h; exact SeqAt.EqAt.str_int x t j u _ _ _ _ h
      · rw [key_rr] at h; exact wpAny_eqBool_str h
  «strs» := fun k x t v h => by
    rcases keyIs_shape h with ⟨i, u, rfl, e⟩ | ⟨y, u, rfl, e⟩
    · exact nomatch e
    · injection e with e1 _
      subst e1
      cases v <;> rfl
end L2
namespace L2
open PySem PySem.Spec PyProof.Rows
/-- a value, without the heap -/
inductive V where
  | non | bl (b : Bool) | int (i : Int) | str (x : Str) | byt (b : Array UInt8) | flt (b : UInt64) | ref (a : Addr) | ty (n : String)
  deriving DecidableEq
def RelV : V → Value → Prop
  | .non, u => u = Value.none
  | .bl b, u => u = Value.bool b
  | .int i, u => ∃ t, u = Value.int i t
  | .str x, u => ∃ t, u = Value.str x t
  | .byt b, u => ∃ t, u = Value.bytes b t
  | .flt b, u => ∃ t, u = Value.float b t
  | .ref a, u => u = Value.ref a
  | .ty n, u => u = Value.type n
abbrev Vals : List V → List Value → Prop := Paired RelV
theorem Vals.length {xs : List V} {us : List Value} (r : Vals xs us) : xs.length = us.length := Paired.length r
theorem Vals.get : ∀ {xs : List V} {us : List Value} {i : Nat} {x : V}, Vals xs us → xs[i]? = some x → ∃ u, us[i]? = some u ∧ RelV x u
  | _, _, _, _, .nil, e => by simp at e
  | _, _, 0, _, .cons r _, e => by simp at e; subst e; exact ⟨_, rfl, r⟩
  | _, _, i + 1, x, .cons _ t, e => by
    obtain ⟨u, h1, h2⟩ := Vals.get (i := i) (x := x) t (by simpa using e)
    exact ⟨u, by simpa using h1, h2⟩
theorem Vals.set {x : V} {u : Value} (r : RelV x u) : ∀ {xs : List V} {us : List Value} (i : Nat), Vals xs us → Vals (xs.set i x) (us.set i u)
  | _, _, _, .nil => .nil
  | _, _, 0, .cons _ t => .cons r t
  | _, _, i + 1, .cons q t => .cons q (Vals.set r i t)
theorem Vals.append : ∀ {xs ys : List V} {us ws : List Value}, Vals xs us → Vals ys ws → Vals (xs ++ ys) (us ++ ws)
  | _, _, _, _, .nil, s => s
  | _, _, _, _, .cons r t, s => .cons r (Vals.append t s)
theorem Vals.take : ∀ {xs : List V} {us : List Value} (n : Nat), Vals xs us → Vals (xs.take n) (us.take n)
  | _, _, 0, _ => .nil
  | _, _, _ + 1, .nil => .nil
  | _, _, n + 1, .cons r t => .cons r (Vals.take n t)
theorem Vals.drop : ∀ {xs : List V} {us : List Value} (n : Nat), Vals xs us → Vals (xs.drop n) (us.drop n)
  | _, _, 0, r => r
  | _, _, _ + 1, .nil => .nil
  | _, _, n + 1, .cons _ t => Vals.drop n t
def RelO : Option V → Option Value → Prop
  | some v, some u => RelV v u
  | none, none => True
  | _, _ => False
def KV {κ : Type} : List (κ × V) → List (κ × Value) → Prop := Paired fun (p : κ × V) (q : κ × Value) => p.1 = q.1 ∧ RelV p.2 q.2
/-- a key of a dict (00_mix): an int or a text -/
def kV : Key → V
  | .inl i => .int i
  | .inr x => .str x
/-- a tuple without a dict of its own -/
def IsTupN (h : Heap) (a : Addr) (items : Array Value) : Prop := ∃ o, h.get? a = some o ∧ o.cls = .type "tuple" ∧ (∃ n, o.data = .seq items n) ∧ o.dict = none
theorem IsTupN.tup {h : Heap} {a : Addr} {items : Array Value} (x : IsTupN h a items) : IsTup h a items := let ⟨o, h1, h2, h3, _⟩ := x; ⟨o, h1, h2, h3⟩
theorem IsTupN.lt {h : Heap} {a : Addr} {items : Array Value} (x : IsTupN h a items) : a < h.objs.size := x.tup.lt
theorem IsTupN.new (h : Heap) (items : Array Value) : IsTupN (h.push { cls := .type "tuple", data := .seq items }) h.objs.size items := ⟨_, Heap.get?_push_size _ rfl, rfl, ⟨_, rfl⟩, rfl⟩
/-- what stands at a tracked address -/
inductive HO where
  /-- a list -/
  | lst (xs : List V)
  /-- a tuple (never changes) -/
  | tup (xs : List V)
  /-- a dict whose keys are ints and texts; one whose keys are tuples of ints and texts (the empty one is both) -/
  | dK (kvs : List (Key × V)) | dT (kvs : List (List Key × V))
  /-- a set of ints: its members, its size -/
  | set (S : Int → Bool) (n : Nat)
  /-- an instance of the class at C, its dict at dx, its attributes -/
  | ins (C dx : Addr) (fs : List (Str × V))
  /-- the dict of the instance at x -/
  | own (x : Addr)
  /-- the dict of an exception -/
  | xd (fs : List (Str × V))
  /-- a bound method, f of x -/
  | met (f x : Addr)
  /-- a range object lo, lo + 1, .. below hi -/
  | rng (lo hi : Int)
  /-- a thing that is known to the object (the script; a dict while a loop walks it): read, never written while it is so -/
  | frz (o : Obj) (u : HO)
  /-- a code object's table -/
  | tbl (ps : Array Value)
  /-- any other thing, by what is true of its one object (a def of one's own: SetO a S n := HO.ext fun h => ..) -/
  | ext (φ : Heap → Prop)
abbrev Hp := Addr → Option HO
def upd (H : Hp) (a : Addr) (o : HO) : Hp := fun b => if b = a then some o else H b
theorem upd_same {H : Hp} {a : Addr} {o : HO} : upd H a o a = some o := by unfold upd; rw [if_pos rfl]
theorem upd_ne {H : Hp} {a b : Addr} {o : HO} (h : b ≠ a) : upd H a o b = H b := by unfold upd; rw [if_neg h]
theorem ne_of_none {H : Hp} {a b : Addr} {o : HO} (h : H a = some o) (h' : H b = none) : a ≠ b := by
  intro e; subst e; rw [h] at h'; cases h'
section
variable (P : Program) (w : World)
def ObjOk (H : Hp) (h : Heap) (a : Addr) : HO → Prop
  | .lst xs => xs.length ≤ sizeLine ∧ ∃ (its : List Value) (n : Nat), Vals xs its ∧ h.get? a = some { cls := .type "list", data := .seq its.toArray n }
  | .tup xs => xs.length ≤ sizeLine ∧ ∃ its : List Value, Vals xs its ∧ IsTupN h a its.toArray
  | .dK kvs => kvs.length ≤ sizeLine ∧ (a == sysModules) = false ∧ ∃ vs, KV kvs vs ∧ h.DictOf (mixKind P w) a vs
  | .dT kvs => kvs.length ≤ sizeLine ∧ (a == sysModules) = false ∧ ∃ xs : List (List Key × Addr × Value),
      Paired (fun (p : List Key × V) (q : List Key × Addr × Value) => p.1 = q.1 ∧ H q.2.1 = some (.tup (p.1.map kV)) ∧ RelV p.2 q.2.2) kvs xs ∧
      ∃ o es ep, h.get? a = some o ∧ o.ExactDict ∧ o.data = .dict es ep ∧ es.toList = xs.map (entryOfKey (tupleKind (mixKind P w))) ∧ (xs.map (·.1)).Nodup
  | .set S n => h.SetOf (intKind P w) a S n
  | .ins C dx fs => H dx = some (.own a) ∧ fs.length ≤ 1000 ∧ dx ≠ a ∧ h.get? a = some (PySem.W.instObj C dx) ∧
      ∃ mA, h.Ns1 dx mA ∧ (∀ f, RelO (fs.lookup f) (mA f)) ∧ PySem.Within mA (fs.map (·.1))
  | .own _ => ∃ o, h.get? a = some o
  | .xd fs => ∃ mA, h.Ns1 a mA ∧ ∀ f, RelO (fs.lookup f) (mA f)
  | .rng lo hi => ∃ t u v, h.get? a = some { cls := .type "range", data := .fields #[.int lo t, .int hi u, .int 1 v] }
  | .frz o u => h.get? a = some o ∧ ObjOk H h a u
  | .tbl ps => h.get? a = some { cls := .none, data := .fields ps }
  | .met f x => h.get? a = some (PySem.W.methodObj (.ref f) (.ref x))
  | .ext φ => φ h ∧ (∃ o, h.get? a = some o) ∧ ∀ h1 h2 : Heap, φ h1 → (∀ o, h1.get? a = some o → h2.get? a = some o) → φ h2
/-- the abstract heap is held -/
def HOk (H : Hp) (h : Heap) : Prop := ∀ a o, H a = some o → ObjOk P w H h a o
end
section
variable {P : Program} {w : World} {H H' : Hp} {h h' : Heap} {a : Addr} {o : HO}
theorem ObjOk.lt (x : ObjOk P w H h a o) : a < h.objs.size := by
  cases o with
  | lst xs => obtain ⟨_, _, _, _, e⟩ := x; exact Heap.lt_size e
  | tup xs => obtain ⟨_, _, _, p⟩ := x; exact p.lt
  | dK kvs => obtain ⟨_, _, _, _, o, _, _, e, _⟩ := x; exact Heap.lt_size e
  | dT kvs => obtain ⟨_, _, _, _, o, _, _, e, _⟩ := x; exact Heap.lt_size e
  | set S n => obtain ⟨o, _, _, _, e, _⟩ := x; exact Heap.lt_size e
  | ins C dx fs => obtain ⟨_, _, _, e, _⟩ := x; exact Heap.lt_size e
  | own y => obtain ⟨_, e⟩ := x; exact Heap.lt_size e
  | xd fs => obtain ⟨_, ⟨_, _, _, e, _⟩, _⟩ := x; exact Heap.lt_size e
  | rng lo hi => obtain ⟨_, _, _, e⟩ := x; exact Heap.lt_size e
  | frz ob u => obtain ⟨e, _⟩ := x; exact Heap.lt_size e
  | tbl ps => exact Heap.lt_size (show h.get? a = some _ from x)
  | met f y => exact Heap.lt_size (show h.get? a = some _ from x)
  | ext φ => obtain ⟨_, ⟨_, e⟩, _⟩ := x; exact Heap.lt_size e
theorem Paired.mapP {α β : Type} {F G : α → β → Prop} : ∀ {l₁ : List α} {l₂ : List β}, Paired F l₁ l₂ → (∀ a b, F a b → G a b) → Paired G l₁ l₂
  | _, _, .nil, _ => .nil
  | _, _, .cons r t, f => .cons (f _ _ r) (Paired.mapP t f)
/-- what an object's description leans on: its own object, its own dict, the tuples -/
theorem ObjOk.stay (x : ObjOk P w H h a o) (k : ∀ b u, (b = a ∨ H b = some (.own a)) → h.get? b = some u → h'.get? b = some u)
    (ho : ∀ b, H b = some (.own a) → H' b = some (.own a)) (ht : ∀ b xs, H b = some (.tup xs) → H' b = some (.tup xs)) : ObjOk P w H' h' a o := by
  induction o with
  | lst xs => obtain ⟨z, its, n, r, e⟩ := x; exact ⟨z, its, n, r, k _ _ (.inl rfl) e⟩
  | tup xs => obtain ⟨z, its, r, ob, e, c⟩ := x; exact ⟨z, its, r, ob, k _ _ (.inl rfl) e, c⟩
  | dK kvs => obtain ⟨z, y, vs, r, ob, es, ep, e, c⟩ := x; exact ⟨z, y, vs, r, ob, es, ep, k _ _ (.inl rfl) e, c⟩
  | dT kvs =>
    obtain ⟨z, y, xs, r, ob, es, ep, e, c⟩ := x
    exact ⟨z, y, xs, Paired.mapP r fun p q z => ⟨z.1, ht _ _ z.2.1, z.2.2⟩, ob, es, ep, k _ _ (.inl rfl) e, c⟩
  | set S n => obtain ⟨ob, es, ep, t, e, c⟩ := x; exact ⟨ob, es, ep, t, k _ _ (.inl rfl) e, c⟩
  | ins C dx fs =>
    obtain ⟨d, z, ne, e, mA, ⟨od, es, ep, e2, c⟩, r⟩ := x
    exact ⟨ho _ d, z, ne, k _ _ (.inl rfl) e, mA, ⟨od, es, ep, k _ _ (.inr d) e2, c⟩, r⟩
  | own y => obtain ⟨ob, e⟩ := x; exact ⟨ob, k _ _ (.inl rfl) e⟩
  | xd fs => obtain ⟨mA, ⟨od, es, ep, e, c⟩, r⟩ := x; exact ⟨mA, ⟨od, es, ep, k _ _ (.inl rfl) e, c⟩, r⟩
  | rng lo hi => obtain ⟨t, u, v, e⟩ := x; exact ⟨t, u, v, k _ _ (.inl rfl) e⟩
  | frz ob u ih => obtain ⟨e, q⟩ := x; exact ⟨k _ _ (.inl rfl) e, ih q⟩
  | tbl ps =>
    have e : h.get? a = some { cls := .none, data := .fields ps } := x
    show h'.get? a = some { cls := .none, data := .fields ps }
    exact k a _ (.inl rfl) e
  | met f y =>
    have e : h.get? a = some (PySem.W.methodObj (.ref f) (.ref y)) := x
    show h'.get? a = some (PySem.W.methodObj (.ref f) (.ref y))
    exact k a _ (.inl rfl) e
  | ext φ => obtain ⟨p, ⟨o, e⟩, st⟩ := x; exact ⟨st _ _ p fun o q => k _ _ (.inl rfl) q, ⟨o, k _ _ (.inl rfl) e⟩, st⟩
theorem HOk.lt (x : HOk P w H h) (e : H a = some o) : a < h.objs.size := (x a o e).lt
theorem HOk.fresh (x : HOk P w H h) (e : h.objs.size ≤ a) : H a = none := by
  cases q : H a with
  | none => rfl
  | some u => exact absurd (Nat.lt_of_lt_of_le (x.lt q) e) (Nat.lt_irrefl _)
/-- every object of the heap is kept -/
theorem HOk.kept (x : HOk P w H h) (k : ∀ b u, h.get? b = some u → h'.get? b = some u) : HOk P w H h' := fun a o e =>
  (x a o e).stay (fun b u _ q => k b u q) (fun _ q => q) fun _ _ q => q
/-- a new object is laid and tracked -/
theorem HOk.laid (x : HOk P w H h) (k : ∀ b u, h.get? b = some u → h'.get? b = some u) (hp : h.objs.size ≤ a) (new : ObjOk P w (upd H a o) h' a o) : HOk P w (upd H a o) h' := fun b u e => by
  have hn := x.fresh hp
  by_cases hb : b = a
  · subst hb; rw [upd_same] at e; cases e; exact new
  · rw [upd_ne hb] at e
    exact (x b u e).stay (fun c v _ q => k c v q) (fun c q => by rw [upd_ne (ne_of_none q hn)]; exact q) fun c xs q => by rw [upd_ne (ne_of_none q hn)]; exact q
end
/-- what may be read as u: it is u, or a known u -/
def Rd (H : Hp) (a : Addr) (u : HO) : Prop := H a = some u ∨ ∃ o, H a = some (.frz o u)
theorem Rd.of {H : Hp} {a : Addr} {u : HO} (h : H a = some u) : Rd H a u := .inl h
theorem Rd.ok {P : Program} {w : World} {H : Hp} {h : Heap} {a : Addr} {u : HO} (r : Rd H a u) (x : HOk P w H h) : ObjOk P w H h a u := by
  rcases r with r | ⟨o, r⟩
  · exact x a u r
  · obtain ⟨_, q⟩ := x a _ r
    exact q
/-- what may be written -/
def Mut : Option HO → Prop
  | some (.lst _) => True
  | some (.dK _) => True
  | some (.dT _) => True
  | some (.set _ _) => True
  | some (.ins _ _ _) => True
  | some (.ext _) => True
  | _ => False
section
variable {P : Program} {w : World} {H : Hp} {h h' : Heap} {x e : Addr} {o' : HO}
/-- the object at e is changed: x itself, or the dict of the instance x -/
theorem HOk.write (ok : HOk P w H h) (mu : Mut (H x)) (he : e = x ∨ H e = some (.own x)) (k : ∀ b u, b ≠ e → h.get? b = some u → h'.get? b = some u) (heo : ∃ u, h'.get? e = some u)
    (new : ObjOk P w (upd H x o') h' x o') : HOk P w (upd H x o') h' := fun b u q => by
  have nown : ∀ c y, H c = some (.own y) → c ≠ x := fun c y r z => by subst z; rw [r] at mu; exact mu
  have ntup : ∀ c xs, H c = some (.tup xs) → c ≠ x := fun c xs r z => by subst z; rw [r] at mu; exact mu
  by_cases hb : b = x
  · subst hb; rw [upd_same] at q; cases q; exact new
  · rw [upd_ne hb] at q
    by_cases hbe : b = e
    · have q' : H b = some (.own x) := by
        rcases he with z | z
        · exact absurd (hbe.trans z) hb
        · rw [hbe]; exact z
      rw [q] at q'; cases q'
      obtain ⟨v, hv⟩ := heo
      exact ⟨v, by rw [hbe]; exact hv⟩
    · refine (ok b u q).stay (fun c v hc r => k c v ?_ r) (fun c r => by rw [upd_ne (nown c b r)]; exact r) fun c xs r => by rw [upd_ne (ntup c xs r)]; exact r
      rcases hc with rfl | hc
      · exact hbe
      · rintro rfl
        rcases he with z | z
        · exact nown c b hc z
        · rw [hc] at z; cases z; exact hb rfl
end
structure Un (fs ex : List Addr) (H H' : Hp) (h h' : Heap) : Prop where
  keep : ∀ b o, h.get? b = some o → H b = none → b ∉ fs → b ∉ ex → h'.get? b = some o
  slot : ∀ b o, h.get? b = some o → H b = none → b ∈ fs → b ∉ ex → ∃ sl, h'.get? b = some { o with slots := sl }
  free : ∀ b o, h.get? b = some o → H b = none → b ∉ ex → H' b = none
  there : ∀ b o, h.get? b = some o → b ∉ ex → ∃ o', h'.get? b = some o'
  tups : ∀ b xs, H b = some (.tup xs) → H' b = some (.tup xs)
  frzs : ∀ b o u, H b = some (.frz o u) → H' b = some (.frz o u)
  tbls : ∀ b ps, H b = some (.tbl ps) → ∃ more, H' b = some (.tbl (ps ++ more))
section
variable {fs fs' ex ex' : List Addr} {H H1 H2 : Hp} {h h1 h2 h' : Heap} {a x e : Addr} {o : HO}
theorem Un.any (u : Un fs ex H H1 h h1) {b : Addr} {ob : Obj} (q : h.get? b = some ob) (n : H b = none) (hx : b ∉ ex) : ∃ sl, h1.get? b = some { ob with slots := sl } := by
  by_cases hb : b ∈ fs
  · exact u.slot b ob q n hb hx
  · exact ⟨ob.slots, u.keep b ob q n hb hx⟩
theorem Un.trans (a : Un fs ex H H1 h h1) (b : Un fs ex H1 H2 h1 h2) : Un fs ex H H2 h h2 where
  keep := fun c ob q n hc hx => b.keep c ob (a.keep c ob q n hc hx) (a.free c ob q n hx) hc hx
  slot := fun c ob q n hc hx => by
    obtain ⟨sl, e1⟩ := a.slot c ob q n hc hx
    obtain ⟨sl', e2⟩ := b.slot c _ e1 (a.free c ob q n hx) hc hx
    exact ⟨sl', e2⟩
  free := fun c ob q n hx => by
    obtain ⟨o', e1⟩ := a.there c ob q hx
    exact b.free c o' e1 (a.free c ob q n hx) hx
  there := fun c ob q hx => by
    obtain ⟨o', e1⟩ := a.there c ob q hx
    exact b.there c o' e1 hx
  tups := fun c xs q => b.tups c xs (a.tups c xs q)
  frzs := fun c ob xs q => b.frzs c ob xs (a.frzs c ob xs q)
  tbls := fun c ps q => by
    obtain ⟨m1, e1⟩ := a.tbls c ps q
    obtain ⟨m2, e2⟩ := b.tbls c _ e1
    exact ⟨m1 ++ m2, by rw [e2, Array.append_assoc]⟩
theorem Un.kept (k : ∀ b u, h.get? b = some u → h'.get? b = some u) : Un fs ex H H h h' :=
  ⟨fun b ob q _ _ _ => k b ob q, fun b ob q _ _ _ => ⟨ob.slots, k b ob q⟩, fun _ _ _ n _ => n, fun b ob q _ => ⟨ob, k b ob q⟩, fun _ _ q => q, fun _ _ _ q => q, fun _ ps q => ⟨#[], by rw [q]; simp⟩⟩
theorem Un.refl : Un fs ex H H h h := Un.kept fun _ _ q => q
theorem Un.laid (k : ∀ b u, h.get? b = some u → h'.get? b = some u) (hp : h.objs.size ≤ a) (hn : H a = none) : Un fs ex H (upd H a o) h h' where
  keep := fun b u q _ _ _ => k b u q
  slot := fun b u q _ _ _ => ⟨u.slots, k b u q⟩
  free := fun b u q n _ => by rw [upd_ne (Nat.ne_of_lt (Nat.lt_of_lt_of_le (Heap.lt_size q) hp))]; exact n
  there := fun b u q _ => ⟨u, k b u q⟩
  tups := fun b xs q => by rw [upd_ne (ne_of_none q hn)]; exact q
  frzs := fun b u xs q => by rw [upd_ne (ne_of_none q hn)]; exact q
  tbls := fun b ps q => ⟨#[], by rw [upd_ne (ne_of_none q hn), q]; simp⟩
theorem Un.write (mu : Mut (H x)) (he : e = x ∨ H e = some (.own x)) (k : ∀ b u, b ≠ e → h.get? b = some u → h'.get? b = some u) (heo : ∃ u, h'.get? e = some u) : Un fs ex H (upd H x o) h h' := by
  have hx : ∀ b, H b = none → b ≠ x := fun b n z => by subst z; rw [n] at mu; exact mu
  have hb : ∀ b, H b = none → b ≠ e := fun b n z => by
    subst z
    rcases he with r | r
    · exact hx b n r
    · rw [n] at r; cases r
  have hm : ∀ b u, H b = some u → ¬ Mut (some u) → b ≠ x := fun b u q nm z => by subst z; rw [q] at mu; exact nm mu
  refine ⟨fun b u q n _ _ => k b u (hb b n) q, fun b u q n _ _ => ⟨u.slots, k b u (hb b n) q⟩, fun b u q n _ => by rw [upd_ne (hx b n)]; exact n, fun b u q _ => ?_,
    fun b xs q => by rw [upd_ne (hm b _ q fun z => z)]; exact q, fun b u xs q => by rw [upd_ne (hm b _ q fun z => z)]; exact q, fun b ps q => ⟨#[], by rw [upd_ne (hm b _ q fun z => z), q]; simp⟩⟩
  by_cases hbe : b = e
  · subst hbe; exact heo
  · exact ⟨u, k b u hbe q⟩
theorem Un.mono (u : Un fs ex H H1 h h1) (hs : ∀ b ∈ fs, b ∈ fs') (hx : ∀ b ∈ ex, b ∈ ex') : Un fs' ex' H H1 h h1 :=
  ⟨fun b ob q n hb he => u.keep b ob q n (fun z => hb (hs b z)) fun z => he (hx b z), fun _ _ q n _ he => u.any q n fun z => he (hx _ z), fun b ob q n he => u.free b ob q n fun z => he (hx b z), fun b ob q he => u.there b ob q fun z => he (hx b z), u.tups, u.frzs, u.tbls⟩
end
def trk (h : Heap) (H : Hp) : List Addr := (List.range h.objs.size).filter fun a => (H a).isSome
def hidT (h : Heap) (H : Hp) : Heap := PySem.W.hideAll h (trk h H)
theorem hidT_size (h : Heap) (H : Hp) : (hidT h H).objs.size = h.objs.size := PySem.W.hideAll_size _ _
theorem hidT_get {h : Heap} {H : Hp} {b : Addr} {o : Obj} (e : h.get? b = some o) (n : H b = none) : (hidT h H).get? b = some o :=
  PySem.W.hideAll_get _ e fun hm => by
    have q : (H b).isSome = true := (List.mem_filter.mp hm).2
    rw [n] at q; simp at q
theorem of_hidT {h : Heap} {H : Hp} {b : Addr} {o : Obj} (e : (hidT h H).get? b = some o) : h.get? b = some o ∧ H b = none := by
  have e' : h.get? b = some o := PySem.W.of_hideAll (trk h H) e
  refine ⟨e', ?_⟩
  cases q : H b with
  | none => rfl
  | some x =>
    have hm : b ∈ trk h H := List.mem_filter.mpr ⟨List.mem_range.mpr (Heap.lt_size e'), by simp [q]⟩
    have z : (hidT h H).get? b = none := PySem.W.hideAll_none (trk h H) hm
    rw [z] at e; cases e
def allNews (g h : Heap) (L : Addr) : List (Addr × Obj) := (List.range h.objs.size).filterMap fun a => if a = L ∨ (g.get? a).isSome = true then none else (h.get? a).map fun o => (a, o)
def rest (g h : Heap) (L d : Addr) : List (Addr × Obj) := (allNews g h L).filter fun p => decide (p.1 ≠ d)
end L2
namespace L2
open PySem PySem.Spec PyProof.Rows
/-- the module's facts, over the base: the heap at the law's entry without what is tracked there -/
structure Mod (K : PySem.W.Frag) (mg : Str → Option Value) (base : Heap) : Prop where
  kin : K.In base
  glob : base.Ns mainGlobals mg
  blt : ∃ mb, base.Ns builtinsNs mb ∧ ∀ x : Str, x ≠ "__name__" → mb x = bootBuiltins x
  nolimit : base.NoLimit
/-- the context: a def's body (or a comprehension's block) running. base: fixed through the whole law; s₀, H₀: the entry; outer: the frames whose slots others may change (a def's callers); stack: all frames that run;
   ex: iterators that were made ahead of the entry and are walked here (a comprehension's); fn: the names whose cells were made at the entry (a def: all; a comprehension's block: its own); calm: not within an except suite; pn: pins that every state bears; xe: what is wanted of an exception that leaves the code -/
structure Cx where
  prog : Program
  w : World
  K : PySem.W.Frag
  mg : Str → Option Value
  base : Heap
  A : Around
  N : List Str
  s_0 : Shared
  H_0 : Hp
  env : Env
  outer : List Env
  stack : List Env
  ex : List Addr
  fn : Str → Bool
  calm : Bool
  pn : List (Addr × Obj)
  xe : Value → Shared → Prop
/-- the callers' frames -/
def frs (l : List Env) : List Addr := l.filterMap (·.frame)
abbrev Cx.fs (X : Cx) : List Addr := frs X.outer
def Vis (sc : Scope) (x : Str) : Prop := sc.names.lookup x = some .local ∨ sc.names.lookup x = some .cell ∨ sc.names.lookup x = some .free
def Loc (sc : Scope) (x : Str) : Prop := sc.names.lookup x = some .local ∨ sc.names.lookup x = some .cell
def Look (env : Env) (h : Heap) (m : Str → Option Value) (x : Str) (u : Value) : Prop :=
  (env.kindOf x = some .local ∧ m x = some u) ∨ ((env.kindOf x = some .cell ∨ env.kindOf x = some .free) ∧ ∃ c, env.cells.lookup x = some c ∧ h.IsCell c (some u))
structure Cx.Ok (X : Cx) : Prop where
  mod : Mod X.K X.mg X.base
  kind : X.env.scope.kind = .function
  glob : X.env.globals = mainGlobals
  blt : X.env.builtins = builtinsNs
  above : X.s_0.heap.objs.size ≤ X.env.locals
  inj : ∀ x y c, X.env.cells.lookup x = some c → X.env.cells.lookup y = some c → x = y
  has : ∀ x, (X.env.kindOf x = some .cell ∨ X.env.kindOf x = some .free) → ∃ c, X.env.cells.lookup x = some c
  cab : ∀ x c, X.fn x = true → X.env.cells.lookup x = some c → X.s_0.heap.objs.size ≤ c
  hd : X.calm = true → X.A.handled = none
  frames : X.A.frames = some X.stack
  stk : X.stack = X.outer ∨ (X.stack = X.env :: X.outer ∧ X.env.frame = some X.env.locals)
  exf : ∀ b ∈ X.ex, b ≠ X.env.locals ∧ ∀ x c, X.env.cells.lookup x = some c → c ≠ b
  bs : ∀ b o, X.base.get? b = some o → X.s_0.heap.get? b = some o ∧ X.H_0 b = none
  bsz : X.base.objs.size ≤ X.s_0.heap.objs.size
  noex : ∀ b o, X.base.get? b = some o → b ∉ X.ex
  exfs : ∀ b ∈ X.ex, b ∉ X.fs
  funs : X.s_0.heap.FunFrames X.base X.outer
  frf : ∀ b ∈ X.fs, X.H_0 b = none
/-- no generator is left with a cleanup, and there are no fewer than n -/
structure GB (n : Nat) (g : Array GenState) : Prop where
  all : AllBare g
  sz : n ≤ g.size
theorem GB.self {n : Nat} {g : Array GenState} (h : GB n g) : GB g.size g := ⟨h.all, Nat.le_refl _⟩
theorem GB.step {n : Nat} {g g' : Array GenState} (h : GB n g) (h' : GB g.size g') : GB n g' := ⟨h'.all, Nat.le_trans h.sz h'.sz⟩
structure Inv (X : Cx) (pins : List (Addr × Obj)) (σ : List (Option V)) (H : Hp) (s : Shared) : Prop where
  ok : X.Ok
  os : s.os = X.s_0.os
  bare : GB X.s_0.gens.size s.gens
  base : Un X.fs X.ex X.H_0 H X.s_0.heap s.heap
  loc : ∃ m, s.heap.Ns X.env.locals m ∧ ∀ (i : Nat) (x : Str) (v : V), X.N[i]? = some x → σ[i]? = some (some v) → Vis X.env.scope x → ∃ u, RelV v u ∧ Look X.env s.heap m x u
  cell : ∀ x c, X.env.cells.lookup x = some c → ∃ v, s.heap.IsCell c v
  free : H X.env.locals = none
  freeC : ∀ x c, X.env.cells.lookup x = some c → H c = none
  pin : ∀ p ∈ X.pn ++ pins, s.heap.get? p.1 = some p.2 ∧ H p.1 = none ∧ p.1 ≠ X.env.locals ∧ p.1 ∉ X.fs ∧ ∀ v, p.2.data ≠ .cell v
  hok : HOk X.prog X.w H s.heap
  len : σ.length = X.N.length
section
variable {X : Cx} {pins : List (Addr × Obj)} {σ : List (Option V)} {H H' : Hp} {s : Shared} {h' : Heap}
theorem Cx.Ok.nofr (ok : X.Ok) {b : Addr} {o : Obj} (e : X.base.get? b = some o) : b ∉ X.fs := fun hb => by
  have := (ok.funs.mem hb).1
  rw [e] at this; cases this
theorem Inv.bs (I : Inv X pins σ H s) : ∀ b o, X.base.get? b = some o → s.heap.get? b = some o ∧ H b = none := fun b o e =>
  ⟨I.base.keep b o (I.ok.bs b o e).1 (I.ok.bs b o e).2 (I.ok.nofr e) (I.ok.noex b o e), I.base.free b o (I.ok.bs b o e).1 (I.ok.bs b o e).2 (I.ok.noex b o e)⟩
theorem Inv.bk (I : Inv X pins σ H s) : ∀ b o, X.base.get? b = some o → s.heap.get? b = some o := fun b o e => (I.bs b o e).1
theorem Inv.mod (I : Inv X pins σ H s) : Mod X.K X.mg X.base := I.ok.mod
theorem Inv.kIn (I : Inv X pins σ H s) : X.K.In s.heap := I.ok.mod.kin.keeps I.bk
theorem Inv.nolimit (I : Inv X pins σ H s) : s.heap.NoLimit := I.ok.mod.nolimit.keeps I.bk
/-- the frame over the base: for OpenK's rules (K.In X.base is I.mod.kin) -/
theorem Inv.fr (I : Inv X pins σ H s) : ∃ m, Fr X.base X.env.locals s.heap m :=
  let ⟨m, hn, _⟩ := I.loc
  ⟨m, hn, I.bk, Nat.le_trans I.ok.bsz I.ok.above⟩
theorem Inv.lt (I : Inv X pins σ H s) : X.env.locals < s.heap.objs.size := let ⟨_, hn, _⟩ := I.loc; hn.lt
theorem Inv.sz (I : Inv X pins σ H s) : X.s_0.heap.objs.size ≤ s.heap.objs.size := Nat.le_trans I.ok.above (Nat.le_of_lt I.lt)
theorem Inv.nofs (I : Inv X pins σ H s) {a : Addr} (h : s.heap.objs.size ≤ a) : a ∉ X.fs := fun hb => by
  obtain ⟨_, o, ho, _⟩ := I.ok.funs.mem hb
  exact absurd (Nat.lt_of_lt_of_le (Heap.lt_size ho) (Nat.le_trans I.sz h)) (Nat.lt_irrefl _)
theorem Inv.cne (I : Inv X pins σ H s) : ∀ x c, X.env.cells.lookup x = some c → c ≠ X.env.locals := fun x c e z => by
  obtain ⟨v, o, ho, hd⟩ := I.cell x c e
  obtain ⟨m, ⟨o', es, ep, ho', hd', _⟩, _⟩ := I.loc
  rw [z, ho'] at ho; cases ho; rw [hd'] at hd; cases hd
theorem Inv.funs (I : Inv X pins σ H s) : s.heap.FunFrames X.base X.outer := by
  have all : ∀ (l : List Env), (∀ b ∈ frs l, b ∈ X.fs) → X.s_0.heap.FunFrames X.base l → s.heap.FunFrames X.base l := by
    intro l
    induction l with
    | nil => intro _ _; trivial
    | cons env r ih =>
      intro hs hl
      obtain ⟨hk, ⟨L, o, hf, hn, ho, hd⟩, hr⟩ := hl
      have hL : L ∈ X.fs := hs L (by unfold frs; rw [List.filterMap_cons, hf]; exact List.mem_cons_self)
      obtain ⟨sl, e⟩ := I.base.slot L o ho (I.ok.frf L hL) hL fun z => I.ok.exfs L z hL
      exact ⟨hk, ⟨L, _, hf, hn, e, hd⟩, ih (fun b hb => hs b (by unfold frs; rw [List.filterMap_cons, hf]; exact List.mem_cons_of_mem _ hb)) hr⟩
  exact all X.outer (fun _ hb => hb) I.ok.funs
/-- the frames that run, for a call -/
theorem Inv.stack (I : Inv X pins σ H s) : s.heap.FunFrames X.base X.stack := by
  rcases I.ok.stk with e | ⟨e, hf⟩
  · rw [e]; exact I.funs
  · rw [e]
    obtain ⟨m, hn, _⟩ := I.loc
    refine .cons (by rw [I.ok.kind]; decide) hf hn ?_ I.funs
    exact Heap.get?_none_of_le (Nat.le_trans I.ok.bsz I.ok.above)
theorem Inv.stkSub (I : Inv X pins σ H s) : ∀ b ∈ frs X.stack, b ∈ X.env.locals :: X.fs := fun b hb => by
  rcases I.ok.stk with e | ⟨e, hf⟩
  · rw [e] at hb; exact List.mem_cons_of_mem _ hb
  · rw [e] at hb
    unfold frs at hb
    rw [List.filterMap_cons, hf] at hb
    exact hb
theorem Inv.stkFree (I : Inv X pins σ H s) : ∀ b ∈ frs X.stack, H b = none := fun b hb => by
  rcases List.mem_cons.mp (I.stkSub b hb) with e | hb
  · rw [e]; exact I.free
  · obtain ⟨_, o, ho, _⟩ := I.ok.funs.mem hb
    exact I.base.free b o ho (I.ok.frf b hb) fun z => I.ok.exfs b z hb
/-- THE STEP: the untracked objects but the frame and the records at ch are kept (the callers' frames up to slots), the frame's map is kept, the new abstract heap is held -/
theorem Inv.step {g' : Array GenState} {t' : Nat} {d' : Drawn} {ch : List Addr} (I : Inv X pins σ H s)
    (hch : ∀ b ∈ ch, (b ∈ X.ex ∨ X.s_0.heap.objs.size ≤ b) ∧ b ≠ X.env.locals ∧ (∀ x c, X.env.cells.lookup x = some c → c ≠ b) ∧ ∀ p ∈ X.pn ++ pins, p.1 ≠ b)
    (keep : ∀ b o, b ≠ X.env.locals → b ∉ X.fs → b ∉ ch → s.heap.get? b = some o → H b = none → h'.get? b = some o)
    (slot : ∀ b o, b ≠ X.env.locals → b ∈ X.fs → b ∉ ch → s.heap.get? b = some o → H b = none → ∃ sl, h'.get? b = some { o with slots := sl }) (free : ∀ b o, b ∉ ch → s.heap.get? b = some o → H b = none → H' b = none)
    (there : ∀ b o, b ∉ ch → s.heap.get? b = some o → ∃ o', h'.get? b = some o')
    (tups : ∀ b xs, H b = some (.tup xs) → H' b = some (.tup xs)) (frzs : ∀ b o u, H b = some (.frz o u) → H' b = some (.frz o u)) (tbls : ∀ b ps, H b = some (.tbl ps) → ∃ more, H' b = some (.tbl (ps ++ more)))
    (ns : ∀ m, s.heap.Ns X.env.locals m → h'.Ns X.env.locals m) (hok : HOk X.prog X.w H' h') (hg : GB s.gens.size g') :
    Inv X pins σ H' { s with heap := h', gens := g', drawn := d', toks := t' } := by
  have neL : ∀ b o, X.s_0.heap.get? b = some o → b ≠ X.env.locals := fun b o e => Nat.ne_of_lt (Nat.lt_of_lt_of_le (Heap.lt_size e) I.ok.above)
  have neC : ∀ b o, X.s_0.heap.get? b = some o → b ∉ X.ex → b ∉ ch := fun b o e hx hb => by
    rcases (hch b hb).1 with z | z
    · exact hx z
    · exact absurd (Nat.lt_of_lt_of_le (Heap.lt_size e) z) (Nat.lt_irrefl _)
  have cellK : ∀ x c, X.env.cells.lookup x = some c → ∀ v, s.heap.IsCell c v → h'.IsCell c v := fun x c e v ⟨o, ho, hd⟩ => by
    have nch : c ∉ ch := fun z => (hch c z).2.2.1 x c e rfl
    by_cases hc : c ∈ X.fs
    · obtain ⟨sl, q⟩ := slot c o (I.cne x c e) hc nch ho (I.freeC x c e)
      exact ⟨_, q, hd⟩
    · exact ⟨o, keep c o (I.cne x c e) hc nch ho (I.freeC x c e), hd⟩
  refine ⟨I.ok, I.os, I.bare.step hg, ⟨fun b o e n hb hx => ?_, fun b o e n hb hx => ?_, fun b o e n hx => ?_, fun b o e hx => ?_, fun b xs e => tups b xs (I.base.tups b xs e), fun b o xs e => frzs b o xs (I.base.frzs b o xs e), fun b ps e => ?_⟩, ?_, fun x c e => ?_, ?_, fun x c e => ?_, fun p hp => ?_, hok, I.len⟩
  · exact keep b o (neL b o e) hb (neC b o e hx) (I.base.keep b o e n hb hx) (I.base.free b o e n hx)
  · obtain ⟨sl, e1⟩ := I.base.slot b o e n hb hx
    obtain ⟨sl', e2⟩ := slot b _ (neL b o e) hb (neC b o e hx) e1 (I.base.free b o e n hx)
    exact ⟨sl', e2⟩
  · obtain ⟨o', e1⟩ := I.base.there b o e hx
    exact free b o' (neC b o e hx) e1 (I.base.free b o e n hx)
  · obtain ⟨o', e1⟩ := I.base.there b o e hx
    exact there b o' (neC b o e hx) e1
  · obtain ⟨m1, e1⟩ := I.base.tbls b ps e
    obtain ⟨m2, e2⟩ := tbls b _ e1
    exact ⟨m1 ++ m2, by rw [e2, Array.append_assoc]⟩
  · obtain ⟨m, hn, hl⟩ := I.loc
    refine ⟨m, ns m hn, fun i x v e1 e2 e3 => ?_⟩
    obtain ⟨u, r, l⟩ := hl i x v e1 e2 e3
    refine ⟨u, r, ?_⟩
    rcases l with l | ⟨k, c, e, z⟩
    · exact .inl l
    · exact .inr ⟨k, c, e, cellK x c e _ z⟩
  · obtain ⟨v, z⟩ := I.cell x c e
    exact ⟨v, cellK x c e v z⟩
  · obtain ⟨m, ⟨o, _, _, ho, _⟩, _⟩ := I.loc
    exact free _ o (fun z => (hch _ z).2.1 rfl) ho I.free
  · obtain ⟨v, o, ho, hd⟩ := I.cell x c e
    exact free c o (fun z => (hch c z).2.2.1 x c e rfl) ho (I.freeC x c e)
  · obtain ⟨e, n, ne, nf, d⟩ := I.pin p hp
    have nch : p.1 ∉ ch := fun z => (hch p.1 z).2.2.2 p hp rfl
    exact ⟨keep p.1 p.2 ne nf nch e n, free p.1 p.2 nch e n, ne, nf, d⟩
/-- .. where the frame's own object is kept too -/
theorem Inv.un {t' : Nat} (I : Inv X pins σ H s) (u : Un X.fs [] H H' s.heap h') (hok : HOk X.prog X.w H' h') : Inv X pins σ H' { s with heap := h', toks := t' } := by
  obtain ⟨m, ⟨o, es, ep, ho, r⟩, _⟩ := id I.loc
  obtain ⟨sl, hL⟩ := u.any ho I.free (by simp)
  exact I.step (g' := s.gens) (d' := s.drawn) (ch := []) (fun _ z => nomatch z) (fun b o _ hb _ e n => u.keep b o e n hb (by simp)) (fun b o _ hb _ e n => u.slot b o e n hb (by simp)) (fun b o _ e n => u.free b o e n (by simp)) (fun b o _ e => u.there b o e (by simp)) u.tups u.frzs u.tbls (fun m' hm => by
    obtain ⟨o', es', ep', ho', r'⟩ := hm
    rw [ho] at ho'; cases ho'
    exact ⟨_, es', ep', hL, r'⟩) hok I.bare.self
/-- behind a call (or a comprehension's block): the slots of this frame may have changed too, the records at ch may have turned -/
theorem Inv.call {g' : Array GenState} {t' : Nat} {d' : Drawn} {ch : List Addr} (I : Inv X pins σ H s) (u : Un (frs X.stack) ch H H' s.heap h') (hok : HOk X.prog X.w H' h') (hg : GB s.gens.size g')
    (hch : ∀ b ∈ ch, (b ∈ X.ex ∨ X.s_0.heap.objs.size ≤ b) ∧ b ≠ X.env.locals ∧ (∀ x c, X.env.cells.lookup x = some c → c ≠ b) ∧ ∀ p ∈ X.pn ++ pins, p.1 ≠ b) :
    Inv X pins σ H' { s with heap := h', gens := g', drawn := d', toks := t' } := by
  obtain ⟨m, ⟨o, es, ep, ho, r⟩, _⟩ := id I.loc
  obtain ⟨sl, hL⟩ := u.any ho I.free fun z => (hch _ z).2.1 rfl
  exact I.step (ch := ch) hch (fun b o hL hb hc e n => u.keep b o e n (fun z => (List.mem_cons.mp (I.stkSub b z)).elim hL hb) hc) (fun b o _ _ hc e n => u.any e n hc) (fun b o hc e n => u.free b o e n hc) (fun b o hc e => u.there b o e hc) u.tups u.frzs u.tbls (fun m' hm => by
    obtain ⟨o', es', ep', ho', r'⟩ := hm
    rw [ho] at ho'; cases ho'
    exact ⟨_, es', ep', hL, r'⟩) hok hg
/-- an untracked record of ours (an iterator) has turned -/
theorem Inv.turned {t' : Nat} {it : Addr} (I : Inv X pins σ H s) (k : ∀ b o, b ≠ it → s.heap.get? b = some o → h'.get? b = some o) (hn : H it = none) (hL : it ≠ X.env.locals)
    (h1 : it ∈ X.ex ∨ X.s_0.heap.objs.size ≤ it) (h2 : ∀ x c, X.env.cells.lookup x = some c → c ≠ it) (h3 : ∀ p ∈ X.pn ++ pins, p.1 ≠ it) : Inv X pins σ H { s with heap := h', toks := t' } := by
  have nit : ∀ b u, H b = some u → b ≠ it := fun b u e z => by rw [z, hn] at e; cases e
  refine I.step (g' := s.gens) (d' := s.drawn) (ch := [it]) (fun b hb => ?_) (fun b o _ _ hc e _ => k b o (fun z => hc (by simp [z])) e) (fun b o _ _ hc e _ => ⟨o.slots, k b o (fun z => hc (by simp [z])) e⟩) (fun _ _ _ _ n => n)
    (fun b o hc e => ⟨o, k b o (fun z => hc (by simp [z])) e⟩) (fun _ _ e => e) (fun _ _ _ e => e) (fun b ps e => ⟨#[], by rw [e]; simp⟩) (fun m hm => ?_) (fun b u e => ?_) I.bare.self
  · have e : b = it := by simpa using hb
    subst e
    exact ⟨h1, hL, h2, h3⟩
  · obtain ⟨o, es, ep, ho, r⟩ := hm
    exact ⟨o, es, ep, k _ o (Ne.symm hL) ho, r⟩
  · refine (I.hok b u e).stay (fun c v hc q => k c v ?_ q) (fun _ q => q) fun _ _ q => q
    rcases hc with z | z
    · rw [z]; exact nit b u e
    · exact nit c _ z
theorem Inv.tok (I : Inv X pins σ H s) (t : Nat) : Inv X pins σ H { s with toks := t } := I.un (h' := s.heap) (t' := t) Un.refl I.hok
/-- all objects kept -/
theorem Inv.kept {t' : Nat} (I : Inv X pins σ H s) (k : ∀ b u, s.heap.get? b = some u → h'.get? b = some u) : Inv X pins σ H { s with heap := h', toks := t' } := I.un (Un.kept k) (I.hok.kept k)
/-- a new object laid and tracked -/
theorem Inv.laid {a : Addr} {o : HO} {t' : Nat} (I : Inv X pins σ H s) (k : ∀ b u, s.heap.get? b = some u → h'.get? b = some u) (hp : s.heap.objs.size ≤ a) (new : ObjOk X.prog X.w (upd H a o) h' a o) :
    Inv X pins σ (upd H a o) { s with heap := h', toks := t' } := I.un (Un.laid k hp (I.hok.fresh hp)) (I.hok.laid k hp new)
/-- an object written -/
theorem Inv.write {x e : Addr} {o : HO} {t' : Nat} (I : Inv X pins σ H s) (mu : Mut (H x)) (he : e = x ∨ H e = some (.own x)) (k : ∀ b u, b ≠ e → s.heap.get? b = some u → h'.get? b = some u) (heo : ∃ u, h'.get? e = some u)
    (new : ObjOk X.prog X.w (upd H x o) h' x o) : Inv X pins σ (upd H x o) { s with heap := h', toks := t' } := I.un (Un.write mu he k heo) (I.hok.write mu he k heo new)
/-- forgetting slots, pins -/
theorem Inv.weak {σ' : List (Option V)} (I : Inv X pins σ H s) (hl : σ'.length = σ.length) (w : ∀ (i : Nat) v, σ'[i]? = some (some v) → σ[i]? = some (some v)) : Inv X pins σ' H s :=
  ⟨I.ok, I.os, I.bare, I.base, let ⟨m, hn, hl'⟩ := I.loc; ⟨m, hn, fun i x v e1 e2 e3 => hl' i x v e1 (w i v e2) e3⟩, I.cell, I.free, I.freeC, I.pin, I.hok, hl.trans I.len⟩
theorem Inv.pins_of {pins' : List (Addr × Obj)} (I : Inv X pins σ H s) (h : ∀ p ∈ pins', s.heap.get? p.1 = some p.2 ∧ H p.1 = none ∧ p.1 ≠ X.env.locals ∧ p.1 ∉ X.fs ∧ ∀ v, p.2.data ≠ .cell v) : Inv X pins' σ H s :=
  ⟨I.ok, I.os, I.bare, I.base, I.loc, I.cell, I.free, I.freeC, fun p hp => (List.mem_append.mp hp).elim (fun z => I.pin p (List.mem_append_left _ z)) (h p), I.hok, I.len⟩
theorem nodup_ix {N : List Str} (hN : N.Nodup) {i j : Nat} {x : Str} (a : N[i]? = some x) (b : N[j]? = some x) : i = j := by
  obtain ⟨h1, e1⟩ := List.getElem?_eq_some_iff.mp a
  obtain ⟨h2, e2⟩ := List.getElem?_eq_some_iff.mp b
  exact (List.getElem_inj hN).mp (e1.trans e2.symm)
/-- a name is stored; what changed -/
theorem store_ok2 {M : Model} {A : Around} {E : Value → Shared → Prop} {i : Nat} {x : Str} {v : V} {u : Value} {Q : Unit → Shared → Prop} (I : Inv X pins σ H s) (hN : X.N.Nodup) (hi : X.N[i]? = some x) (hx : Loc X.env.scope x) (r : RelV v u)
    (h : ∀ s', Inv X pins (σ.set i (some v)) H s' → (∃ a, Heap.SameBut a s.heap s'.heap ∧ (a = X.env.locals ∨ X.env.cells.lookup x = some a)) → Q () s') (hf : X.fn x = true ∨ X.env.scope.names.lookup x = some .local := by first | exact .inl rfl | exact .inr rfl | assumption) : wpAny M A (storeName X.env x u) Q E s := by
  obtain ⟨m, hn, hl⟩ := id I.loc
  have hcls : (X.env.scope.kind == .class || (X.env.scope.kind == .module && X.env.locals != X.env.globals)) = false := by rw [I.ok.kind]; rfl
  have hiσ : i < σ.length := by rw [I.len]; exact (List.getElem?_eq_some_iff.mp hi).1
  have cne := I.cne
  have tracked : ∀ {a : Addr} {h' : Heap}, (∃ o, s.heap.get? a = some o ∧ H a = none) → Heap.SameBut a s.heap h' → HOk X.prog X.w H h' := fun {a h'} ha hs b ob e => by
    obtain ⟨_, _, hfree⟩ := ha
    refine (I.hok b ob e).stay (fun c w' hc q => (hs.2 c ?_).trans q) (fun _ q => q) fun _ _ q => q
    rintro rfl
    rcases hc with rfl | hc
    · rw [hfree] at e; cases e
    · rw [hfree] at hc; cases hc
  rcases hx with hk | hk
  · refine wpAny_storeName_local hk hn (fun h' hn' hs => ?_) hcls
    obtain ⟨oL, _, _, hoL, _⟩ := id hn
    refine h _ ⟨I.ok, I.os, I.bare, ⟨fun b o e n hb hx => ?_, fun b o e n hb hx => ?_, I.base.free, fun b o e hx => ?_, I.base.tups, I.base.frzs, I.base.tbls⟩, ⟨_, hn', fun j y v' e1 e2 e3 => ?_⟩, fun y c e => ?_, I.free, I.freeC, fun p hp => ?_, tracked ⟨oL, hoL, I.free⟩ hs, by simpa using I.len⟩ ⟨_, hs, .inl rfl⟩
    · exact (hs.2 b (Nat.ne_of_lt (Nat.lt_of_lt_of_le (Heap.lt_size e) I.ok.above))).trans (I.base.keep b o e n hb hx)
    · obtain ⟨sl, e1⟩ := I.base.slot b o e n hb hx
      exact ⟨sl, (hs.2 b (Nat.ne_of_lt (Nat.lt_of_lt_of_le (Heap.lt_size e) I.ok.above))).trans e1⟩
    · obtain ⟨o', e1⟩ := I.base.there b o e hx
      exact ⟨o', (hs.2 b (Nat.ne_of_lt (Nat.lt_of_lt_of_le (Heap.lt_size e) I.ok.above))).trans e1⟩
    · by_cases hj : j = i
      · subst hj
        rw [hi] at e1; cases e1
        rw [List.getElem?_set_self hiσ] at e2
        cases e2
        exact ⟨u, r, .inl ⟨hk, by simp⟩⟩
      · rw [List.getElem?_set_ne (Ne.symm hj)] at e2
        obtain ⟨u', r', q⟩ := hl j y v' e1 e2 e3
        refine ⟨u', r', ?_⟩
        rcases q with ⟨k, e⟩ | ⟨k, c, e, z⟩
        · refine .inl ⟨k, ?_⟩
          have : y ≠ x := fun e => hj (nodup_ix hN e1 (e ▸ hi))
          simp [this, e]
        · exact .inr ⟨k, c, e, z.sameBut hs (cne y c e)⟩
    · obtain ⟨w', z⟩ := I.cell y c e
      exact ⟨w', z.sameBut hs (cne y c e)⟩
    · obtain ⟨e, n, ne, nf, d⟩ := I.pin p hp
      exact ⟨(hs.2 p.1 ne).trans e, n, ne, nf, d⟩
  · have hfn : X.fn x = true := by
      rcases hf with z | z
      · exact z
      · rw [z] at hk; cases hk
    obtain ⟨c, hc⟩ := I.ok.has x (.inl hk)
    obtain ⟨w', z⟩ := I.cell x c hc
    refine wpAny_storeName_cell I.ok.kind hk hc z (fun h' hc' hs => ?_)
    obtain ⟨oc, hoc, hocd⟩ := id z
    refine h { s with heap := h' } ⟨I.ok, I.os, I.bare, ⟨fun b o e n hb hx => ?_, fun b o e n hb hx => ?_, I.base.free, fun b o e hx => ?_, I.base.tups, I.base.frzs, I.base.tbls⟩, ⟨m, hn.sameBut hs (Ne.symm (cne x c hc)), fun j y v' e1 e2 e3 => ?_⟩, fun y c' e => ?_, I.free, I.freeC, fun p hp => ?_, tracked ⟨oc, hoc, I.freeC x c hc⟩ hs, by simpa using I.len⟩ ⟨c, hs, .inr hc⟩
    · exact (hs.2 b (Nat.ne_of_lt (Nat.lt_of_lt_of_le (Heap.lt_size e) (I.ok.cab x c hfn hc)))).trans (I.base.keep b o e n hb hx)
    · obtain ⟨sl, e1⟩ := I.base.slot b o e n hb hx
      exact ⟨sl, (hs.2 b (Nat.ne_of_lt (Nat.lt_of_lt_of_le (Heap.lt_size e) (I.ok.cab x c hfn hc)))).trans e1⟩
    · obtain ⟨o', e1⟩ := I.base.there b o e hx
      exact ⟨o', (hs.2 b (Nat.ne_of_lt (Nat.lt_of_lt_of_le (Heap.lt_size e) (I.ok.cab x c hfn hc)))).trans e1⟩
    · by_cases hj : j = i
      · subst hj
        rw [hi] at e1; cases e1
        rw [List.getElem?_set_self hiσ] at e2
        cases e2
        exact ⟨u, r, .inr ⟨.inl hk, c, hc, hc'⟩⟩
      · rw [List.getElem?_set_ne (Ne.symm hj)] at e2
        obtain ⟨u', r', q⟩ := hl j y v' e1 e2 e3
        refine ⟨u', r', ?_⟩
        rcases q with q | ⟨k, c', e, z'⟩
        · exact .inl q
        · refine .inr ⟨k, c', e, z'.sameBut hs ?_⟩
          rintro rfl
          exact hj (nodup_ix hN e1 (I.ok.inj _ _ _ e hc ▸ hi))
    · by_cases hcc : c' = c
      · subst hcc; exact ⟨_, hc'⟩
      · obtain ⟨w2, z2⟩ := I.cell y c' e
        exact ⟨w2, z2.sameBut hs hcc⟩
    · obtain ⟨e, n, ne, nf, d⟩ := I.pin p hp
      refine ⟨(hs.2 p.1 ?_).trans e, n, ne, nf, d⟩
      intro q
      rw [q, hoc] at e
      have q' : oc = p.2 := Option.some.inj e
      exact d w' (by rw [← q']; exact hocd)
theorem store_ok {M : Model} {A : Around} {E : Value → Shared → Prop} {i : Nat} {x : Str} {v : V} {u : Value} {Q : Unit → Shared → Prop} (I : Inv X pins σ H s) (hN : X.N.Nodup) (hi : X.N[i]? = some x) (hx : Loc X.env.scope x) (r : RelV v u)
    (h : ∀ s', Inv X pins (σ.set i (some v)) H s' → Q () s') (hf : X.fn x = true ∨ X.env.scope.names.lookup x = some .local := by first | exact .inl rfl | exact .inr rfl | assumption) : wpAny M A (storeName X.env x u) Q E s :=
  store_ok2 I hN hi hx r (fun s' I' _ => h s' I') hf
/-- behind a call or a block, the state as it is -/
theorem Inv.call' {s' : Shared} {ch : List Addr} (I : Inv X pins σ H s) (ho : s'.os = s.os) (u : Un (frs X.stack) ch H H' s.heap s'.heap) (hok : HOk X.prog X.w H' s'.heap) (hg : GB s.gens.size s'.gens)
    (hch : ∀ b ∈ ch, (b ∈ X.ex ∨ X.s_0.heap.objs.size ≤ b) ∧ b ≠ X.env.locals ∧ (∀ x c, X.env.cells.lookup x = some c → c ≠ b) ∧ ∀ p ∈ X.pn ++ pins, p.1 ≠ b) : Inv X pins σ H' s' := by
  obtain ⟨h', g', d', t', o'⟩ := s'
  have e : o' = s.os := ho
  subst e
  exact I.call (g' := g') (t' := t') (d' := d') u hok hg hch
end
/-- an exception: its class, its own dict's address (where it has one), the abstract heap behind it -/
abbrev XK := Value → Option Addr → Hp → Prop
abbrev St := List (Option V)
abbrev VK := V → Hp → Prop
/-- an expression's reading; a test's; an argument list's -/
abbrev TE := St → Hp → VK → Prop
abbrev TT := St → Hp → (Bool → Hp → Prop) → Prop
abbrev TA := St → Hp → (List V → Hp → Prop) → Prop
/-- what is wanted behind a statement -/
structure Ends where
  nx : St → Hp → Prop
  rt : VK
  bk : St → Hp → Prop := fun _ _ => False
  ct : St → Hp → Prop := fun _ _ => False
abbrev TS := Ends → St → Hp → Prop
def EP (X : Cx) (pins : List (Addr × Obj)) (σ : St) (Q : VK) (u : Value) (s' : Shared) : Prop := ∃ v H', Inv X pins σ H' s' ∧ RelV v u ∧ Q v H'
def TP (X : Cx) (pins : List (Addr × Obj)) (σ : St) (Q : Bool → Hp → Prop) (b : Bool) (s' : Shared) : Prop := ∃ H', Inv X pins σ H' s' ∧ Q b H'
def AP (X : Cx) (pins : List (Addr × Obj)) (σ : St) (Q : List V → Hp → Prop) (us : List Value) (s' : Shared) : Prop := ∃ vs H', Inv X pins σ H' s' ∧ Vals vs us ∧ Q vs H'
def SP (X : Cx) (pins : List (Addr × Obj)) (D : Ends) (f : Flow) (s' : Shared) : Prop :=
  match f with
  | .next => ∃ σ' H', Inv X pins σ' H' s' ∧ D.nx σ' H'
  | .brk => ∃ σ' H', Inv X pins σ' H' s' ∧ D.bk σ' H'
  | .cont => ∃ σ' H', Inv X pins σ' H' s' ∧ D.ct σ' H'
  | .ret u => ∃ v σ' H', Inv X pins σ' H' s' ∧ RelV v u ∧ D.rt v H'
def PE (X : Cx) (e : Expr) (t : TE) : Prop :=
  ∀ ⦃pins : List (Addr × Obj)⦄ (s : Shared) (σ : St) (H : Hp) (Q : VK), Inv X pins σ H s → t σ H Q → wpAny (model X.prog X.w) X.A (eval e X.env) (EP X pins σ Q) X.xe s
def PT (X : Cx) (e : Expr) (t : TT) : Prop :=
  ∀ ⦃pins : List (Addr × Obj)⦄ (s : Shared) (σ : St) (H : Hp) (Q : Bool → Hp → Prop), Inv X pins σ H s → t σ H Q → wpAny (model X.prog X.w) X.A (isTrue e X.env (eval e X.env)) (TP X pins σ Q) X.xe s
/-- a test whatever its 'whole' is (and, or) -/
def PW (X : Cx) (e : Expr) (t : TT) : Prop :=
  ∀ ⦃pins : List (Addr × Obj)⦄ (whole : Sem Value) (s : Shared) (σ : St) (H : Hp) (Q : Bool → Hp → Prop), Inv X pins σ H s → t σ H Q → wpAny (model X.prog X.w) X.A (isTrue e X.env whole) (TP X pins σ Q) X.xe s
theorem PW.pt {X : Cx} {e : Expr} {t : TT} (h : PW X e t) : PT X e t := fun pins => @h pins _
/-- not a starred one -/
def noStar : Expr → Bool
  | .Starred _ _ => false
  | _ => true
theorem star_of {e : Expr} {es : List Expr} {env : Env} (h : noStar e = true) : starEach (e :: es) env = (false, eval e env) :: starEach es env := by
  cases e <;> first
    | rfl
    | exact absurd h Bool.false_ne_true
theorem star_of1 {a : Expr} {env : Env} (h : noStar a = true) : starEach [a] env = [(false, eval a env)] := by
  rw [star_of h]
  rfl
theorem plain_of {pos : Pos} {env : Env} : ∀ {es : List Expr}, es.all noStar = true → (backTo pos (starEach es env)).any (·.1) = false
  | [], _ => rfl
  | e :: es, h => by
    rw [List.all_cons, Bool.and_eq_true] at h
    rw [star_of h.1]
    exact plain_of h.2
/-- an argument list (no star), from the left -/
def PA (X : Cx) (es : List Expr) (t : TA) : Prop :=
  ∀ ⦃pins : List (Addr × Obj)⦄ (pos : Pos) (s : Shared) (σ : St) (H : Hp) (Q : List V → Hp → Prop), Inv X pins σ H s → t σ H Q → wpAny (model X.prog X.w) X.A (spliced (backTo pos (starEach es X.env))) (AP X pins σ Q) X.xe s
def PS (X : Cx) (st : Stmt) (t : TS) : Prop :=
  ∀ ⦃pins : List (Addr × Obj)⦄ (s : Shared) (σ : St) (H : Hp) (D : Ends), Inv X pins σ H s → t D σ H → wpAny (model X.prog X.w) X.A (exec st X.env) (SP X pins D) X.xe s
def PSs (X : Cx) (st : List Stmt) (t : TS) : Prop :=
  ∀ ⦃pins : List (Addr × Obj)⦄ (s : Shared) (σ : St) (H : Hp) (D : Ends), Inv X pins σ H s → t D σ H → wpAny (model X.prog X.w) X.A (execs st X.env) (SP X pins D) X.xe s
/-- weaken the end -/
theorem thn {α : Type} {t : Sem α} {Q Q' : α → Shared → Prop} {M : Model} {A : Around} {E : Value → Shared → Prop} {s : Shared} (h : wpAny M A t Q E s) (hQ : ∀ a s, Q a s → Q' a s) : wpAny M A t Q' E s := wpAny_mono h hQ fun _ _ x => x
end L2
namespace L2
open PySem PySem.Spec PyProof.Rows
section
variable {X : Cx}
def tVar (i : Nat) : TE := fun σ H Q => ∃ v, σ[i]? = some (some v) ∧ Q v H
def tC (v : V) : TE := fun _ H Q => Q v H
theorem pe_var {i : Nat} {x : Str} {pos : Pos} (hN : X.N[i]? = some x) (hv : Vis X.env.scope x) (hd : (x == ("__debug__" : Str)) = false := by decide) (hcd : (x == ("__classdict__" : Str)) = false := by decide) : PE X (.Name x pos) (tVar i) := by
  intro pins s σ H Q I h
  obtain ⟨v, e, h⟩ := h
  obtain ⟨m, hn, hl⟩ := I.loc
  obtain ⟨u, r, l⟩ := hl i x v hN e hv
  have fin : EP X pins σ Q u s := ⟨v, H, I, r, h⟩
  rcases l with ⟨hk, hm⟩ | ⟨hk, c, hc, hcell⟩
  · exact wpAny_Name (wpAny_loadName_local I.ok.kind hk hn hm fin) hd
  · rcases hk with hk | hk
    · exact wpAny_Name (wpAny_loadName_cell I.ok.kind hk hc hcell fin) hd
    · exact wpAny_Name (wpAny_loadName_free I.ok.kind hk hc hcell fin hcd) hd
theorem pe_int {i j pos} : PE X (.Constant (.int i) j pos) (tC (.int i)) := fun _ _ _ H _ I h => wpAny_Constant_int ⟨.int i, H, I.tok _, ⟨_, rfl⟩, h⟩
theorem pe_bl {b j pos} : PE X (.Constant (.bool b) j pos) (tC (.bl b)) := fun _ _ _ H _ I h => Constant_bool ⟨.bl b, H, I, rfl, h⟩
theorem pe_non {j pos} : PE X (.Constant .none j pos) (tC .non) := fun _ _ _ H _ I h => Constant_none ⟨.non, H, I, rfl, h⟩
theorem pe_str {x j pos} : PE X (.Constant (.str x) j pos) (tC (.str x)) := fun _ _ _ H _ I h => Calls.Constant_str ⟨.str x, H, I.tok _, ⟨_, rfl⟩, h⟩
/-- a global name of the def -/
def Gl (X : Cx) (x : Str) : Prop := X.env.kindOf x = some .globalImplicit
theorem ld_glob {E : Value → Shared → Prop} {pins : List (Addr × Obj)} {s : Shared} {σ : St} {H : Hp} {x : Str} {u : Value} {pos : Pos} {Q : Value → Shared → Prop} (I : Inv X pins σ H s) (hg : Gl X x) (hm : X.mg x = some u) (h : Q u s)
    (hd : (x == ("__debug__" : Str)) = false := by decide) : wpAny (model X.prog X.w) X.A (eval (.Name x pos) X.env) Q E s :=
  Calls.Name_function_global I.ok.kind hg (Calls.loadGlobal_global (by rw [I.ok.glob]; exact I.mod.glob.keeps I.bk) hm h) hd
theorem ld_blt {E : Value → Shared → Prop} {pins : List (Addr × Obj)} {s : Shared} {σ : St} {H : Hp} {x : Str} {u : Value} {pos : Pos} {Q : Value → Shared → Prop} (I : Inv X pins σ H s) (hg : Gl X x) (hm : X.mg x = none) (hv : bootBuiltins x = some u) (h : Q u s)
    (hn : x ≠ "__name__" := by decide) (hd : (x == ("__debug__" : Str)) = false := by decide) : wpAny (model X.prog X.w) X.A (eval (.Name x pos) X.env) Q E s := by
  obtain ⟨mb, h1, h2⟩ := I.mod.blt
  exact Calls.Name_function_global I.ok.kind hg (Calls.loadGlobal_builtin (by rw [I.ok.glob]; exact I.mod.glob.keeps I.bk) hm (by rw [I.ok.blt]; exact h1.keeps I.bk) ((h2 x hn).trans hv) h) hd
/-- a module's constant, a class, a function, as a value -/
theorem pe_glob {x : Str} {v : V} {u : Value} {pos : Pos} (hg : Gl X x) (hm : X.mg x = some u) (r : RelV v u) (hd : (x == ("__debug__" : Str)) = false := by decide) : PE X (.Name x pos) (tC v) :=
  fun _ _ _ H _ I h => ld_glob I hg hm ⟨v, H, I, r, h⟩ hd
theorem pe_bltn {x : Str} {v : V} {u : Value} {pos : Pos} (hg : Gl X x) (hm : X.mg x = none) (hv : bootBuiltins x = some u) (r : RelV v u) (hn : x ≠ "__name__" := by decide) (hd : (x == ("__debug__" : Str)) = false := by decide) : PE X (.Name x pos) (tC v) :=
  fun _ _ _ H _ I h => ld_blt I hg hm hv ⟨v, H, I, r, h⟩ hn hd
variable {a b : Expr} {ta tb : TE} {pos : Pos}
def PC (X : Cx) (op : CmpOp) (a b : Expr) (t : TE) : Prop :=
  ∀ ⦃pins : List (Addr × Obj)⦄ (s : Shared) (σ : St) (H : Hp) (Q : VK), Inv X pins σ H s → t σ H Q →
    wpAny (model X.prog X.w) X.A (eval a X.env) (fun v s₁ => wpAny (model X.prog X.w) X.A (eval b X.env) (fun u s₂ => wpAny (model X.prog X.w) X.A (compareOp op v u) (EP X pins σ Q) X.xe s₂) X.xe s₁) X.xe s
theorem nobehind (b : Expr) {op : CmpOp} (h : op ≠ .In) (h2 : op ≠ .NotIn) : behindInMarks op b = false := by
  have e1 : (op == CmpOp.In) = false := by cases op <;> first | rfl | exact absurd rfl h
  have e2 : (op == CmpOp.NotIn) = false := by cases op <;> first | rfl | exact absurd rfl h2
  cases b <;> simp [behindInMarks, e1, e2]
def tNotN (ta : TE) : TE := fun σ H Q => ta σ H fun x H1 => Q (.bl (!decide (x = .non))) H1
theorem RelV.none_iff {x : V} {v : Value} (r : RelV x v) : (v == Value.none) = decide (x = .non) := by
  cases x with
  | non => cases r; rfl
  | bl _ => cases r; rfl
  | int _ => obtain ⟨t, rfl⟩ := r; rfl
  | str _ => obtain ⟨t, rfl⟩ := r; rfl
  | byt _ => obtain ⟨t, rfl⟩ := r; rfl
  | flt _ => obtain ⟨t, rfl⟩ := r; rfl
  | ref _ => cases r; rfl
  | ty _ => cases r; rfl
theorem pc_notN {j pos'} (ha : PE X a ta) : PC X .IsNot a (.Constant .none j pos') (tNotN ta) := by
  intro pins s σ H Q I h
  refine thn (ha s σ H _ I h) fun v s1 ⟨x, H1, I1, r1, q1⟩ => ?_
  exact Constant_none (isnot_none_gen ⟨.bl _, H1, I1, by rw [r1.none_iff]; rfl, q1⟩)
/-- a comparison as a value, as a test -/
def tB (t : TE) : TT := fun σ H Q => t σ H fun x H1 => ∃ c, x = .bl c ∧ Q c H1
theorem pt_cmp {op : CmpOp} {t : TE} (h : PC X op a b t) (h1 : behindInMarks op b = false := by first | exact nobehind _ (by decide) (by decide) | rfl) : PT X (.Compare a [op] [b] pos) (tB t) := by
  intro pins s σ H Q I hw
  refine wpAny_isTrue_Compare1 (thn (h s σ H _ I hw) fun v s1 h1 => thn h1 fun u s2 h2 => thn h2 fun c s3 ⟨x, H1, I1, r1, q1⟩ => ?_) h1
  obtain ⟨d, rfl, q⟩ := q1
  cases r1
  exact wpAny_truthy_bool ⟨H1, I1, q⟩
/-- an expression whose value is a bool, as a test -/
theorem pt_val {e : Expr} {t : TE} (h : PE X e t) (he : ∀ whole, isTrue e X.env whole = (do let v ← whole; standAt e.pos; holding [v] (truthy v)) := by intro _; rfl) : PT X e (tB t) := by
  intro pins s σ H Q I hw
  refine isTrue_plain (thn (h s σ H _ I hw) fun v s1 ⟨x, H1, I1, r1, q1⟩ => ?_) (he _)
  obtain ⟨d, rfl, q⟩ := q1
  cases r1
  exact wpAny_truthy_bool ⟨H1, I1, q⟩
variable {tA tB' : TT} {rest : List Expr}
def tOr (t u : TT) : TT := fun σ H Q => t σ H fun c H1 => if c = true then Q true H1 else u σ H1 Q
def tNot (t : TT) : TT := fun σ H Q => t σ H fun c H1 => Q (!c) H1
theorem pw_or1 (ha : PT X a tA) : PW X (.BoolOp .Or [a] pos) tA := by
  intro pins wh s σ H Q I h
  refine isTrue_or (thn (ha s σ H Q I h) fun c s1 e => ?_)
  cases c with
  | false => exact isTrue_or_nil e
  | true => exact e
theorem pw_or (ha : PT X a tA) (hb : PW X (.BoolOp .Or (b :: rest) pos) tB') : PW X (.BoolOp .Or (a :: b :: rest) pos) (tOr tA tB') := by
  intro pins wh s σ H Q I h
  refine isTrue_or (thn (ha s σ H _ I h) fun c s1 ⟨H1, I1, q1⟩ => ?_)
  cases c with
  | true => exact ⟨H1, I1, q1⟩
  | false => exact hb wh s1 σ H1 Q I1 q1
theorem pt_not (ha : PT X a tA) : PT X (.UnaryOp .Not a pos) (tNot tA) := by
  intro pins s σ H Q I h
  exact isTrue_not (ha s σ H (fun c H1 => Q (!c) H1) I h)
/-- .. as values (bools) -/
def tAndV (ta tb : TE) : TE := fun σ H Q => ta σ H fun x H1 => ∃ c, x = .bl c ∧ if c = true then tb σ H1 Q else Q (.bl false) H1
def tNotV (ta : TE) : TE := fun σ H Q => ta σ H fun x H1 => ∃ c, x = .bl c ∧ Q (.bl (!c)) H1
theorem pe_one {op} {t : TE} (h : PE X a t) : PE X (.BoolOp op [a] pos) t := fun pins s σ H Q I hw => BoolOp_one (h s σ H Q I hw)
theorem pe_and (ha : PE X a ta) (hb : PE X (.BoolOp .And (b :: rest) pos) tb) : PE X (.BoolOp .And (a :: b :: rest) pos) (tAndV ta tb) := by
  intro pins s σ H Q I h
  refine BoolOp_and (thn (ha s σ H _ I h) fun v s1 ⟨x, H1, I1, r1, q1⟩ => ?_)
  obtain ⟨c, rfl, q1⟩ := q1
  cases r1
  refine wpAny_truthy_bool ?_
  cases c with
  | true => exact hb s1 σ H1 Q I1 q1
  | false => exact ⟨.bl false, H1, I1, rfl, q1⟩
theorem pe_not (ha : PE X a ta) : PE X (.UnaryOp .Not a pos) (tNotV ta) := by
  intro pins s σ H Q I h
  refine UnaryOp_ (thn (ha s σ H _ I h) fun v s1 ⟨x, H1, I1, r1, q1⟩ => ?_)
  obtain ⟨c, rfl, q1⟩ := q1
  cases r1
  exact not_of (wpAny_truthy_bool ⟨.bl (!c), H1, I1, rfl, q1⟩)
/-- a if t else b -/
def tIf (t : TT) (ta tb : TE) : TE := fun σ H Q => t σ H fun c H1 => if c = true then ta σ H1 Q else tb σ H1 Q
theorem pe_ifExp {c : Expr} (hc : PT X c tA) (ha : PE X a ta) (hb : PE X b tb) : PE X (.IfExp c a b pos) (tIf tA ta tb) := by
  intro pins s σ H Q I h
  refine wpAny_IfExp (thn (hc s σ H _ I h) fun d s1 ⟨H1, I1, q1⟩ => ?_)
  cases d with
  | true => exact ha s1 σ H1 Q I1 q1
  | false => exact hb s1 σ H1 Q I1 q1
end
end L2
namespace L2
open PySem PySem.Spec PyProof.Rows
def SqL (K : PySem.W.Frag) (H : Hp) (a : Addr) (xs : List V) : Prop :=
  Rd H a (.lst xs) ∨
    ∃ (o : Obj) (its : Array Value) (n : Nat), K.lookup a = some o ∧ o.cls = .type "list" ∧ o.dict = none ∧ o.data = .seq its n ∧ its.size ≤ sizeLine ∧ Vals xs its.toList
def SqT (K : PySem.W.Frag) (H : Hp) (a : Addr) (xs : List V) : Prop :=
  Rd H a (.tup xs) ∨
    ∃ (o : Obj) (its : Array Value) (n : Nat), K.lookup a = some o ∧ o.cls = .type "tuple" ∧ o.data = .seq its n ∧ its.size ≤ sizeLine ∧ Vals xs its.toList
def absV : Value → Option V
  | .none => some .non
  | .bool b => some (.bl b)
  | .int i _ => some (.int i)
  | .str x _ => some (.str x)
  | .bytes b _ => some (.byt b)
  | .float b _ => some (.flt b)
  | .ref a => some (.ref a)
  | .type n => some (.ty n)
  | _ => none
theorem RelV.abs {x : V} {u : Value} (r : RelV x u) : absV u = some x := by
  cases x with
  | non => cases r; rfl
  | bl _ => cases r; rfl
  | int _ => obtain ⟨t, rfl⟩ := r; rfl
  | str _ => obtain ⟨t, rfl⟩ := r; rfl
  | byt _ => obtain ⟨t, rfl⟩ := r; rfl
  | flt _ => obtain ⟨t, rfl⟩ := r; rfl
  | ref _ => cases r; rfl
  | ty _ => cases r; rfl
theorem RelV.inj {x y : V} {u : Value} (r : RelV x u) (q : RelV y u) : x = y := Option.some.inj (r.abs.symm.trans q.abs)
theorem Vals.inj : ∀ {xs ys : List V} {us : List Value}, Vals xs us → Vals ys us → xs = ys
  | _, _, _, .nil, .nil => rfl
  | _, _, _, .cons r t, .cons r' t' => by rw [r.inj r', Vals.inj t t']
section
variable {X : Cx} {pins : List (Addr × Obj)} {σ : St} {H : Hp} {s : Shared} {a : Addr} {xs ys : List V}
theorem SqL.of {K : PySem.W.Frag} (h : H a = some (.lst xs)) : SqL K H a xs := .inl (.inl h)
theorem SqT.of {K : PySem.W.Frag} (h : H a = some (.tup xs)) : SqT K H a xs := .inl (.inl h)
theorem Inv.list (I : Inv X pins σ H s) (h : SqL X.K H a xs) : ∃ its : List Value, Vals xs its ∧ PlainL s.heap a its.toArray ∧ xs.length ≤ sizeLine := by
  rcases h with h | ⟨o, its, n, hk, hc, hd, hs, hz, r⟩
  · obtain ⟨z, its, n, r, e⟩ := h.ok I.hok
    exact ⟨its, r, ⟨_, n, e, rfl, rfl, rfl⟩, z⟩
  · refine ⟨its.toList, r, ⟨o, n, I.kIn a o hk, hc, hd, by simpa using hs⟩, ?_⟩
    have e := r.length
    simp only [Array.length_toList] at e
    omega
theorem Inv.tuple (I : Inv X pins σ H s) (h : SqT X.K H a xs) : ∃ its : List Value, Vals xs its ∧ IsTup s.heap a its.toArray ∧ xs.length ≤ sizeLine := by
  rcases h with h | ⟨o, its, n, hk, hc, hs, hz, r⟩
  · obtain ⟨z, its, r, p⟩ := h.ok I.hok
    exact ⟨its, r, p.tup, z⟩
  · refine ⟨its.toList, r, ⟨o, I.kIn a o hk, hc, n, by simpa using hs⟩, ?_⟩
    have e := r.length
    simp only [Array.length_toList] at e
    omega
theorem Inv.list_inj (I : Inv X pins σ H s) (h : SqL X.K H a xs) (h' : SqL X.K H a ys) : xs = ys := by
  obtain ⟨its, r, ⟨o, n, e, _, _, d⟩, _⟩ := I.list h
  obtain ⟨its', r', ⟨o', n', e', _, _, d'⟩, _⟩ := I.list h'
  rw [e] at e'; cases e'
  rw [d] at d'
  injection d' with d1 _
  have : its = its' := by simpa using congrArg Array.toList d1
  subst this
  exact r.inj r'
theorem Inv.tuple_inj (I : Inv X pins σ H s) (h : SqT X.K H a xs) (h' : SqT X.K H a ys) : xs = ys := by
  obtain ⟨its, r, ⟨o, e, _, n, d⟩, _⟩ := I.tuple h
  obtain ⟨its', r', ⟨o', e', _, n', d'⟩, _⟩ := I.tuple h'
  rw [e] at e'; cases e'
  rw [d] at d'
  injection d' with d1 _
  have : its = its' := by simpa using congrArg Array.toList d1
  subst this
  exact r.inj r'
end
abbrev Cx.wish (X : Cx) (E : Value → Shared → Prop) : Cx := { X with xe := E }
/-- no exception leaves -/
abbrev Cx.nox (X : Cx) : Cx := X.wish fun _ _ => False
theorem Cx.Ok.wish {X : Cx} (ok : X.Ok) (E : Value → Shared → Prop) : (X.wish E).Ok :=
  ⟨ok.mod, ok.kind, ok.glob, ok.blt, ok.above, ok.inj, ok.has, ok.cab, ok.hd, ok.frames, ok.stk, ok.exf, ok.bs, ok.bsz, ok.noex, ok.exfs, ok.funs, ok.frf⟩
theorem Cx.Ok.unwish {X : Cx} {E : Value → Shared → Prop} (ok : (X.wish E).Ok) : X.Ok :=
  ⟨ok.mod, ok.kind, ok.glob, ok.blt, ok.above, ok.inj, ok.has, ok.cab, ok.hd, ok.frames, ok.stk, ok.exf, ok.bs, ok.bsz, ok.noex, ok.exfs, ok.funs, ok.frf⟩
section
variable {X : Cx} {pins : List (Addr × Obj)} {σ : St} {H : Hp} {s : Shared} {E : Value → Shared → Prop}
theorem Inv.wish (I : Inv X pins σ H s) (E : Value → Shared → Prop) : Inv (X.wish E) pins σ H s := ⟨I.ok.wish E, I.os, I.bare, I.base, I.loc, I.cell, I.free, I.freeC, I.pin, I.hok, I.len⟩
theorem Inv.unwish (I : Inv (X.wish E) pins σ H s) : Inv X pins σ H s := ⟨I.ok.unwish, I.os, I.bare, I.base, I.loc, I.cell, I.free, I.freeC, I.pin, I.hok, I.len⟩
theorem SP.unwish {D : Ends} {f : Flow} {s' : Shared} (h : SP (X.wish E) pins D f s') : SP X pins D f s' := by
  cases f with
  | next => obtain ⟨σ', H', I, q⟩ := h; exact ⟨σ', H', I.unwish, q⟩
  | brk => obtain ⟨σ', H', I, q⟩ := h; exact ⟨σ', H', I.unwish, q⟩
  | cont => obtain ⟨σ', H', I, q⟩ := h; exact ⟨σ', H', I.unwish, q⟩
  | ret u => obtain ⟨v, σ', H', I, r, q⟩ := h; exact ⟨v, σ', H', I.unwish, r, q⟩
theorem PE.nox {e : Expr} {t : TE} (h : PE X.nox e t) : PE X e t := fun pins s σ H Q I hw =>
  wpAny_mono (h s σ H Q (I.wish _) hw) (fun _ _ ⟨v, H', I', r, q⟩ => ⟨v, H', I'.unwish, r, q⟩) fun _ _ z => False.elim z
theorem PT.nox {e : Expr} {t : TT} (h : PT X.nox e t) : PT X e t := fun pins s σ H Q I hw =>
  wpAny_mono (h s σ H Q (I.wish _) hw) (fun _ _ ⟨H', I', q⟩ => ⟨H', I'.unwish, q⟩) fun _ _ z => False.elim z
theorem PSs.nox {st : List Stmt} {t : TS} (h : PSs X.nox st t) : PSs X st t := fun pins s σ H D I hw =>
  wpAny_mono (h s σ H D (I.wish _) hw) (fun _ _ q => q.unwish) fun _ _ z => False.elim z
end
section
variable {X : Cx} {st : Stmt} {rest : List Stmt} {t u : TS} {e : Expr} {te : TE} {pos : Pos}
def tNext : TS := fun D σ H => D.nx σ H
def tSeq (t u : TS) : TS := fun D σ H => t { D with nx := u D } σ H
theorem pss_nil : PSs X [] tNext := fun _ _ σ H _ I h => wpAny_execs_nil ⟨σ, H, I, h⟩
theorem pss_cons (h1 : PS X st t) (h2 : PSs X rest u) : PSs X (st :: rest) (tSeq t u) := by
  intro pins s σ H D I h
  refine wpAny_execs_cons (thn (h1 s σ H { D with nx := u D } I h) fun f s1 q => ?_)
  cases f with
  | next =>
    obtain ⟨σ', H', I', q⟩ := q
    exact h2 s1 σ' H' D I' q
  | ret v => exact q
  | brk => exact q
  | cont => exact q
theorem pss_one (h1 : PS X st t) : PSs X [st] t := by
  intro pins s σ H D I h
  refine wpAny_execs_cons (thn (h1 s σ H D I h) fun f s1 q => ?_)
  cases f with
  | next => exact wpAny_execs_nil q
  | ret v => exact q
  | brk => exact q
  | cont => exact q
/-- in a def's body nothing is shown -/
theorem Inv.quiet {pins : List (Addr × Obj)} {σ : St} {H : Hp} {s : Shared} (I : Inv X pins σ H s) : interactive X.env = false := by simp [interactive, I.ok.kind]
/-- an expression whose value is dropped -/
def tDrop (te : TE) : TS := fun D σ H => te σ H fun _ H1 => D.nx σ H1
theorem ps_expr (he : PE X e te) (hs : swapsWith e none pos.line X.env = pure false := by rfl) : PS X (.Expr e pos) (tDrop te) := by
  intro pins s σ H D I h
  exact wpAny_Expr_any (thn (he s σ H _ I h) fun v s1 ⟨x, H1, I1, r1, q1⟩ => ⟨σ, H1, I1, q1⟩) I.quiet hs
def tRet (te : TE) : TS := fun D σ H => te σ H D.rt
theorem ps_ret (he : PE X e te) : PS X (.Return (some e) pos) (tRet te) := by
  intro pins s σ H D I h
  exact wpAny_Return_some (thn (he s σ H _ I h) fun v s1 ⟨x, H1, I1, r1, q1⟩ => ⟨x, σ, H1, I1, r1, q1⟩)
def tIfS (c : TT) (t u : TS) : TS := fun D σ H => c σ H fun b H1 => if b = true then t D σ H1 else u D σ H1
theorem ps_if {c : Expr} {a b : List Stmt} {tc : TT} (hc : PT X c tc) (ha : PSs X a t) (hb : PSs X b u) : PS X (.If c a b pos) (tIfS tc t u) := by
  intro pins s σ H D I h
  refine wpAny_If (thn (hc s σ H _ I h) fun d s1 ⟨H1, I1, q1⟩ => ?_)
  cases d with
  | true => exact ha s1 σ H1 D I1 q1
  | false => exact hb s1 σ H1 D I1 q1
/-- code that the proof never comes to -/
def tNever : TS := fun _ _ _ => False
theorem ps_never : PS X st tNever := fun _ _ _ _ _ _ h => h.elim
theorem pss_never {sts : List Stmt} : PSs X sts tNever := fun _ _ _ _ _ _ h => h.elim
end
abbrev TG := V → St → Hp → (St → Hp → Prop) → Prop
abbrev TGs := List V → St → Hp → (St → Hp → Prop) → Prop
def PG (X : Cx) (target : Expr) (t : TG) : Prop :=
  ∀ ⦃pins : List (Addr × Obj)⦄ (s : Shared) (σ : St) (H : Hp) (v : V) (u : Value) (Q : St → Hp → Prop), Inv X pins σ H s → RelV v u → t v σ H Q →
    wpAny (model X.prog X.w) X.A (assign target X.env u) (fun _ s' => ∃ σ' H', Inv X pins σ' H' s' ∧ Q σ' H') X.xe s
/-- several targets, one after another -/
def PGs (X : Cx) (ts : List Expr) (t : TGs) : Prop :=
  ∀ ⦃pins : List (Addr × Obj)⦄ (s : Shared) (σ : St) (H : Hp) (vs : List V) (us : List Value) (Q : St → Hp → Prop), Inv X pins σ H s → Vals vs us → t vs σ H Q →
    wpAny (model X.prog X.w) X.A (assignInOrder ((assignEach ts X.env).map (·.2)) us) (fun _ s' => ∃ σ' H', Inv X pins σ' H' s' ∧ Q σ' H') X.xe s
/-- o[i] = v, by values -/
abbrev TSet := V → V → V → Hp → (Hp → Prop) → Prop
def PSet (X : Cx) (t : TSet) : Prop :=
  ∀ ⦃pins : List (Addr × Obj)⦄ (s : Shared) (σ : St) (H : Hp) (o i v : V) (ov iv u : Value) (Q : Hp → Prop), Inv X pins σ H s → RelV o ov → RelV i iv → RelV v u → t o i v H Q →
    wpAny (model X.prog X.w) X.A (setItem ov iv u) (fun _ s' => ∃ H', Inv X pins σ H' s' ∧ Q H') X.xe s
/-- a op= b, by values -/
abbrev TIp := V → V → Hp → VK → Prop
def PIp (X : Cx) (op : Operator) (t : TIp) : Prop :=
  ∀ ⦃pins : List (Addr × Obj)⦄ (s : Shared) (σ : St) (H : Hp) (x y : V) (v u : Value) (Q : VK), Inv X pins σ H s → RelV x v → RelV y u → t x y H Q →
    wpAny (model X.prog X.w) X.A (inplaceOp op v u) (EP X pins σ Q) X.xe s
section
variable {X : Cx} {pos : Pos}
def gName (i : Nat) : TG := fun v σ H Q => Q (σ.set i (some v)) H
theorem pg_name {i : Nat} {x : Str} (hN : X.N.Nodup) (hi : X.N[i]? = some x) (hx : Loc X.env.scope x) (hf : X.fn x = true ∨ X.env.scope.names.lookup x = some .local := by first | exact .inl rfl | exact .inr rfl | assumption) : PG X (.Name x pos) (gName i) := by
  intro pins s σ H v u Q I r h
  exact wpAny_assign_Name (store_ok I hN hi hx r (fun s' I' => ⟨_, H, I', h⟩) hf)
def gNil : TGs := fun vs σ H Q => vs = [] ∧ Q σ H
def gCons (t : TG) (u : TGs) : TGs := fun vs σ H Q => ∃ v r, vs = v :: r ∧ t v σ H fun σ' H' => u r σ' H' Q
theorem pgs_nil : PGs X [] gNil := by
  intro pins s σ H vs us Q I r h
  obtain ⟨e, h⟩ := h
  subst e
  cases r
  exact assignInOrder_nil ⟨σ, H, I, h⟩
theorem pgs_cons {e : Expr} {es : List Expr} {t : TG} {u : TGs} (h1 : PG X e t) (h2 : PGs X es u)
    (hs : (assignEach (e :: es) X.env).map (·.2) = assign e X.env :: (assignEach es X.env).map (·.2) := by rfl) : PGs X (e :: es) (gCons t u) := by
  intro pins s σ H vs us Q I r h
  obtain ⟨v, vr, e1, h⟩ := h
  subst e1
  cases r with
  | cons r rr =>
    rw [hs]
    refine assignInOrder_cons (thn (h1 s σ H _ _ _ I r h) fun _ s1 ⟨σ1, H1, I1, q1⟩ => ?_)
    exact h2 s1 σ1 H1 _ _ Q I1 rr q1
/-- (a, b, ..) = a tuple of that length -/
def gTup (K : PySem.W.Frag) (n : Nat) (t : TGs) : TG := fun v σ H Q => ∃ a xs, v = .ref a ∧ SqT K H a xs ∧ xs.length = n ∧ t xs σ H Q
theorem pg_tup {es : List Expr} {k : Nat} {t : TGs} {n : Nat} (hc : X.calm = true) (h : PGs X es t)
    (hn : (assignEach es X.env).length = n := by rfl) (hst : (assignEach es X.env).findIdx? (·.1) = none := by rfl) : PG X (.Tuple es k pos) (gTup X.K n t) := by
  intro pins s σ H v u Q I r hw
  obtain ⟨a, xs, e1, hq, hl, hw⟩ := hw
  subst e1
  cases r
  obtain ⟨its, rv, ht, hz⟩ := I.tuple hq
  refine assign_Tuple_tuple (I.ok.hd hc) ht (by simp [hn, ← hl, rv.length]) hst fun h' hx => ?_
  have I1 : Inv X pins σ H { s with heap := h' } := I.kept (t' := s.toks) fun b o e => hx b o (Nat.ne_of_lt (Heap.lt_size e)) e
  exact h _ σ H xs _ Q I1 (by simpa using rv) hw
/-- o[i] = .. -/
def gSub (to ti : TE) (t : TSet) : TG := fun v σ H Q => to σ H fun o H1 => ti σ H1 fun i H2 => t o i v H2 fun H3 => Q σ H3
theorem pg_sub {o i : Expr} {to ti : TE} {t : TSet} (ho : PE X o to) (hi : PE X i ti) (hs : PSet X t)
    (ha : ∀ v, assign (.Subscript o i pos) X.env v = (do
      let ov ← holding [v] (eval o X.env)
      let iv ← holding [v, ov] (eval i X.env)
      standAt pos
      holding [v, ov, iv] (setItem ov iv v)
      release [v, ov, iv] []) := by intro _; rfl) : PG X (.Subscript o i pos) (gSub to ti t) := by
  intro pins s σ H v u Q I r h
  rw [ha]
  refine wpAny_bind (wpAny_holding (thn (ho s σ H _ I h) fun ov s1 ⟨x, H1, I1, r1, q1⟩ => ?_))
  refine wpAny_bind (wpAny_holding (thn (hi s1 σ H1 _ I1 q1) fun iv s2 ⟨y, H2, I2, r2, q2⟩ => ?_))
  refine wpAny_bind (wpAny_standAt (wpAny_bind (wpAny_holding (thn (hs s2 σ H2 x y v ov iv u _ I2 r1 r2 r q2) fun _ s3 ⟨H3, I3, q3⟩ => ?_))))
  exact wpAny_release ⟨σ, H3, I3, q3⟩
/-- target = value -/
def tAsg (te : TE) (g : TG) : TS := fun D σ H => te σ H fun x H1 => g x σ H1 D.nx
theorem ps_asg {tg e : Expr} {te : TE} {g : TG} (he : PE X e te) (hg : PG X tg g) (hs : swapsWithSole [tg] e pos.line X.env = pure false := by rfl) (hw : swappedStores [tg] e X.env = pure none := by rfl)
    (h1 : (assignEach [tg] X.env).map (·.2) = [assign tg X.env] := by rfl) : PS X (.Assign [tg] e pos) (tAsg te g) := by
  intro pins s σ H D I h
  refine wpAny_Assign_stores (thn (he s σ H _ I h) fun v s1 ⟨x, H1, I1, r1, q1⟩ => ?_) hs hw
  rw [h1]
  exact thn (hg s1 σ H1 x v _ I1 r1 q1) fun _ s2 q => q
/-- name = value -/
theorem ps_set {i : Nat} {x : Str} {e : Expr} {te : TE} {pos' : Pos} (hN : X.N.Nodup) (hi : X.N[i]? = some x) (hx : Loc X.env.scope x) (he : PE X e te) (hs : swapsWith e (some (.Name x pos')) pos.line X.env = pure false := by rfl) (hf : X.fn x = true ∨ X.env.scope.names.lookup x = some .local := by first | exact .inl rfl | exact .inr rfl | assumption) :
    PS X (.Assign [.Name x pos'] e pos) (tAsg te (gName i)) := by
  intro pins s σ H D I h
  refine wpAny_Assign_Name (thn (he s σ H _ I h) fun v s1 ⟨y, H1, I1, r1, q1⟩ => ?_) hs
  exact store_ok I1 hN hi hx r1 (fun s2 I2 => ⟨_, H1, I2, q1⟩) hf
/-- a, b = x, y with plain local names: stored from the right; the pair itself is not tracked (the opening rows as in PyProof/Rows/TupAssign.lean:23) -/
def tPar (i j : Nat) (ta : TA) : TS := fun D σ H => ta σ H fun vs H1 => ∃ v w, vs = [v, w] ∧ D.nx ((σ.set i (some v)).set j (some w)) H1
theorem ps_par {i j : Nat} {x y : Str} {a b : Expr} {ta : TA} {px py pt : Pos} {kt k2 pt2} (hc : X.calm = true) (hN : X.N.Nodup) (hi : X.N[i]? = some x) (hj : X.N[j]? = some y) (hij : i ≠ j)
    (hx : X.env.scope.names.lookup x = some .local) (hy : X.env.scope.names.lookup y = some .local) (ha : PA X [a, b] ta)
    (hw : swappedStores [.Tuple [.Name x px, .Name y py] kt pt] (.Tuple [a, b] k2 pt2) X.env = pure (some [x, y]))
    (hs : swapsWithSole [.Tuple [.Name x px, .Name y py] kt pt] (.Tuple [a, b] k2 pt2) pos.line X.env = pure false := by rfl) :
    PS X (.Assign [.Tuple [.Name x px, .Name y py] kt pt] (.Tuple [a, b] k2 pt2) pos) (tPar i j ta) := by
  intro pins s σ H D I h
  rw [exec_Assign_arm]
  refine wpAny_bind (wpAny_standAt ?_)
  rw [hs]
  refine wpAny_bind (wpAny_pure ?_)
  rw [if_neg (by decide)]
  refine wpAny_bind (Tuple_ (thn (ha _ s σ H _ I h) fun us s1 ⟨vs, H1, I1, r1, q1⟩ => ?_))
  obtain ⟨v, w, e1, q1⟩ := q1
  subst e1
  obtain ⟨u1, u2, rfl, rv, rw'⟩ : ∃ u1 u2, us = [u1, u2] ∧ RelV v u1 ∧ RelV w u2 := by
    cases r1 with
    | cons p q =>
      cases q with
      | cons p' q' =>
        cases q'
        exact ⟨_, _, rfl, p, p'⟩
  refine wpAny_newObj_type ?_ (by show 2 ≤ sizeLine; decide)
  have I2 : Inv X pins σ H1 { s1 with heap := s1.heap.push { cls := .type "tuple", data := .seq [u1, u2].toArray } } := I1.kept (t' := s1.toks) fun b o e => Heap.get?_push_of_some _ e
  rw [hw]
  refine wpAny_bind (wpAny_pure ?_)
  show wpAny (model X.prog X.w) X.A (do rule "assign.swapped-stores"; let items ← unpackItems (.ref s1.heap.objs.size) 2 none; assignInOrder [fun v => bindName X.env y v, fun v => bindName X.env x v] items.reverse; pure Flow.next) _ _ _
  refine wpAny_bind (wpAny_rule (wpAny_bind (unpackItems_tuple (items := #[u1, u2]) (I.ok.hd hc) (IsTup.new s1.heap _) fun h' hx' => ?_)))
  have I3 := I2.kept (h' := h') (t' := s1.toks) fun b o e => hx' b o (Nat.ne_of_lt (Heap.lt_size e)) e
  show wpAny _ _ (assignInOrder [fun v => bindName X.env y v, fun v => bindName X.env x v] [u2, u1] >>= fun _ => pure Flow.next) _ _ _
  refine wpAny_bind (assignInOrder_cons (wpAny_bindName (store_ok I3 hN hj (.inl hy) rw' (fun s2 I4 => ?_) (.inr hy))))
  refine assignInOrder_cons (wpAny_bindName (store_ok I4 hN hi (.inl hx) rv (fun s3 I5 => assignInOrder_nil (wpAny_pure ?_)) (.inr hx)))
  rw [List.set_comm _ _ (Ne.symm hij)] at I5
  exact ⟨_, H1, I5, q1⟩
/-- name op= e -/
def tAug (i : Nat) (te : TE) (ti : TIp) : TS := fun D σ H => ∃ x, σ[i]? = some (some x) ∧ te σ H fun y H1 => ti x y H1 fun z H2 => D.nx (σ.set i (some z)) H2
theorem ps_aug {i : Nat} {x : Str} {e : Expr} {te : TE} {op : Operator} {ti : TIp} {pos' : Pos} (hN : X.N.Nodup) (hi : X.N[i]? = some x) (hx : Loc X.env.scope x) (he : PE X e te) (ho : PIp X op ti) (hf : X.fn x = true ∨ X.env.scope.names.lookup x = some .local := by first | exact .inl rfl | exact .inr rfl | assumption) :
    PS X (.AugAssign (.Name x pos') op e pos) (tAug i te ti) := by
  intro pins s σ H D I h
  obtain ⟨v, e1, h⟩ := h
  obtain ⟨m, hn, hl⟩ := I.loc
  have vis : Vis X.env.scope x := by rcases hx with k | k; exact .inl k; exact .inr (.inl k)
  obtain ⟨u, r, l⟩ := hl i x v hi e1 vis
  refine wpAny_AugAssign_Name ?_
  have go : wpAny (model X.prog X.w) X.A (eval e X.env) (fun w s₂ => wpAny (model X.prog X.w) X.A (inplaceOp op u w) (fun r s₃ => wpAny (model X.prog X.w) X.A (storeName X.env x r) (fun _ => SP X pins D .next) X.xe s₃) X.xe s₂) X.xe s := by
    refine thn (he s σ H _ I h) fun w s1 ⟨y, H1, I1, r1, q1⟩ => ?_
    refine thn (ho s1 σ H1 v y u w _ I1 r r1 q1) fun z s2 ⟨zv, H2, I2, r2, q2⟩ => ?_
    exact store_ok I2 hN hi hx r2 (fun s3 I3 => ⟨_, H2, I3, q2⟩) hf
  rcases l with ⟨hk, hm⟩ | ⟨hk, c, hc, hcell⟩
  · exact wpAny_loadName_local I.ok.kind hk hn hm go
  · rcases hk with hk | hk
    · exact wpAny_loadName_cell I.ok.kind hk hc hcell go
    · rcases hx with k | k
      · have : X.env.scope.names.lookup x = some .free := hk
        rw [k] at this; cases this
      · have : X.env.scope.names.lookup x = some .free := hk
        rw [k] at this; cases this
/-- o[i] op= e -/
def tAugS (to ti te : TE) (tget : V → V → Hp → VK → Prop) (tip : TIp) (tset : TSet) : TS := fun D σ H => to σ H fun o H1 => ti σ H1 fun i H2 => tget o i H2 fun x H3 => te σ H3 fun y H4 => tip x y H4 fun z H5 => tset o i z H5 fun H6 => D.nx σ H6
/-- o[i], by values -/
def PGet (X : Cx) (t : V → V → Hp → VK → Prop) : Prop :=
  ∀ ⦃pins : List (Addr × Obj)⦄ (s : Shared) (σ : St) (H : Hp) (o i : V) (ov iv : Value) (Q : VK), Inv X pins σ H s → RelV o ov → RelV i iv → t o i H Q →
    wpAny (model X.prog X.w) X.A (getItem ov iv) (EP X pins σ Q) X.xe s
theorem ps_augS {o i e : Expr} {to ti te : TE} {tget : V → V → Hp → VK → Prop} {tip : TIp} {tset : TSet} {op : Operator} {tpos : Pos} (ho : PE X o to) (hi : PE X i ti) (hg : PGet X tget) (he : PE X e te) (hp : PIp X op tip) (hs : PSet X tset)
    (ha : ∀ ov iv new, augStore i ov iv new = (do holding [new, ov, iv] (setItem ov iv new); release [new, ov, iv] []; pure .next) := by intros; rfl) : PS X (.AugAssign (.Subscript o i tpos) op e pos) (tAugS to ti te tget tip tset) := by
  intro pins s σ H D I h
  refine wpAny_AugAssign_SubscriptAny (thn (ho s σ H _ I h) fun ov s1 ⟨x1, H1, I1, r1, q1⟩ => ?_) ha
  refine thn (hi s1 σ H1 _ I1 q1) fun iv s2 ⟨x2, H2, I2, r2, q2⟩ => ?_
  refine thn (hg s2 σ H2 x1 x2 ov iv _ I2 r1 r2 q2) fun old s3 ⟨x3, H3, I3, r3, q3⟩ => ?_
  refine thn (he s3 σ H3 _ I3 q3) fun v s4 ⟨x4, H4, I4, r4, q4⟩ => ?_
  refine thn (hp s4 σ H4 x3 x4 old v _ I4 r3 r4 q4) fun new s5 ⟨x5, H5, I5, r5, q5⟩ => ?_
  exact thn (hs s5 σ H5 x1 x2 x5 ov iv new _ I5 r1 r2 r5 q5) fun _ s6 ⟨H6, I6, q6⟩ => ⟨σ, H6, I6, q6⟩
/-- ints -/
def ipI (f : Int → Int → Int) : TIp := fun x y H Q => ∃ i j, x = .int i ∧ y = .int j ∧ Q (.int (f i j)) H
theorem ip_add : PIp X .Add (ipI fun i j => i + j) := by
  intro pins s σ H x y v u Q I r1 r2 h
  obtain ⟨i, j, e1, e2, q⟩ := h
  subst e1; subst e2
  obtain ⟨t, rfl⟩ := r1
  obtain ⟨t', rfl⟩ := r2
  exact iadd_int ⟨.int _, H, I.tok _, ⟨_, rfl⟩, q⟩
end
section
variable {X : Cx} {pos : Pos}
/-- the invariant W with its measure -/
def tWhile (c : TT) (tb : TS) : TS := fun D σ H => ∃ W : Nat → St → Hp → Prop, (∃ m, W m σ H) ∧ ∀ m σ H, W m σ H →
  c σ H fun b H1 => if b = true then ∃ N : St → Hp → Prop, (∀ σ' H', N σ' H' → ∃ m', m' < m ∧ W m' σ' H') ∧ tb { D with nx := N, ct := N, bk := D.nx } σ H1 else D.nx σ H1
theorem ps_while {c : Expr} {body : List Stmt} {tc : TT} {tb : TS} (hp : PassesOwn (model X.prog X.w) X.A X.env X.xe) (hc : PT X c tc) (hb : PSs X body tb) : PS X (.While c body [] pos) (tWhile tc tb) := by
  intro pins s σ H D I h
  obtain ⟨W, ⟨m0, w0⟩, turn⟩ := h
  refine wpAny_While (codeAny_whileLoop (fun n s' => ∃ σ' H', Inv X pins σ' H' s' ∧ W n σ' H') ?_ m0 ⟨σ, H, I, w0⟩)
  rintro n s1 ⟨σ1, H1, I1, w1⟩
  refine wpAny_passesOwn hp (thn (hc s1 σ1 H1 _ I1 (turn n σ1 H1 w1)) fun b s2 ⟨H2, I2, q2⟩ => ?_)
  cases b with
  | true =>
    obtain ⟨N, hN, q2⟩ := q2
    rw [if_pos rfl]
    refine wpAny_passesOwn hp (thn (hb s2 σ1 H2 _ I2 q2) fun f s3 q3 => ?_)
    cases f with
    | next =>
      obtain ⟨σ3, H3, I3, n3⟩ := q3
      obtain ⟨m', hm, w3⟩ := hN σ3 H3 n3
      exact ⟨m', hm, σ3, H3, I3, w3⟩
    | cont =>
      obtain ⟨σ3, H3, I3, n3⟩ := q3
      obtain ⟨m', hm, w3⟩ := hN σ3 H3 n3
      exact ⟨m', hm, σ3, H3, I3, w3⟩
    | brk => exact q3
    | ret v => exact q3
  | false =>
    rw [if_neg Bool.false_ne_true]
    exact wpAny_execs_nil ⟨σ1, H2, I2, q2⟩
end
/-- at turn i: it yields x (the heap may grow), or it stops -/
structure It where
  go : Nat → Hp → Prop
  yld : Nat → Hp → V → Hp → Prop
  stop : Nat → Hp → Prop
/-- the iterator's own objects may turn: they are not the frame's, not pinned, younger than the entry (or a comprehension's own) -/
def FpOk (X : Cx) (pins : List (Addr × Obj)) (H : Hp) (b : Addr) : Prop :=
  H b = none ∧ b ≠ X.env.locals ∧ b ∉ X.fs ∧ (b ∈ X.ex ∨ X.s_0.heap.objs.size ≤ b) ∧ (∀ x c, X.env.cells.lookup x = some c → c ≠ b) ∧ ∀ p ∈ X.pn ++ pins, p.1 ≠ b
theorem Inv.fpOk {X : Cx} {pins : List (Addr × Obj)} {σ : St} {H H' : Hp} {s : Shared} {b : Addr} (I : Inv X pins σ H s) (hb : s.heap.objs.size ≤ b) (hn : H' b = none) : FpOk X pins H' b := by
  refine ⟨hn, Nat.ne_of_gt (Nat.lt_of_lt_of_le I.lt hb), I.nofs hb, .inr (Nat.le_trans I.sz hb), fun x c e z => ?_, fun p hp z => ?_⟩
  · obtain ⟨v, q⟩ := I.cell x c e
    exact absurd (Nat.lt_of_lt_of_le q.lt (by rw [z]; exact hb)) (Nat.lt_irrefl _)
  · exact absurd (Nat.lt_of_lt_of_le (Heap.lt_size (I.pin p hp).1) (by rw [z]; exact hb)) (Nat.lt_irrefl _)
structure Turn (P : Program) (w : World) (K : PySem.W.Frag) (tg : Expr) (J : It) (fp : List Addr) (it : Addr) (tn : Nat → Heap → Prop) : Prop where
  mem : it ∈ fp
  obj : ∀ i h, tn i h → ∀ b ∈ fp, ∃ o, h.get? b = some o ∧ ∀ v, o.data ≠ .cell v
  keep : ∀ i h h', tn i h → (∀ b ∈ fp, ∀ o, h.get? b = some o → h'.get? b = some o) → tn i h'
  item : ∀ (X : Cx), X.prog = P → X.w = w → X.K = K → X.calm = true → ∀ (i : Nat) ⦃pins : List (Addr × Obj)⦄ (s : Shared) (σ : St) (H : Hp) (E : Value → Shared → Prop), Inv X pins σ H s → (∀ b ∈ fp, FpOk X pins H b) → tn i s.heap → J.go i H →
    wpAny (model P w) X.A (pyNext (.ref it)) (fun r s1 => ∃ u, r = some u ∧
      wpAny (model P w) X.A (letOwnedTupleGo tg (.ref it) u) (fun _ s2 => ∃ x H', Inv X pins σ H' s2 ∧ RelV x u ∧ J.yld i H x H' ∧ tn (i + 1) s2.heap ∧ ∀ b ∈ fp, H' b = none) E s1) E s
  done : ∀ (X : Cx), X.prog = P → X.w = w → X.K = K → X.calm = true → ∀ (i : Nat) ⦃pins : List (Addr × Obj)⦄ (s : Shared) (σ : St) (H : Hp) (E : Value → Shared → Prop), Inv X pins σ H s → (∀ b ∈ fp, FpOk X pins H b) → tn i s.heap → J.stop i H →
    wpAny (model P w) X.A (pyNext (.ref it)) (fun r s1 => r = none ∧ Inv X pins σ H s1) E s
  self : ∀ (A : Around) (i : Nat) (s : Shared) (Q : Value → Shared → Prop) (E : Value → Shared → Prop), tn i s.heap → Q (.ref it) s → wpAny (model P w) A (pyIter (.ref it)) Q E s
abbrev TI := St → Hp → (It → Hp → Prop) → Prop
/-- an iterator has come -/
def PIE (X : Cx) (pins : List (Addr × Obj)) (σ : St) (tg : Expr) (R : It → Hp → Prop) (itv : Value) (s2 : Shared) : Prop :=
  ∃ (it : Addr) (fp : List Addr) (tn : Nat → Heap → Prop) (J : It) (H' : Hp), itv = .ref it ∧ Inv X pins σ H' s2 ∧ Turn X.prog X.w X.K tg J fp it tn ∧ tn 0 s2.heap ∧ (∀ b ∈ fp, FpOk X pins H' b) ∧ R J H'
def PI (X : Cx) (tg iter : Expr) (wi : TI) : Prop :=
  ∀ ⦃pins : List (Addr × Obj)⦄ (s : Shared) (σ : St) (H : Hp) (R : It → Hp → Prop), Inv X pins σ H s → wi σ H R →
    wpAny (model X.prog X.w) X.A (eval iter X.env) (fun v s1 => wpAny (model X.prog X.w) X.A (pyIter v) (PIE X pins σ tg R) X.xe s1) X.xe s
/-- the step ahead of the store is nothing for an iterator that keeps no tuple -/
theorem go_of {M : Model} {A : Around} {E : Value → Shared → Prop} {s : Shared} {tg : Expr} {it : Addr} {u : Value} {o : Obj} {n : String} {vs : Array Value} {Q : Unit → Shared → Prop} (ho : s.heap.get? it = some o) (hc : o.cls = .type n) (hd : o.data = .fields vs)
    (hn : ["enumerate", "zip", "dict_itemiterator", "dict_reverseitemiterator", "odict_iterator", "itertools.zip_longest", "itertools.pairwise"].contains n = false) (hQ : Q () s) : wpAny M A (letOwnedTupleGo tg (.ref it) u) Q E s := by
  unfold letOwnedTupleGo
  cases tg <;> first
    | exact wpAny_pure hQ
    | (cases u <;> first
        | exact wpAny_pure hQ
        | (refine wpAny_bind (wpAny_load ho ?_)
           rw [hc, hd]
           show wpAny M A (if (["enumerate", "zip", "dict_itemiterator", "dict_reverseitemiterator", "odict_iterator", "itertools.zip_longest", "itertools.pairwise"].contains n && vs[0]? == some (rawInt _)) = true then _ else _) Q E s
           rw [if_neg (by intro h; rw [hn, Bool.false_and] at h; cases h)]
           exact wpAny_pure hQ))
/-- the list at a, as it stands at each turn (a loop may append to it) -/
def Itl (K : PySem.W.Frag) (a : Addr) : It :=
  ⟨fun i H => ∃ xs x, SqL K H a xs ∧ xs[i]? = some x, fun i H x H' => H' = H ∧ ∀ xs, SqL K H a xs → xs[i]? = some x, fun i H => ∃ xs, SqL K H a xs ∧ xs.length ≤ i⟩
def Itt (K : PySem.W.Frag) (a : Addr) : It :=
  ⟨fun i H => ∃ xs x, SqT K H a xs ∧ xs[i]? = some x, fun i H x H' => H' = H ∧ ∀ xs, SqT K H a xs → xs[i]? = some x, fun i H => ∃ xs, SqT K H a xs ∧ xs.length ≤ i⟩
/-- lo, lo + 1, .. (n of them) -/
def Itr (lo : Int) (n : Nat) : It := ⟨fun i _ => i < n, fun i H x H' => H' = H ∧ x = .int (lo + i), fun i _ => n ≤ i⟩
theorem turn_list {P : Program} {w : World} {K : PySem.W.Frag} {tg : Expr} (a it : Addr) : Turn P w K tg (Itl K a) [it] it (fun i h => h.IsListIter it a i) where
  mem := by simp
  obj := fun i h st b hb => by
    have e : b = it := by simpa using hb
    subst e
    obtain ⟨o, e, c, d⟩ := st
    exact ⟨o, e, fun v z => by rw [d] at z; cases z⟩
  keep := fun i h h' st k => st.at fun o e => k it (by simp) o e
  item := by
    intro X hP hw hK hc i pins s σ H E I hf st hg
    subst hP hw hK
    obtain ⟨xs, x, hq, hx⟩ := hg
    obtain ⟨its, rv, p, hz⟩ := I.list hq
    obtain ⟨u, hu, ru⟩ := rv.get hx
    obtain ⟨f0, f1, f2, f3, f4, f5⟩ := hf it (by simp)
    refine wpAny_pyNext_list_item st p.isList (x := u) (by simpa using hu) fun h' st' sb => ?_
    have I1 : Inv X pins σ H { s with heap := h' } := I.turned (t' := s.toks) (fun b o hb e => (sb.2 b hb).trans e) f0 f1 f3 f4 f5
    obtain ⟨o, e, c, d⟩ := id st'
    exact ⟨u, rfl, go_of (s := { s with heap := h' }) e c d (by decide) ⟨x, H, I1, ru, ⟨rfl, fun ys hy => by rw [I.list_inj hy hq]; exact hx⟩, st', fun b hb => (hf b hb).1⟩⟩
  done := by
    intro X hP hw hK hc i pins s σ H E I hf st hg
    subst hP hw hK
    obtain ⟨xs, hq, hx⟩ := hg
    obtain ⟨its, rv, p, hz⟩ := I.list hq
    obtain ⟨f0, f1, f2, f3, f4, f5⟩ := hf it (by simp)
    have hl := rv.length
    exact wpAny_pyNext_list_end (I.ok.hd hc) st p.isList (by simp; omega) fun h' eb => ⟨rfl, I.turned (t' := s.toks) (fun b o hb e => eb b o hb e) f0 f1 f3 f4 f5⟩
  self := fun _ _ _ _ _ st h => wpAny_pyIter_listiter st h
theorem turn_tuple {P : Program} {w : World} {K : PySem.W.Frag} {tg : Expr} (a it : Addr) : Turn P w K tg (Itt K a) [it] it (fun i h => h.IsTupleIter it a i) where
  mem := by simp
  obj := fun i h st b hb => by
    have e : b = it := by simpa using hb
    subst e
    obtain ⟨o, e, c, d⟩ := st
    exact ⟨o, e, fun v z => by rw [d] at z; cases z⟩
  keep := fun i h h' st k => st.at fun o e => k it (by simp) o e
  item := by
    intro X hP hw hK hc i pins s σ H E I hf st hg
    subst hP hw hK
    obtain ⟨xs, x, hq, hx⟩ := hg
    obtain ⟨its, rv, p, hz⟩ := I.tuple hq
    obtain ⟨u, hu, ru⟩ := rv.get hx
    obtain ⟨f0, f1, f2, f3, f4, f5⟩ := hf it (by simp)
    refine wpAny_pyNext_tuple_item st (show s.heap.IsTuple a its.toArray from p) (x := u) (by simpa using hu) fun h' st' sb => ?_
    have I1 : Inv X pins σ H { s with heap := h' } := I.turned (t' := s.toks) (fun b o hb e => (sb.2 b hb).trans e) f0 f1 f3 f4 f5
    obtain ⟨o, e, c, d⟩ := id st'
    exact ⟨u, rfl, go_of (s := { s with heap := h' }) e c d (by decide) ⟨x, H, I1, ru, ⟨rfl, fun ys hy => by rw [I.tuple_inj hy hq]; exact hx⟩, st', fun b hb => (hf b hb).1⟩⟩
  done := by
    intro X hP hw hK hc i pins s σ H E I hf st hg
    subst hP hw hK
    obtain ⟨xs, hq, hx⟩ := hg
    obtain ⟨its, rv, p, hz⟩ := I.tuple hq
    obtain ⟨f0, f1, f2, f3, f4, f5⟩ := hf it (by simp)
    have hl := rv.length
    exact wpAny_pyNext_tuple_end (I.ok.hd hc) st (show s.heap.IsTuple a its.toArray from p) (by simp; omega) fun h' eb => ⟨rfl, I.turned (t' := s.toks) (fun b o hb e => eb b o hb e) f0 f1 f3 f4 f5⟩
  self := fun _ _ _ _ _ st h => wpAny_pyIter_tupleiter st h
theorem turn_range {P : Program} {w : World} {K : PySem.W.Frag} {tg : Expr} (it : Addr) (lo : Int) (n : Nat) : Turn P w K tg (Itr lo n) [it] it (fun i h => IsRangeIter h it (lo + (i : Nat) * 1) ((n : Int) - (i : Nat)) 1) where
  mem := by simp
  obj := fun i h st b hb => by
    have e : b = it := by simpa using hb
    subst e
    exact ⟨_, st, fun v z => by
      have z' : Data.fields _ = Data.cell v := z
      cases z'⟩
  keep := fun i h h' st k => k it (by simp) _ st
  item := by
    intro X hP hw hK hc i pins s σ H E I hf st hg
    subst hP hw hK
    obtain ⟨f0, f1, f2, f3, f4, f5⟩ := hf it (by simp)
    have W := Walks.range (prog := X.prog) (w := X.w) (I.ok.hd hc) it lo 1 n
    refine W.item i s _ _ hg st fun v h' tk hv st' kk => ?_
    obtain ⟨t, rfl⟩ := hv
    have I1 : Inv X pins σ H { s with heap := h', toks := tk } := I.turned (fun b o hb e => kk b o (by simpa using hb) e) f0 f1 f3 f4 f5
    refine ⟨_, rfl, go_of (s := { s with heap := h', toks := tk }) (n := "range_iterator") st' rfl rfl (by decide) ⟨.int (lo + i), H, I1, ⟨t, ?_⟩, ⟨rfl, rfl⟩, st', fun b hb => (hf b hb).1⟩⟩
    rw [Int.mul_one]
  done := by
    intro X hP hw hK hc i pins s σ H E I hf st hg
    subst hP hw hK
    obtain ⟨f0, f1, f2, f3, f4, f5⟩ := hf it (by simp)
    exact wpAny_pyNext_range_end (I.ok.hd hc) st (by have : n ≤ i := hg; omega) fun h' eb => ⟨rfl, I.turned (t' := s.toks) (fun b o hb e => eb b o hb e) f0 f1 f3 f4 f5⟩
  self := fun _ _ _ _ _ st h => wpAny_pyIter_rangeiter st h
end L2
namespace L2
open PySem PySem.Spec PyProof.Rows
section
variable {X : Cx} {tg : Expr}
def iList (K : PySem.W.Frag) (tl : TE) : TI := fun σ H R => tl σ H fun x H1 => ∃ a, x = .ref a ∧ (∃ xs, SqL K H1 a xs) ∧ R (Itl K a) H1
def iTup (K : PySem.W.Frag) (tl : TE) : TI := fun σ H R => tl σ H fun x H1 => ∃ a, x = .ref a ∧ (∃ xs, SqT K H1 a xs) ∧ R (Itt K a) H1
theorem pi_list {l : Expr} {tl : TE} (hl : PE X l tl) : PI X tg l (iList X.K tl) := by
  intro pins s σ H R I h
  refine thn (hl s σ H _ I h) fun v s1 ⟨x, H1, I1, r1, q1⟩ => ?_
  obtain ⟨a, e, ⟨xs, hq⟩, q⟩ := q1
  subst e
  cases r1
  obtain ⟨its, rv, p, hz⟩ := I1.list hq
  refine wpAny_pyIter_list p.isList ?_
  refine ⟨s1.heap.objs.size, [s1.heap.objs.size], _, _, H1, rfl, I1.kept (t' := s1.toks) fun b o e => Heap.get?_push_of_some _ e, turn_list a _, ⟨_, Heap.get?_push_size _ rfl, rfl, rfl⟩, fun b hb => ?_, q⟩
  have e : b = s1.heap.objs.size := by simpa using hb
  subst e
  exact I1.fpOk (Nat.le_refl _) (I1.hok.fresh (Nat.le_refl _))
theorem pi_tup {l : Expr} {tl : TE} (hl : PE X l tl) : PI X tg l (iTup X.K tl) := by
  intro pins s σ H R I h
  refine thn (hl s σ H _ I h) fun v s1 ⟨x, H1, I1, r1, q1⟩ => ?_
  obtain ⟨a, e, ⟨xs, hq⟩, q⟩ := q1
  subst e
  cases r1
  obtain ⟨its, rv, p, hz⟩ := I1.tuple hq
  refine wpAny_pyIter_tuple (show s1.heap.IsTuple a its.toArray from p) ?_
  refine ⟨s1.heap.objs.size, [s1.heap.objs.size], _, _, H1, rfl, I1.kept (t' := s1.toks) fun b o e => Heap.get?_push_of_some _ e, turn_tuple a _, ⟨_, Heap.get?_push_size _ rfl, rfl, rfl⟩, fun b hb => ?_, q⟩
  have e : b = s1.heap.objs.size := by simpa using hb
  subst e
  exact I1.fpOk (Nat.le_refl _) (I1.hok.fresh (Nat.le_refl _))
/-- a range object just made, walked -/
theorem range_it {pins : List (Addr × Obj)} {σ : St} {H : Hp} {s : Shared} {R : It → Hp → Prop} {E : Value → Shared → Prop} {lo hi : Int} {t u v : Tok} {tk : Nat} (I : Inv X pins σ H s) (h1 : -(2 ^ 62) ≤ lo) (h2 : lo < 2 ^ 62) (h3 : -(2 ^ 62) ≤ hi) (h4 : hi < 2 ^ 62)
    (q : R (Itr lo (hi - lo).toNat) H) : wpAny (model X.prog X.w) X.A (pyIter (.ref s.heap.objs.size)) (PIE X pins σ tg R) E { s with heap := s.heap.push { cls := .type "range", data := .fields #[.int lo t, .int hi u, .int 1 v] }, toks := tk } := by
  refine wpAny_pyIter_range (IsRange.new ..) (small_one h1 h2 h3 h4) ?_
  have I1 : Inv X pins σ H { s with heap := s.heap.push { cls := .type "range", data := .fields #[.int lo t, .int hi u, .int 1 v] }, toks := tk } := I.kept fun b o e => Heap.get?_push_of_some _ e
  refine ⟨(s.heap.push { cls := .type "range", data := .fields #[.int lo t, .int hi u, .int 1 v] }).objs.size, [(s.heap.push { cls := .type "range", data := .fields #[.int lo t, .int hi u, .int 1 v] }).objs.size], _, _, H, rfl,
    I1.kept (t' := tk) fun b o e => Heap.get?_push_of_some _ e, turn_range _ lo (hi - lo).toNat, ?_, fun b hb => ?_, q⟩
  · have e1 : lo + ((0 : Nat) : Int) * 1 = lo := by simp
    have e2 : (((hi - lo).toNat : Nat) : Int) - ((0 : Nat) : Int) = Builtin.Range.rangeSize lo hi 1 := by rw [rangeSize_one]; split <;> omega
    show IsRangeIter _ _ (lo + ((0 : Nat) : Int) * 1) ((((hi - lo).toNat : Nat) : Int) - ((0 : Nat) : Int)) 1
    rw [e1, e2]
    exact Heap.get?_push_size _ rfl
  · have e : b = (s.heap.push { cls := .type "range", data := .fields #[.int lo t, .int hi u, .int 1 v] }).objs.size := by simpa using hb
    subst e
    exact I1.fpOk (Nat.le_refl _) (I1.hok.fresh (Nat.le_refl _))
def iRng1 (ta : TA) : TI := fun σ H R => ta σ H fun vs H1 => ∃ j : Int, vs = [.int j] ∧ -(2 ^ 62) ≤ j ∧ j < 2 ^ 62 ∧ R (Itr 0 j.toNat) H1
theorem pi_range1 {a : Expr} {ta : TA} {p pos : Pos} (hg : Gl X "range") (hm : X.mg "range" = none) (ha : PA X [a] ta) (hs : starEach [a] X.env = [(false, eval a X.env)] := by exact star_of1 rfl) : PI X tg (.Call (.Name "range" p) [a] [] pos) (iRng1 ta) := by
  intro pins s σ H R I h
  refine Call_ (ld_blt I hg hm boot_range (PyProof.Rows.callWith_type1 (thn (ha pos s σ H _ I h) fun us s1 ⟨vs, H1, I1, r1, q1⟩ => ?_) hs rfl))
  obtain ⟨j, e, q1, q2, q⟩ := q1
  subst e
  cases r1 with
  | cons r rr =>
    cases rr
    obtain ⟨t, rfl⟩ := r
    exact call_range_1 (range_it I1 (by omega) (by omega) q1 q2 (by simpa using q))
/-- W: the invariant by the turn and a measure; N: what the body is to reach -/
def tFor (wi : TI) (g : TG) (tb : TS) : TS := fun D σ H => wi σ H fun J H1 => ∃ W : Nat → Nat → St → Hp → Prop, (∃ m, W 0 m σ H1) ∧ ∀ i m σ H, W i m σ H →
  (J.stop i H ∧ D.nx σ H) ∨ (J.go i H ∧ ∃ N : St → Hp → Prop, (∀ σ' H', N σ' H' → ∃ m', m' < m ∧ W (i + 1) m' σ' H') ∧ ∀ x H', J.yld i H x H' → g x σ H' fun σ2 H2 => tb { D with nx := N, ct := N, bk := D.nx } σ2 H2)
/-- the records at fp as they stand -/
def pinsAt (fp : List Addr) (h : Heap) : List (Addr × Obj) := fp.filterMap fun b => (h.get? b).map fun o => (b, o)
theorem mem_pinsAt {fp : List Addr} {h : Heap} {b : Addr} {o : Obj} (hb : b ∈ fp) (e : h.get? b = some o) : (b, o) ∈ pinsAt fp h := List.mem_filterMap.mpr ⟨b, hb, by rw [e]; rfl⟩
theorem of_pinsAt {fp : List Addr} {h : Heap} {p : Addr × Obj} (hp : p ∈ pinsAt fp h) : p.1 ∈ fp ∧ h.get? p.1 = some p.2 := by
  obtain ⟨b, hb, e⟩ := List.mem_filterMap.mp hp
  cases q : h.get? b with
  | none => rw [q] at e; cases e
  | some o =>
    rw [q] at e
    have e' : (b, o) = p := Option.some.inj e
    subst e'
    exact ⟨hb, q⟩
theorem Inv.pinned {pins : List (Addr × Obj)} {σ : St} {H : Hp} {s : Shared} {fp : List Addr} (I : Inv X pins σ H s) (hf : ∀ b ∈ fp, FpOk X pins H b) (ho : ∀ b ∈ fp, ∃ o, s.heap.get? b = some o ∧ ∀ v, o.data ≠ .cell v) : Inv X (pins ++ pinsAt fp s.heap) σ H s :=
  I.pins_of fun p hp => (List.mem_append.mp hp).elim (fun z => I.pin p (List.mem_append_right _ z)) fun z => by
    obtain ⟨hb, e⟩ := of_pinsAt z
    obtain ⟨f0, f1, f2, _⟩ := hf p.1 hb
    obtain ⟨o, e', d⟩ := ho p.1 hb
    rw [e] at e'; cases e'
    exact ⟨e, f0, f1, f2, d⟩
theorem Inv.unpinned {pins pl : List (Addr × Obj)} {σ : St} {H : Hp} {s : Shared} (I : Inv X (pins ++ pl) σ H s) : Inv X pins σ H s := I.pins_of fun p hp => I.pin p (List.mem_append_right _ (List.mem_append_left _ hp))
theorem ps_for {iter : Expr} {body : List Stmt} {wi : TI} {g : TG} {tb : TS} {pos : Pos} (hp : PassesOwn (model X.prog X.w) X.A X.env X.xe) (hc : X.calm = true) (hi : PI X tg iter wi) (hg : PG X tg g) (hb : PSs X body tb)
    (hs : ∀ x, foldedSetIterable iter X.env x = pure x := by intro _; rfl) : PS X (.For tg iter body [] pos) (tFor wi g tb) := by
  intro pins s σ H D I h
  refine wpAny_For (thn (hi s σ H _ I h) fun v s1 h1 => thn h1 fun itv s2 h2 => ?_) hs
  obtain ⟨it, fp, tn, J, H2, e, I2, T, st2, f2, W, ⟨m0, w0⟩, turn⟩ := h2
  subst e
  -- what stays true of the iterator's objects through the loop
  have stat : ∀ {H' : Hp}, (∀ b ∈ fp, H' b = none) → ∀ b ∈ fp, FpOk X pins H' b := fun hn b hb => ⟨hn b hb, (f2 b hb).2⟩
  refine codeAny_forLoop_any (fun n s' => ∃ i σ' H', Inv X pins σ' H' s' ∧ tn i s'.heap ∧ (∀ b ∈ fp, H' b = none) ∧ W i n σ' H') ?_ m0 ⟨0, σ, H2, I2, st2, fun b hb => (f2 b hb).1, w0⟩
  rintro n s3 ⟨i, σ3, H3, I3, st3, fr3, w3⟩
  rcases turn i n σ3 H3 w3 with ⟨stop, qn⟩ | ⟨go, N, hN, step⟩
  · refine wpAny_passesOwn hp (thn (T.done X rfl rfl rfl hc i s3 σ3 H3 X.xe I3 (stat fr3) st3 stop) fun r s4 ⟨hr, I4⟩ => ?_)
    subst hr
    exact wpAny_execs_nil ⟨σ3, H3, I4, qn⟩
  · refine wpAny_passesOwn hp (thn (T.item X rfl rfl rfl hc i s3 σ3 H3 X.xe I3 (stat fr3) st3 go) fun r s4 ⟨u, hr, h4⟩ => ?_)
    subst hr
    refine wpAny_passesOwn hp (thn h4 fun _ s5 ⟨x, H5, I5, r5, y5, st5, fr5⟩ => ?_)
    have I5' := I5.pinned (stat fr5) (T.obj _ _ st5)
    refine wpAny_passesOwn hp (thn (hg s5 σ3 H5 x u _ I5' r5 (step x H5 y5)) fun _ s6 ⟨σ6, H6, I6, q6⟩ => ?_)
    refine wpAny_passesOwn hp (thn (hb s6 σ6 H6 _ I6 q6) fun f s7 q7 => ?_)
    have again : ∀ {σ7 : St} {H7 : Hp}, Inv X (pins ++ pinsAt fp s5.heap) σ7 H7 s7 → N σ7 H7 → ∃ m, m < n ∧ ∃ i σ' H', Inv X pins σ' H' s7 ∧ tn i s7.heap ∧ (∀ b ∈ fp, H' b = none) ∧ W i m σ' H' := fun {σ7 H7} I7 n7 => by
      obtain ⟨m', hm, w7⟩ := hN σ7 H7 n7
      refine ⟨m', hm, i + 1, σ7, H7, I7.unpinned, T.keep _ _ _ st5 fun b hb o e => (I7.pin (b, o) (List.mem_append_right _ (List.mem_append_right _ (mem_pinsAt hb e)))).1, fun b hb => ?_, w7⟩
      obtain ⟨o, e, d⟩ := T.obj _ _ st5 b hb
      exact (I7.pin (b, o) (List.mem_append_right _ (List.mem_append_right _ (mem_pinsAt hb e)))).2.1
    cases f with
    | next => obtain ⟨σ7, H7, I7, n7⟩ := q7; exact again I7 n7
    | cont => obtain ⟨σ7, H7, I7, n7⟩ := q7; exact again I7 n7
    | brk => obtain ⟨σ7, H7, I7, q7⟩ := q7; exact ⟨σ7, H7, I7.unpinned, q7⟩
    | ret v => obtain ⟨x7, σ7, H7, I7, r7, q7⟩ := q7; exact ⟨x7, σ7, H7, I7.unpinned, r7, q7⟩
end
/-- over a list that the body leaves as it is -/
theorem for_list {K : PySem.W.Frag} {a : Addr} {xs : List V} {g : TG} {tb : TS} {D : Ends} {σ : St} {H : Hp} (Pv : Nat → St → Hp → Prop) (h0 : Pv 0 σ H) (hl : ∀ i σ H, i ≤ xs.length → Pv i σ H → SqL K H a xs)
    (hs : ∀ i x σ H, xs[i]? = some x → Pv i σ H → g x σ H fun σ2 H2 => tb { D with nx := Pv (i + 1), ct := Pv (i + 1), bk := D.nx } σ2 H2) (hd : ∀ σ H, Pv xs.length σ H → D.nx σ H) :
    ∃ W : Nat → Nat → St → Hp → Prop, (∃ m, W 0 m σ H) ∧ ∀ i m σ H, W i m σ H →
      ((Itl K a).stop i H ∧ D.nx σ H) ∨ ((Itl K a).go i H ∧ ∃ N : St → Hp → Prop, (∀ σ' H', N σ' H' → ∃ m', m' < m ∧ W (i + 1) m' σ' H') ∧ ∀ x H', (Itl K a).yld i H x H' → g x σ H' fun σ2 H2 => tb { D with nx := N, ct := N, bk := D.nx } σ2 H2) := by
  refine ⟨fun i m σ H => m = xs.length - i ∧ i ≤ xs.length ∧ Pv i σ H, ⟨xs.length, by simp, Nat.zero_le _, h0⟩, ?_⟩
  rintro i m σ H ⟨rfl, hi, p⟩
  have q := hl i σ H hi p
  by_cases hlt : i < xs.length
  · refine .inr ⟨⟨xs, xs[i], q, by simp [hlt]⟩, Pv (i + 1), fun σ' H' p' => ⟨xs.length - (i + 1), by omega, rfl, hlt, p'⟩, fun x H' y => ?_⟩
    obtain ⟨e, y⟩ := y
    subst e
    exact hs i x σ _ (y xs q) p
  · have e : i = xs.length := by omega
    subst e
    exact .inl ⟨⟨xs, q, Nat.le_refl _⟩, hd σ H p⟩
theorem for_tup {K : PySem.W.Frag} {a : Addr} {xs : List V} {g : TG} {tb : TS} {D : Ends} {σ : St} {H : Hp} (Pv : Nat → St → Hp → Prop) (h0 : Pv 0 σ H) (hl : ∀ i σ H, i ≤ xs.length → Pv i σ H → SqT K H a xs)
    (hs : ∀ i x σ H, xs[i]? = some x → Pv i σ H → g x σ H fun σ2 H2 => tb { D with nx := Pv (i + 1), ct := Pv (i + 1), bk := D.nx } σ2 H2) (hd : ∀ σ H, Pv xs.length σ H → D.nx σ H) :
    ∃ W : Nat → Nat → St → Hp → Prop, (∃ m, W 0 m σ H) ∧ ∀ i m σ H, W i m σ H →
      ((Itt K a).stop i H ∧ D.nx σ H) ∨ ((Itt K a).go i H ∧ ∃ N : St → Hp → Prop, (∀ σ' H', N σ' H' → ∃ m', m' < m ∧ W (i + 1) m' σ' H') ∧ ∀ x H', (Itt K a).yld i H x H' → g x σ H' fun σ2 H2 => tb { D with nx := N, ct := N, bk := D.nx } σ2 H2) := by
  refine ⟨fun i m σ H => m = xs.length - i ∧ i ≤ xs.length ∧ Pv i σ H, ⟨xs.length, by simp, Nat.zero_le _, h0⟩, ?_⟩
  rintro i m σ H ⟨rfl, hi, p⟩
  have q := hl i σ H hi p
  by_cases hlt : i < xs.length
  · refine .inr ⟨⟨xs, xs[i], q, by simp [hlt]⟩, Pv (i + 1), fun σ' H' p' => ⟨xs.length - (i + 1), by omega, rfl, hlt, p'⟩, fun x H' y => ?_⟩
    obtain ⟨e, y⟩ := y
    subst e
    exact hs i x σ _ (y xs q) p
  · have e : i = xs.length := by omega
    subst e
    exact .inl ⟨⟨xs, q, Nat.le_refl _⟩, hd σ H p⟩
theorem for_range {lo : Int} {n : Nat} {g : TG} {tb : TS} {D : Ends} {σ : St} {H : Hp} (Pv : Nat → St → Hp → Prop) (h0 : Pv 0 σ H)
    (hs : ∀ i σ H, i < n → Pv i σ H → g (.int (lo + i)) σ H fun σ2 H2 => tb { D with nx := Pv (i + 1), ct := Pv (i + 1), bk := D.nx } σ2 H2) (hd : ∀ σ H, Pv n σ H → D.nx σ H) :
    ∃ W : Nat → Nat → St → Hp → Prop, (∃ m, W 0 m σ H) ∧ ∀ i m σ H, W i m σ H →
      ((Itr lo n).stop i H ∧ D.nx σ H) ∨ ((Itr lo n).go i H ∧ ∃ N : St → Hp → Prop, (∀ σ' H', N σ' H' → ∃ m', m' < m ∧ W (i + 1) m' σ' H') ∧ ∀ x H', (Itr lo n).yld i H x H' → g x σ H' fun σ2 H2 => tb { D with nx := N, ct := N, bk := D.nx } σ2 H2) := by
  refine ⟨fun i m σ H => m = n - i ∧ i ≤ n ∧ Pv i σ H, ⟨n, by simp, Nat.zero_le _, h0⟩, ?_⟩
  rintro i m σ H ⟨rfl, hi, p⟩
  by_cases hlt : i < n
  · refine .inr ⟨hlt, Pv (i + 1), fun σ' H' p' => ⟨n - (i + 1), by omega, rfl, hlt, p'⟩, fun x H' y => ?_⟩
    obtain ⟨e, y⟩ := y
    subst e y
    exact hs i σ _ hlt p
  · have e : i = n := by omega
    subst e
    exact .inl ⟨Nat.le_refl _, hd σ H p⟩
/-- while, by a word and a measure of the state -/
theorem while_by {c : TT} {tb : TS} {D : Ends} {σ : St} {H : Hp} (Pv : St → Hp → Prop) (μ : St → Hp → Nat) (h0 : Pv σ H)
    (hs : ∀ σ H, Pv σ H → c σ H fun b H1 => if b = true then tb { D with nx := fun σ' H' => Pv σ' H' ∧ μ σ' H' < μ σ H, ct := fun σ' H' => Pv σ' H' ∧ μ σ' H' < μ σ H, bk := D.nx } σ H1 else D.nx σ H1)
    (mono : ∀ σ H Q Q', (∀ b H1, Q b H1 → Q' b H1) → c σ H Q → c σ H Q') : tWhile c tb D σ H := by
  refine ⟨fun m σ H => m = μ σ H ∧ Pv σ H, ⟨_, rfl, h0⟩, ?_⟩
  rintro m σ H ⟨rfl, p⟩
  refine mono σ H _ _ (fun b H1 q => ?_) (hs σ H p)
  cases b with
  | true => exact ⟨_, fun σ' H' ⟨p', l⟩ => ⟨_, l, rfl, p'⟩, q⟩
  | false => exact q
end L2
namespace L2
open PySem PySem.Spec PyProof.Rows
abbrev R2 := V → V → Hp → VK → Prop
/-- a two-place operation on values: f is binaryOp op, inplaceOp op or compareOp op -/
def OpR (X : Cx) (f : Value → Value → Sem Value) (r : R2) : Prop :=
  ∀ ⦃pins : List (Addr × Obj)⦄ (s : Shared) (σ : St) (H : Hp) (x y : V) (v u : Value) (Q : VK), Inv X pins σ H s → RelV x v → RelV y u → r x y H Q →
    wpAny (model X.prog X.w) X.A (f v u) (EP X pins σ Q) X.xe s
/-- a one-place operation -/
def UnR (X : Cx) (f : Value → Sem Value) (r : V → Hp → VK → Prop) : Prop :=
  ∀ ⦃pins : List (Addr × Obj)⦄ (s : Shared) (σ : St) (H : Hp) (x : V) (v : Value) (Q : VK), Inv X pins σ H s → RelV x v → r x H Q →
    wpAny (model X.prog X.w) X.A (f v) (EP X pins σ Q) X.xe s
/-- a call of a value that is known (a builtin, a type) with values -/
def CallR (X : Cx) (f : Value) (r : List V → Hp → VK → Prop) : Prop :=
  ∀ ⦃pins : List (Addr × Obj)⦄ (s : Shared) (σ : St) (H : Hp) (xs : List V) (us : List Value) (Q : VK), Inv X pins σ H s → Vals xs us → r xs H Q →
    wpAny (model X.prog X.w) X.A (call f us) (EP X pins σ Q) X.xe s
def tOp (r : R2) (ta tb : TE) : TE := fun σ H Q => ta σ H fun x H1 => tb σ H1 fun y H2 => r x y H2 Q
def tUn (r : V → Hp → VK → Prop) (ta : TE) : TE := fun σ H Q => ta σ H fun x H1 => r x H1 Q
/-- ints in, under C, and a value out -/
def rI (C : Int → Int → Prop) (g : Int → Int → V) : R2 := fun x y H Q => ∃ i j, x = .int i ∧ y = .int j ∧ C i j ∧ Q (g i j) H
def rI0 (g : Int → Int → V) : R2 := fun x y H Q => ∃ i j, x = .int i ∧ y = .int j ∧ Q (g i j) H
def rU (g : Int → V) : V → Hp → VK → Prop := fun x H Q => ∃ i, x = .int i ∧ Q (g i) H
section
variable {X : Cx} {a b c : Expr} {ta tb tc : TE} {pos : Pos}
theorem binT (ha : PE X a ta) (hb : PE X b tb) {pins : List (Addr × Obj)} {s : Shared} {σ : St} {H : Hp} {R : V → V → Hp → Prop} (I : Inv X pins σ H s)
    (h : ta σ H fun x H1 => tb σ H1 fun y H2 => R x y H2) {Q : Value → Shared → Prop} {f : Value → Value → Sem Value}
    (hf : ∀ v u s2 x y H2, Inv X pins σ H2 s2 → RelV x v → RelV y u → R x y H2 → wpAny (model X.prog X.w) X.A (f v u) Q X.xe s2) :
    wpAny (model X.prog X.w) X.A (eval a X.env) (fun v s₁ => wpAny (model X.prog X.w) X.A (eval b X.env) (fun u s₂ => wpAny (model X.prog X.w) X.A (f v u) Q X.xe s₂) X.xe s₁) X.xe s := by
  refine thn (ha s σ H _ I h) fun v s1 ⟨x, H1, I1, r1, q1⟩ => ?_
  refine thn (hb s1 σ H1 _ I1 q1) fun u s2 ⟨y, H2, I2, r2, q2⟩ => ?_
  exact hf v u s2 x y H2 I2 r1 r2 q2
theorem pe_op {op : Operator} {r : R2} (ho : OpR X (binaryOp op) r) (ha : PE X a ta) (hb : PE X b tb) : PE X (.BinOp a op b pos) (tOp r ta tb) := by
  intro pins s σ H Q I h
  exact wpAny_BinOp (binT ha hb I h fun v u s2 x y H2 I2 rx ry q => ho s2 σ H2 x y v u Q I2 rx ry q)
theorem pe_un {op : UnaryOp} {r : V → Hp → VK → Prop} (ho : UnR X (unaryOp op) r) (ha : PE X a ta) : PE X (.UnaryOp op a pos) (tUn r ta) := by
  intro pins s σ H Q I h
  exact UnaryOp_ (thn (ha s σ H _ I h) fun v s1 ⟨x, H1, I1, r1, q1⟩ => ho s1 σ H1 x v Q I1 r1 q1)
theorem opI {f : Value → Value → Sem Value} {C : Int → Int → Prop} {g : Int → Int → Int}
    (rule : ∀ (i j : Int) (t u : Tok) (s : Shared) (Q : Value → Shared → Prop) (E : Value → Shared → Prop), C i j → Q (.int (g i j) s.toks) { s with toks := s.toks + 1 } → wpAny (model X.prog X.w) X.A (f (.int i t) (.int j u)) Q E s) :
    OpR X f (rI C fun i j => .int (g i j)) := by
  intro pins s σ H x y v u Q I rx ry h
  obtain ⟨i, j, rfl, rfl, hc, q⟩ := h
  obtain ⟨t, rfl⟩ := rx
  obtain ⟨t', rfl⟩ := ry
  exact rule i j t t' s _ _ hc ⟨.int (g i j), H, I.tok _, ⟨_, rfl⟩, q⟩
theorem opI0 {f : Value → Value → Sem Value} {g : Int → Int → Int}
    (rule : ∀ (i j : Int) (t u : Tok) (s : Shared) (Q : Value → Shared → Prop) (E : Value → Shared → Prop), Q (.int (g i j) s.toks) { s with toks := s.toks + 1 } → wpAny (model X.prog X.w) X.A (f (.int i t) (.int j u)) Q E s) :
    OpR X f (rI0 fun i j => .int (g i j)) := by
  intro pins s σ H x y v u Q I rx ry h
  obtain ⟨i, j, rfl, rfl, q⟩ := h
  obtain ⟨t, rfl⟩ := rx
  obtain ⟨t', rfl⟩ := ry
  exact rule i j t t' s _ _ ⟨.int (g i j), H, I.tok _, ⟨_, rfl⟩, q⟩
theorem opB0 {f : Value → Value → Sem Value} {g : Int → Int → Bool}
    (rule : ∀ (i j : Int) (t u : Tok) (s : Shared) (Q : Value → Shared → Prop) (E : Value → Shared → Prop), Q (.bool (g i j)) s → wpAny (model X.prog X.w) X.A (f (.int i t) (.int j u)) Q E s) :
    OpR X f (rI0 fun i j => .bl (g i j)) := by
  intro pins s σ H x y v u Q I rx ry h
  obtain ⟨i, j, rfl, rfl, q⟩ := h
  obtain ⟨t, rfl⟩ := rx
  obtain ⟨t', rfl⟩ := ry
  exact rule i j t t' s _ _ ⟨.bl (g i j), H, I, rfl, q⟩
def CDiv (i j : Int) : Prop := 0 < j ∧ j < 1073741824
def CPow (i j : Int) : Prop := 0 ≤ j ∧ j ≤ 1000000 ∧ i.natAbs < 2 ^ 64
def CMul (i j : Int) : Prop := (-(2 ^ 64) < i ∧ i < 2 ^ 64) ∨ (-(2 ^ 64) < j ∧ j < 2 ^ 64)
theorem CMul.ok {i j : Int} (h : CMul i j) : IntMulOk i j := by
  rcases h with ⟨h1, h2⟩ | ⟨h1, h2⟩
  · exact .of_left (intBits_le_64 h1 h2)
  · exact .of_right (intBits_le_64 h1 h2)
theorem op_add : OpR X (binaryOp .Add) (rI0 fun i j => .int (i + j)) := opI0 fun _ _ _ _ _ _ _ q => add_int q
theorem op_sub : OpR X (binaryOp .Sub) (rI0 fun i j => .int (i - j)) := opI0 fun _ _ _ _ _ _ _ q => sub_int q
theorem op_mul : OpR X (binaryOp .Mult) (rI CMul fun i j => .int (i * j)) := opI fun _ _ _ _ _ _ _ hc q => mul_int q hc.ok
/-- // by a positive divisor -/
theorem op_fdiv : OpR X (binaryOp .FloorDiv) (rI CDiv fun i j => .int (i / j)) := opI fun i j _ _ _ _ _ hc q => by
  have h1 : (0 : Int) < j := hc.1
  have h2 : j < 1073741824 := hc.2
  exact floordiv_int (by omega) (by rw [Int.fdiv_eq_ediv_of_nonneg i (by omega)]; exact q) (.inl (PyProof.noPylong_small (by omega)))
/-- % by a positive divisor of any size -/
theorem op_mod : OpR X (binaryOp .Mod) (rI (fun _ j => 0 < j) fun i j => .int (i % j)) := opI fun i j _ _ _ _ _ hc q => by
  have h1 : (0 : Int) < j := hc
  exact mod_int' (by omega) (by rw [Int.fmod_eq_emod_of_nonneg i (by omega)]; exact q)
theorem op_pow : OpR X (binaryOp .Pow) (rI CPow fun i j => .int (i ^ j.toNat)) := opI fun _ _ _ _ _ _ _ hc q => pow_int_small hc.1 hc.2.1 hc.2.2 q
theorem op_shl : OpR X (binaryOp .LShift) (rI CPow fun i j => .int (i * 2 ^ j.toNat)) := opI fun _ _ _ _ _ _ _ hc q => lshift_int_small hc.1 hc.2.1 hc.2.2 q
theorem op_and : OpR X (binaryOp .BitAnd) (rI0 fun i j => .int (Builtin.bitAnd i j)) := opI0 fun _ _ _ _ _ _ _ q => and_int q
theorem op_or : OpR X (binaryOp .BitOr) (rI0 fun i j => .int (Builtin.bitOr i j)) := opI0 fun _ _ _ _ _ _ _ q => or_int q
theorem op_xor : OpR X (binaryOp .BitXor) (rI0 fun i j => .int (Builtin.bitXor i j)) := opI0 fun _ _ _ _ _ _ _ q => xor_int q
theorem unI {f : Value → Sem Value} {g : Int → Int}
    (rule : ∀ (i : Int) (t : Tok) (s : Shared) (Q : Value → Shared → Prop) (E : Value → Shared → Prop), Q (.int (g i) s.toks) { s with toks := s.toks + 1 } → wpAny (model X.prog X.w) X.A (f (.int i t)) Q E s) :
    UnR X f (rU fun i => .int (g i)) := by
  intro pins s σ H x v Q I rx h
  obtain ⟨i, rfl, q⟩ := h
  obtain ⟨t, rfl⟩ := rx
  exact rule i t s _ _ ⟨.int (g i), H, I.tok _, ⟨_, rfl⟩, q⟩
theorem un_neg : UnR X (unaryOp .USub) (rU fun i => .int (-i)) := unI fun _ _ _ _ _ q => neg_int q
end
/-- the scalars that == tells apart as data does -/
def scal : V → V → Bool
  | .non, .non => true | .non, .int _ => true | .int _, .non => true | .non, .bl _ => true | .bl _, .non => true | .non, .str _ => true | .str _, .non => true
  | .int _, .int _ => true | .bl _, .bl _ => true | .str _, .str _ => true | .byt _, .byt _ => true
  | .int _, .str _ => true | .str _, .int _ => true | .bl _, .str _ => true | .str _, .bl _ => true
  | _, _ => false
def rEq : R2 := fun x y H Q => scal x y = true ∧ Q (.bl (decide (x = y))) H
def rNe : R2 := fun x y H Q => scal x y = true ∧ Q (.bl (!decide (x = y))) H
theorem dec_int {i j : Int} : decide (V.int i = V.int j) = (i == j) := by
  rw [Bool.eq_iff_iff]
  simp
theorem dec_bl {i j : Bool} : decide (V.bl i = V.bl j) = (i == j) := by
  rw [Bool.eq_iff_iff]
  simp
theorem dec_str {i j : Str} : decide (V.str i = V.str j) = (i == j) := by
  rw [Bool.eq_iff_iff]
  simp
theorem dec_byt {i j : Array UInt8} : decide (V.byt i = V.byt j) = (i.toList == j.toList) := by
  rw [Bool.eq_iff_iff]
  cases i
  cases j
  simp
section
variable {X : Cx} {a b c : Expr} {ta tb tc : TE} {pos : Pos}
theorem fin_bl {pins : List (Addr × Obj)} {σ : St} {H : Hp} {s : Shared} {Q : VK} {k k' : Bool} (I : Inv X pins σ H s) (q : Q (.bl k) H) (e : k = k') : EP X pins σ Q (.bool k') s := by
  subst e
  exact ⟨.bl k, H, I, rfl, q⟩
theorem op_eq : OpR X (compareOp .Eq) rEq := by
  intro pins s σ H x y v u Q I rx ry h
  obtain ⟨hs, q⟩ := h
  cases x with
  | non =>
    cases rx
    cases y with
    | non => cases ry; exact PySem.EqNone.eq_none_none (fin_bl I q (by simp))
    | bl j => cases ry; exact PySem.EqNone.eq_none_bool (fin_bl I q (by simp))
    | int j => obtain ⟨t', rfl⟩ := ry; exact PySem.EqNone.eq_none_int (fin_bl I q (by simp))
    | str j => obtain ⟨t', rfl⟩ := ry; exact PySem.EqNone.eq_none_str (fin_bl I q (by simp))
    | _ => exact absurd (show false = true from hs) Bool.false_ne_true
  | bl i =>
    cases rx
    cases y with
    | non => cases ry; exact PySem.EqNone.eq_bool_none (fin_bl I q (by simp))
    | bl j => cases ry; exact eq_bool (fin_bl I q dec_bl)
    | str j => obtain ⟨t', rfl⟩ := ry; exact PySem.EqMixed.eq_bool_str (fin_bl I q (by simp))
    | _ => exact absurd (show false = true from hs) Bool.false_ne_true
  | int i =>
    obtain ⟨t, rfl⟩ := rx
    cases y with
    | non => cases ry; exact PySem.EqNone.eq_int_none (fin_bl I q (by simp))
    | int j => obtain ⟨t', rfl⟩ := ry; exact eq_int (fin_bl I q dec_int)
    | str j => obtain ⟨t', rfl⟩ := ry; exact PySem.EqMixed.eq_int_str (fin_bl I q (by simp))
    | _ => exact absurd (show false = true from hs) Bool.false_ne_true
  | str i =>
    obtain ⟨t, rfl⟩ := rx
    cases y with
    | non => cases ry; exact PySem.EqNone.eq_str_none (fin_bl I q (by simp))
    | bl j => cases ry; exact PySem.EqMixed.eq_str_bool (fin_bl I q (by simp))
    | int j => obtain ⟨t', rfl⟩ := ry; exact PySem.EqMixed.eq_str_int (fin_bl I q (by simp))
    | str j => obtain ⟨t', rfl⟩ := ry; exact eq_str (fin_bl I q dec_str)
    | _ => exact absurd (show false = true from hs) Bool.false_ne_true
  | byt i =>
    obtain ⟨t, rfl⟩ := rx
    cases y with
    | byt j => obtain ⟨t', rfl⟩ := ry; exact PySem.W.eq_bytes (fin_bl I q dec_byt)
    | _ => exact absurd (show false = true from hs) Bool.false_ne_true
  | _ => cases y <;> exact absurd (show false = true from hs) Bool.false_ne_true
theorem op_ne : OpR X (compareOp .NotEq) rNe := by
  intro pins s σ H x y v u Q I rx ry h
  obtain ⟨hs, q⟩ := h
  cases x with
  | non =>
    cases rx
    cases y with
    | non => cases ry; exact PySem.EqNone.ne_none_none (fin_bl I q (by simp))
    | bl j => cases ry; exact PySem.EqNone.ne_none_bool (fin_bl I q (by simp))
    | int j => obtain ⟨t', rfl⟩ := ry; exact PySem.EqNone.ne_none_int (fin_bl I q (by simp))
    | str j => obtain ⟨t', rfl⟩ := ry; exact PySem.EqNone.ne_none_str (fin_bl I q (by simp))
    | _ => exact absurd (show false = true from hs) Bool.false_ne_true
  | bl i =>
    cases rx
    cases y with
    | non => cases ry; exact PySem.EqNone.ne_bool_none (fin_bl I q (by simp))
    | bl j => cases ry; exact ne_bool (fin_bl I q (congrArg not dec_bl))
    | str j => obtain ⟨t', rfl⟩ := ry; exact PySem.EqMixed.ne_bool_str (fin_bl I q (by simp))
    | _ => exact absurd (show false = true from hs) Bool.false_ne_true
  | int i =>
    obtain ⟨t, rfl⟩ := rx
    cases y with
    | non => cases ry; exact PySem.EqNone.ne_int_none (fin_bl I q (by simp))
    | int j => obtain ⟨t', rfl⟩ := ry; exact ne_int (fin_bl I q (congrArg not dec_int))
    | str j => obtain ⟨t', rfl⟩ := ry; exact PySem.EqMixed.ne_int_str (fin_bl I q (by simp))
    | _ => exact absurd (show false = true from hs) Bool.false_ne_true
  | str i =>
    obtain ⟨t, rfl⟩ := rx
    cases y with
    | non => cases ry; exact PySem.EqNone.ne_str_none (fin_bl I q (by simp))
    | bl j => cases ry; exact PySem.EqMixed.ne_str_bool (fin_bl I q (by simp))
    | int j => obtain ⟨t', rfl⟩ := ry; exact PySem.EqMixed.ne_str_int (fin_bl I q (by simp))
    | str j => obtain ⟨t', rfl⟩ := ry; exact ne_str (fin_bl I q (congrArg not dec_str))
    | _ => exact absurd (show false = true from hs) Bool.false_ne_true
  | byt i =>
    obtain ⟨t, rfl⟩ := rx
    cases y with
    | byt j => obtain ⟨t', rfl⟩ := ry; exact PySem.W.ne_bytes (fin_bl I q (congrArg not dec_byt))
    | _ => exact absurd (show false = true from hs) Bool.false_ne_true
  | _ => cases y <;> exact absurd (show false = true from hs) Bool.false_ne_true
theorem op_lt : OpR X (compareOp .Lt) (rI0 fun i j => .bl (decide (i < j))) := opB0 fun _ _ _ _ _ _ _ q => lt_int q
theorem op_gt : OpR X (compareOp .Gt) (rI0 fun i j => .bl (decide (j < i))) := opB0 fun _ _ _ _ _ _ _ q => gt_int q
theorem op_ge : OpR X (compareOp .GtE) (rI0 fun i j => .bl (decide (j ≤ i))) := opB0 fun _ _ _ _ _ _ _ q => ge_int q
/-- is None, is not None: the right side a value none -/
theorem op_isN : OpR X (compareOp .Is) (fun x y H Q => y = .non ∧ Q (.bl (decide (x = .non))) H) := by
  intro pins s σ H x y v u Q I rx ry h
  obtain ⟨rfl, q⟩ := h
  cases ry
  refine is_none_gen (fin_bl I q ?_)
  cases x <;> first
    | (cases rx; rfl)
    | (obtain ⟨t, rfl⟩ := rx; rfl)
/-- two rules for one operation: by cases -/
theorem OpR.or {f : Value → Value → Sem Value} {r r' : R2} (h : OpR X f r) (h' : OpR X f r') : OpR X f (fun x y H Q => r x y H Q ∨ r' x y H Q) := by
  intro pins s σ H x y v u Q I rx ry q
  rcases q with q | q
  · exact h s σ H x y v u Q I rx ry q
  · exact h' s σ H x y v u Q I rx ry q
theorem nomark (b : Expr) {op : CmpOp} (h : op ≠ .In := by decide) (h2 : op ≠ .NotIn := by decide) : behindInMarks op b = false := by
  have e1 : (op == CmpOp.In) = false := by cases op <;> first | rfl | exact absurd rfl h
  have e2 : (op == CmpOp.NotIn) = false := by cases op <;> first | rfl | exact absurd rfl h2
  cases b <;> simp [behindInMarks, e1, e2]
/-- a comparison as a value; hm: nomark b, or (for in, not in) by with_unfolding_all rfl -/
theorem pe_cmpR {op : CmpOp} {r : R2} (ho : OpR X (compareOp op) r) (ha : PE X a ta) (hb : PE X b tb) (hm : behindInMarks op b = false) : PE X (.Compare a [op] [b] pos) (tOp r ta tb) := by
  intro pins s σ H Q I h
  exact wpAny_Compare1 (binT ha hb I h fun v u s2 x y H2 I2 rx ry q => ho s2 σ H2 x y v u Q I2 rx ry q) hm
/-- a reading of a value as a test -/
def tTest (t : TE) : TT := fun σ H Q => t σ H fun x H' => ∃ k, x = .bl k ∧ Q k H'
theorem pt_cmpR {op : CmpOp} {r : R2} (ho : OpR X (compareOp op) r) (ha : PE X a ta) (hb : PE X b tb) (hm : behindInMarks op b = false) : PT X (.Compare a [op] [b] pos) (tTest (tOp r ta tb)) := by
  intro pins s σ H Q I h
  refine wpAny_isTrue_Compare1 (thn (ha s σ H _ I h) fun v s1 ⟨x, H1, I1, r1, q1⟩ => thn (hb s1 σ H1 _ I1 q1) fun u s2 ⟨y, H2, I2, r2, q2⟩ =>
    thn (ho s2 σ H2 x y v u _ I2 r1 r2 q2) fun c s3 ⟨z, H3, I3, r3, k, e, q3⟩ => ?_) hm
  subst e
  cases r3
  exact wpAny_truthy_bool ⟨H3, I3, q3⟩
theorem line63 : (sizeLine : Nat) < 2 ^ 63 := by rw [sizeLine_eq]; decide
theorem vals1 {x : V} {us : List Value} (r : Vals [x] us) : ∃ u, us = [u] ∧ RelV x u := by
  cases r with
  | cons r1 r2 => cases r2; exact ⟨_, rfl, r1⟩
theorem vals2 {x y : V} {us : List Value} (r : Vals [x, y] us) : ∃ u w', us = [u, w'] ∧ RelV x u ∧ RelV y w' := by
  cases r with
  | cons r1 r2 =>
    cases r2 with
    | cons r3 r4 => cases r4; exact ⟨_, _, rfl, r1, r3⟩
theorem call_max2 (hc : X.calm = true) : CallR X (.builtin "max") (fun xs H Q => ∃ i j, xs = [.int i, .int j] ∧ Q (.int (if j > i then j else i)) H) := by
  intro pins s σ H xs us Q I r h
  obtain ⟨i, j, rfl, q⟩ := h
  obtain ⟨u, w', rfl, ⟨t, rfl⟩, ⟨t', rfl⟩⟩ := vals2 r
  refine max_two_ints (I.ok.hd hc) fun h' tk k => ⟨_, H, I.kept k, ?_, q⟩
  by_cases hj : j > i
  · rw [if_pos hj, if_pos hj]; exact ⟨_, rfl⟩
  · rw [if_neg hj, if_neg hj]; exact ⟨_, rfl⟩
theorem call_min2 (hc : X.calm = true) : CallR X (.builtin "min") (fun xs H Q => ∃ i j, xs = [.int i, .int j] ∧ Q (.int (if j < i then j else i)) H) := by
  intro pins s σ H xs us Q I r h
  obtain ⟨i, j, rfl, q⟩ := h
  obtain ⟨u, w', rfl, ⟨t, rfl⟩, ⟨t', rfl⟩⟩ := vals2 r
  refine min_two_ints (I.ok.hd hc) fun h' tk k => ⟨_, H, I.kept k, ?_, q⟩
  by_cases hj : j < i
  · rw [if_pos hj, if_pos hj]; exact ⟨_, rfl⟩
  · rw [if_neg hj, if_neg hj]; exact ⟨_, rfl⟩
theorem call_int1 : CallR X (.type "int") (fun xs H Q => (∃ i, xs = [.int i] ∧ Q (.int i) H) ∨ ∃ k, xs = [.bl k] ∧ Q (.int (if k then 1 else 0)) H) := by
  intro pins s σ H xs us Q I r h
  rcases h with ⟨i, rfl, q⟩ | ⟨k, rfl, q⟩
  · obtain ⟨u, rfl, t, rfl⟩ := vals1 r
    exact call_int_int ⟨.int i, H, I, ⟨_, rfl⟩, q⟩
  · obtain ⟨u, rfl, r1⟩ := vals1 r
    cases r1
    exact call_int_bool ⟨.int (if k then 1 else 0), H, I.tok _, ⟨_, rfl⟩, q⟩
end
end L2
namespace L2
open PySem PySem.Spec PyProof.Rows
structure ObjM (h : Heap) (x dx C : Addr) (mA : Str → Option Value) : Prop where
  obj : h.get? x = some (PySem.W.instObj C dx)
  ns : h.Ns1 dx mA
  ne : dx ≠ x
theorem lookIn_ns {h : Heap} {dx : Addr} {mA : Str → Option Value} (n : h.Ns1 dx mA) : ∃ od, h.get? dx = some od ∧ ∀ name, PySem.W.lookIn name od = some (mA name) := by
  obtain ⟨o, es, ep, ho, hd, hk, _, hm⟩ := n
  refine ⟨o, ho, fun name => ?_⟩
  have e := hm name
  unfold nsFind findBy at e
  rw [← Array.find?_toList] at e
  unfold PySem.W.lookIn
  rw [hd]
  dsimp only
  split
  · rename_i y q
    rw [q] at e
    exact congrArg some e
  · rename_i q
    rw [q] at e
    have a : es.toList.any (·.refKey) = false := by
      rw [List.any_eq_false]
      intro y hy
      obtain ⟨z, t, hkey⟩ := hk y (Array.mem_toList_iff.mp hy)
      simp [DictEntry.refKey, hkey]
    have a' : ¬ es.toList.any (·.refKey) = true := by rw [a]; exact Bool.false_ne_true
    rw [if_neg a']
    exact congrArg some e
theorem ObjM.look {h : Heap} {x dx C : Addr} {mA : Str → Option Value} (I : ObjM h x dx C mA) : ∃ od, PySem.W.InstAt h x (PySem.W.instObj C dx) C (some od) ∧ ∀ name, PySem.W.lookIn name od = some (mA name) :=
  let ⟨od, ho, hl⟩ := lookIn_ns I.ns
  ⟨od, ⟨I.obj, rfl, rfl, ho⟩, hl⟩
section
variable {prog : Program} {w : World} {A : Around} {E : Value → Shared → Prop} {s : Shared} {K : PySem.W.Frag} {x dx C f : Addr} {mA : Str → Option Value} {name : Str} {v : Value}
end
section
variable {P : Program} {w : World} {H H' : Hp} {h h' : Heap} {a C dx : Addr} {fs fs' : List (Str × V)}
theorem ins_get (hok : HOk P w H h) (e : H a = some (.ins C dx fs)) : ∃ mA, ObjM h a dx C mA ∧ (∀ f, RelO (fs.lookup f) (mA f)) ∧ PySem.Within mA (fs.map (·.1)) ∧ fs.length ≤ 1000 ∧ H dx = some (.own a) := by
  obtain ⟨d, z, ne, ob, mA, n, r, q⟩ := (show ObjOk P w H h a (.ins C dx fs) from hok a _ e)
  exact ⟨mA, ⟨ob, n, ne⟩, r, q, z, d⟩
end
structure Cls (K : PySem.W.Frag) (C : Addr) : Prop where
  pg : PySem.W.plainGet K C Str.empty = true
  hd : PySem.W.hasDictIn K C = true
  po : PySem.W.plainOver K C = true
  sa : PySem.W.findIn K (.ref C) "__setattr__" = some (some (.builtin "object.__setattr__"))
theorem Cls.get {K : PySem.W.Frag} {C : Addr} (c : Cls K C) (f : Str) : PySem.W.plainGet K C f = true := c.pg
/-- a constant of the class -/
structure Con (K : PySem.W.Frag) (C : Addr) (f : Str) (v : V) (u : Value) : Prop where
  at_ : PySem.W.findIn K (.ref C) f = some (some u)
  rel : RelV v u
  get : PySem.W.specialIn K u "__get__" = some none
  cp : PySem.W.copiedNames.contains f = false
/-- a method: a plain def of the class or of one above it -/
structure Meth (K : PySem.W.Frag) (C : Addr) (m : Str) (f : Addr) : Prop where
  at_ : PySem.W.findIn K (.ref C) m = some (some (.ref f))
  fn : PySem.W.isFn K (.ref f) = true
  kp : PySem.W.keepIn K (.ref f) = true
section
variable {X : Cx} {pins : List (Addr × Obj)} {σ : St} {H : Hp} {s : Shared} {a C dx : Addr} {fs : List (Str × V)} {f : Str} {v : V} {A : Around} {E : Value → Shared → Prop}
/-- a new instance, tracked, without attributes -/
theorem Inv.made (I : Inv X pins σ H s) : Inv X pins σ (upd (upd H s.heap.objs.size (.own (s.heap.objs.size + 1))) (s.heap.objs.size + 1) (.ins C s.heap.objs.size []))
    { s with heap := (s.heap.push PySem.W.emptyDict).push (PySem.W.instObj C s.heap.objs.size) } := by
  have e1 : (s.heap.push PySem.W.emptyDict).get? s.heap.objs.size = some PySem.W.emptyDict := Heap.get?_push_size s.heap rfl
  have e2 : ((s.heap.push PySem.W.emptyDict).push (PySem.W.instObj C s.heap.objs.size)).get? (s.heap.objs.size + 1) = some (PySem.W.instObj C s.heap.objs.size) := by
    have := Heap.get?_push_size (s.heap.push PySem.W.emptyDict) (o := PySem.W.instObj C s.heap.objs.size) rfl
    rwa [Heap.size_push] at this
  have e3 : (s.heap.push PySem.W.emptyDict).Ns s.heap.objs.size (fun _ => none) := ⟨PySem.W.emptyDict, #[], _, e1, rfl, (fun e he => absurd he (by simp)), fun _ => rfl⟩
  have I1 := I.laid (a := s.heap.objs.size) (o := .own (s.heap.objs.size + 1)) (h' := s.heap.push PySem.W.emptyDict) (t' := s.toks) (fun b u q => Heap.get?_push_of_some _ q) (Nat.le_refl _) ⟨_, e1⟩
  refine I1.laid (a := s.heap.objs.size + 1) (o := .ins C s.heap.objs.size []) (t' := s.toks) (fun b u q => Heap.get?_push_of_some _ q) (Nat.le_of_eq (Heap.size_push _ _)) ?_
  have ne : s.heap.objs.size ≠ s.heap.objs.size + 1 := Nat.ne_of_lt (Nat.lt_succ_self _)
  refine ⟨by rw [upd_ne ne, upd_same], Nat.zero_le _, ne, e2, fun _ => none, (Heap.Ns1.of_empty e3).at fun o q => Heap.get?_push_of_some _ q, fun _ => True.intro, fun y hy => absurd rfl hy⟩
end
section
variable {X : Cx} {o e value : Expr} {f : Str} {pos pos' tpos : Pos} {ta tv : TE}
end
section
variable {X : Cx} {pins : List (Addr × Obj)} {σ : St} {H : Hp} {s : Shared} {A : Around} {E : Value → Shared → Prop} {Q : Value → Shared → Prop} {c : Value} {b : Bool}
/-- the type of a value, as the fragment's deciders take it; for an instance its class -/
inductive TyOf (K : PySem.W.Frag) (H : Hp) : V → Value → Prop where
  | non : TyOf K H .non (.type "NoneType")
  | bl (x : Bool) : TyOf K H (.bl x) (.type "bool")
  | int (i : Int) : TyOf K H (.int i) (.type "int")
  | str (x : Str) : TyOf K H (.str x) (.type "str")
  | flt (x : UInt64) : TyOf K H (.flt x) (.type "float")
  | lst {a : Addr} {xs : List V} (e : H a = some (.lst xs)) : TyOf K H (.ref a) (.type "list")
  | frz {a : Addr} {o : Obj} {xs : List V} (e : H a = some (.frz o (.lst xs))) : TyOf K H (.ref a) (.type "list")
  | tup {a : Addr} {xs : List V} (e : H a = some (.tup xs)) : TyOf K H (.ref a) (.type "tuple")
  | dK {a : Addr} {kvs : List (Key × V)} (e : H a = some (.dK kvs)) : TyOf K H (.ref a) (.type "dict")
  | dT {a : Addr} {kvs : List (List Key × V)} (e : H a = some (.dT kvs)) : TyOf K H (.ref a) (.type "dict")
  | ins {a C dx : Addr} {fs : List (Str × V)} (e : H a = some (.ins C dx fs)) (cl : Cls K C) (ha : PySem.W.findIn K (.ref C) "__class__" = some (some (.builtin "object.__class__")))
      (hn : PySem.W.specialIn K (.builtin "object.__class__") "__get__" = some (some (.builtin "getset_descriptor.__get__"))) (htk : PySem.W.takesIn K (.builtin "object.__class__") = some true)
      (hm : PySem.W.mroIn K C (.type "object") = some true) : TyOf K H (.ref a) (.ref C)
/-- isinstance(x, c) for one class c, a built-in or an own one: kitOne's answer -/
theorem isinst_ok {x : V} {u t : Value} (I : Inv X pins σ H s) (rx : RelV x u) (ty : TyOf X.K H x t) (e : PySem.W.kitOne X.K t c = some b) (h : ∀ tk, Q (.bool b) { s with toks := tk }) :
    wpAny (model X.prog X.w) A (call (.builtin "isinstance") [u, c]) Q E s := by
  cases ty with
  | non => cases (show u = Value.none from rx); exact PySem.W.kia_one PySem.W.kitx_none I.kIn True.intro e (fun z => nomatch z) h
  | bl y => cases (show u = Value.bool y from rx); exact PySem.W.kia_one PySem.W.kitx_bool I.kIn True.intro e (fun z => nomatch z) h
  | int i => obtain ⟨t, q⟩ := (show ∃ t, u = Value.int i t from rx); cases q; exact PySem.W.kia_one PySem.W.kitx_int I.kIn True.intro e (fun z => nomatch z) h
  | str y => obtain ⟨t, q⟩ := (show ∃ t, u = Value.str y t from rx); cases q; exact PySem.W.kia_one PySem.W.kitx_str I.kIn True.intro e (fun z => nomatch z) h
  | flt y => obtain ⟨t, q⟩ := (show ∃ t, u = Value.float y t from rx); cases q; exact PySem.W.kia_one PySem.W.kitx_float I.kIn True.intro e (fun z => nomatch z) h
  | @lst a xs ea =>
    cases (show u = Value.ref a from rx)
    obtain ⟨_, _, n, _, h1⟩ := (show ObjOk X.prog X.w H s.heap a (.lst xs) from I.hok a _ ea)
    exact PySem.W.kia_one PySem.W.kitx_list I.kIn ⟨_, h1, rfl⟩ e (fun z => nomatch z) h
  | @frz a ob xs ea =>
    cases (show u = Value.ref a from rx)
    obtain ⟨_, _, _, n, _, h1⟩ := (show ObjOk X.prog X.w H s.heap a (.frz ob (.lst xs)) from I.hok a _ ea)
    exact PySem.W.kia_one PySem.W.kitx_list I.kIn ⟨_, h1, rfl⟩ e (fun z => nomatch z) h
  | @tup a xs ea =>
    cases (show u = Value.ref a from rx)
    obtain ⟨_, _, _, p⟩ := (show ObjOk X.prog X.w H s.heap a (.tup xs) from I.hok a _ ea)
    obtain ⟨o, h1, h2, _⟩ := p
    exact PySem.W.kia_one PySem.W.kitx_tuple I.kIn ⟨o, h1, h2⟩ e (fun z => nomatch z) h
  | @dK a kvs ea =>
    cases (show u = Value.ref a from rx)
    obtain ⟨_, _, vs, _, p⟩ := (show ObjOk X.prog X.w H s.heap a (.dK kvs) from I.hok a _ ea)
    obtain ⟨o, es, ep, h1, h2, _⟩ := p
    exact PySem.W.kia_one PySem.W.kitx_dict I.kIn ⟨o, h1, h2.1⟩ e (fun z => nomatch z) h
  | @dT a kvs ea =>
    cases (show u = Value.ref a from rx)
    obtain ⟨_, _, xs, _, o, es, ep, h1, h2, _⟩ := (show ObjOk X.prog X.w H s.heap a (.dT kvs) from I.hok a _ ea)
    exact PySem.W.kia_one PySem.W.kitx_dict I.kIn ⟨o, h1, h2.1⟩ e (fun z => nomatch z) h
  | @ins a C dx fs ea cl ha hn htk hm =>
    cases (show u = Value.ref a from rx)
    obtain ⟨mA, O, _⟩ := ins_get I.hok ea
    obtain ⟨od, J, _⟩ := O.look
    exact PySem.W.kia_one (PySem.W.kitx_own (cl.get _) cl.hd ha hn htk hm) I.kIn J e (fun z => nomatch z) h
end
end L2
namespace L2
open PySem PySem.Spec PyProof.Rows
structure Room (k : Nat) (A : Around) : Prop where
  hd : A.handled = none
  dp : A.depth + 3 * k + 5 < recursionLimit
  un : A.units + 16 * k + 200 < cLine
theorem Room.mono {j k : Nat} {A : Around} (r : Room k A) (h : j ≤ k) : Room j A := ⟨r.hd, by have := r.dp; omega, by have := r.un; omega⟩
theorem Room.deeper {k : Nat} {A : Around} (r : Room (k + 1) A) (env : Env) : Room k (A.deeper env) :=
  ⟨r.hd, by have := r.dp; show A.depth + 1 + 3 * k + 5 < _; omega, by have := r.un; show A.units + 3 + 16 * k + 200 < _; omega⟩
theorem Room.in1 {k : Nat} {A : Around} (r : Room (k + 1) A) : Room k A.in1 :=
  ⟨r.hd, by have := r.dp; show A.depth + 3 * k + 5 < _; omega, by have := r.un; show A.units + 1 + 16 * k + 200 < _; omega⟩
theorem Room.depth {k : Nat} {A : Around} (r : Room k A) : A.depth < recursionLimit := by have := r.dp; omega
theorem Room.units {k : Nat} {A : Around} (r : Room k A) : A.units + 64 < cLine := by have := r.un; omega
def tNil : TA := fun _ H Q => Q [] H
def tCons (ta : TE) (tr : TA) : TA := fun σ H Q => ta σ H fun x H1 => tr σ H1 fun xs H2 => Q (x :: xs) H2
section
variable {X : Cx} {e : Expr} {es : List Expr} {te : TE} {t : TA} {pos : Pos}
theorem pa_nil : PA X [] tNil := fun _ _ _ _ H Q I h => Calls.spliced_nil ⟨[], H, I, .nil, h⟩
theorem pa_cons (ha : PE X e te) (hr : PA X es t) (hs : starEach (e :: es) X.env = (false, eval e X.env) :: starEach es X.env := by exact star_of rfl) : PA X (e :: es) (tCons te t) := by
  intro pins pos s σ H Q I h
  rw [hs]
  show wpAny _ _ (spliced ((false, eval e X.env) :: backTo pos (starEach es X.env))) _ _ s
  refine Calls.spliced_cons (thn (ha s σ H _ I h) fun u s1 ⟨x, H1, I1, r1, q1⟩ => ?_)
  exact thn (hr pos s1 σ H1 _ I1 q1) fun us s2 ⟨xs, H2, I2, r2, q2⟩ => ⟨x :: xs, H2, I2, .cons r1 r2, q2⟩
/-- a tuple, a list of written items -/
def tTup (t : TA) : TE := fun σ H Q => t σ H fun xs H1 => xs.length ≤ sizeLine ∧ ∀ p, H1 p = none → Q (.ref p) (upd H1 p (.tup xs))
def tLst (t : TA) : TE := fun σ H Q => t σ H fun xs H1 => xs.length ≤ sizeLine ∧ ∀ p, H1 p = none → Q (.ref p) (upd H1 p (.lst xs))
theorem pe_tup {x1} (h : PA X es t) : PE X (.Tuple es x1 pos) (tTup t) := by
  intro pins s σ H Q I hq
  refine wpAny_Tuple_spliced (thn (h pos s σ H _ I hq) fun us s1 ⟨xs, H1, I1, r, z, q⟩ => ⟨by rw [← r.length]; exact z, ?_⟩)
  have hf : H1 s1.heap.objs.size = none := I1.hok.fresh (Nat.le_refl _)
  refine ⟨.ref s1.heap.objs.size, upd H1 s1.heap.objs.size (.tup xs), I1.laid (t' := s1.toks) (fun b u e => Heap.get?_push_of_some _ e) (Nat.le_refl _) ?_, rfl, q _ hf⟩
  exact ⟨z, us, r, ⟨_, Heap.get?_push_size _ rfl, rfl, ⟨_, rfl⟩, rfl⟩⟩
theorem pe_lst (h : PA X es t) : PE X (.List es pos) (tLst t) := by
  intro pins s σ H Q I hq
  refine wpAny_List_spliced (thn (h pos s σ H _ I hq) fun us s1 ⟨xs, H1, I1, r, z, q⟩ => ⟨by rw [← r.length]; exact z, ?_⟩)
  have hf : H1 s1.heap.objs.size = none := I1.hok.fresh (Nat.le_refl _)
  refine ⟨.ref s1.heap.objs.size, upd H1 s1.heap.objs.size (.lst xs), I1.laid (t' := s1.toks) (fun b u e => Heap.get?_push_of_some _ e) (Nat.le_refl _) ?_, rfl, q _ hf⟩
  exact ⟨z, us, 0, r, Heap.get?_push_size _ rfl⟩
end
/-- a def's promise: the bound arguments in the parameters' order, the heap, the wanted end, the wanted exception -/
abbrev Sp := List V → Hp → VK → XK → Prop
/-- how an exception lies behind a call (file 08 gives it): the callers' frames, abstract heap and state ahead of the call, the wish, the exception, the state -/
abbrev CXT := List Env → Hp → Shared → XK → Value → Shared → Prop
/-- the state at a call -/
structure Env0 (P : Program) (w : World) (K : PySem.W.Frag) (mg : Str → Option Value) (base : Heap) (A : Around) (outer : List Env) (s : Shared) (H : Hp) : Prop where
  frames : A.frames = some outer
  mod : Mod K mg base
  bs : ∀ b o, base.get? b = some o → s.heap.get? b = some o ∧ H b = none
  bsz : base.objs.size ≤ s.heap.objs.size
  funs : s.heap.FunFrames base outer
  frf : ∀ b ∈ frs outer, H b = none
  hok : HOk P w H s.heap
  bare : AllBare s.gens
/-- a call's end -/
def CE (outer : List Env) (P : Program) (w : World) (H : Hp) (s : Shared) (Q : VK) (u : Value) (s' : Shared) : Prop :=
  ∃ v H', s'.os = s.os ∧ GB s.gens.size s'.gens ∧ Un (frs outer) [] H H' s.heap s'.heap ∧ HOk P w H' s'.heap ∧ RelV v u ∧ Q v H'
def CR (CX : CXT) (outer : List Env) (P : Program) (w : World) (H : Hp) (s : Shared) (Q : VK) (E : XK) (r : Result) (s' : Shared) : Prop :=
  match r with
  | .ok (.ret u) => CE outer P w H s Q u s'
  | .ok _ => False
  | .error e => CX outer H s E e s'
structure FnOk (P : Program) (w : World) (K : PySem.W.Frag) (mg : Str → Option Value) (base : Heap) (CX : CXT) (k : Nat) (f : Addr) (fd : FuncData) (ps : List Str) (sp : Sp) : Prop where
  len : ∀ vs H Q E, sp vs H Q E → vs.length = ps.length
  run : ∀ (A : Around) (outer : List Env) (s : Shared) (H : Hp) (args : Args) (us : List Value) (vs : List V) (Q : VK) (E : XK), Room k A → Env0 P w K mg base A outer s H → BindsTo s fd args (ps.zip us) → Vals vs us → sp vs H Q E →
    codeAny (model P w) A (.call (.ref f) args) (CR CX outer P w H s Q E) s
theorem FnOk.mono {P : Program} {w : World} {K : PySem.W.Frag} {mg : Str → Option Value} {base : Heap} {CX : CXT} {j k : Nat} {f : Addr} {fd : FuncData} {ps : List Str} {sp : Sp} (F : FnOk P w K mg base CX j f fd ps sp) (h : j ≤ k) :
    FnOk P w K mg base CX k f fd ps sp := ⟨F.len, fun A outer s H args us vs Q E hr => F.run A outer s H args us vs Q E (hr.mono h)⟩
/-- a weaker promise -/
theorem FnOk.imp {P : Program} {w : World} {K : PySem.W.Frag} {mg : Str → Option Value} {base : Heap} {CX : CXT} {k : Nat} {f : Addr} {fd : FuncData} {ps : List Str} {sp sp' : Sp} (F : FnOk P w K mg base CX k f fd ps sp)
    (h : ∀ vs H Q E, sp' vs H Q E → sp vs H Q E) : FnOk P w K mg base CX k f fd ps sp' :=
  ⟨fun vs H Q E q => F.len vs H Q E (h _ _ _ _ q), fun A outer s H args us vs Q E hr he hb hv hs => F.run A outer s H args us vs Q E hr he hb hv (h _ _ _ _ hs)⟩
theorem Env0.in1 {P : Program} {w : World} {K : PySem.W.Frag} {mg : Str → Option Value} {base : Heap} {A : Around} {outer : List Env} {s : Shared} {H : Hp} (e : Env0 P w K mg base A outer s H) :
    Env0 P w K mg base A.in1 outer s H := ⟨e.frames, e.mod, e.bs, e.bsz, e.funs, e.frf, e.hok, e.bare⟩
section
variable {X : Cx} {pins : List (Addr × Obj)} {σ : St} {H : Hp} {s s' : Shared}
/-- from a body: what a callee wants -/
theorem Inv.env0 (I : Inv X pins σ H s) : Env0 X.prog X.w X.K X.mg X.base X.A X.stack s H :=
  ⟨I.ok.frames, I.ok.mod, I.bs, Nat.le_trans I.ok.bsz I.sz, I.stack, I.stkFree, I.hok, I.bare.all⟩
/-- behind a call -/
theorem Inv.after {Q : VK} {u : Value} (I : Inv X pins σ H s) (h : CE X.stack X.prog X.w H s Q u s') : EP X pins σ Q u s' := by
  obtain ⟨v, H', os, bare, un, hok, r, q⟩ := h
  obtain ⟨hh, g, d, t, os'⟩ := s'
  obtain rfl : os' = s.os := os
  exact ⟨v, H', I.call (h' := hh) (g' := g) (d' := d) (t' := t) (ch := []) un hok bare (fun b z => absurd z (by simp)), r, q⟩
end
/-- f(..): the written arguments, then the defaults dvs; E: what is wanted of an exception -/
def tCall (sp : Sp) (dvs : List V) (E : XK) (t : TA) : TE := fun σ H Q => t σ H fun vs H1 => sp (vs ++ dvs) H1 Q E
/-- how the parameters are bound: us the positional arguments, kw the keywords' values by name, ds the defaults that fill up -/
def Binds (K : PySem.W.Frag) (fd : FuncData) (ps : List Str) (ds : List Value) : Prop :=
  ∀ (s : Shared) (us : List Value), K.In s.heap → (us ++ ds).length = ps.length → BindsTo s fd ⟨us, []⟩ (ps.zip (us ++ ds))
/-- every parameter is given -/
theorem Binds.all {K : PySem.W.Frag} {fd : FuncData} {ps : List Str} (h : ∀ us : List Value, us.length = ps.length → bindArgs fd ⟨us, []⟩ = pure (ps.zip us)) : Binds K fd ps [] := fun s us _ hl => by
  rw [List.append_nil] at hl ⊢
  exact .of_eq (h us hl)
/-- an exception of a callee reaches what this body wants of exceptions -/
def Passes (CX : CXT) (X : Cx) (E : XK) : Prop := ∀ (pins : List (Addr × Obj)) (σ : St) (H : Hp) (s : Shared) (e : Value) (s' : Shared), Inv X pins σ H s → CX X.stack H s E e s' → X.xe e s'
section
variable {X : Cx} {CX : CXT} {k : Nat} {f C : Addr} {fd : FuncData} {ps : List Str} {sp : Sp} {dvs : List V} {ds : List Value} {E : XK} {x m : Str} {p pos apos : Pos} {e o : Expr} {es : List Expr} {ta : TE} {t : TA}
/-- the callee runs -/
theorem run_fn {pins : List (Addr × Obj)} {σ : St} {H : Hp} {s : Shared} {Q : VK} {us : List Value} {vs : List V} (F : FnOk X.prog X.w X.K X.mg X.base CX k f fd ps sp) (hr : Room k X.A) (hb : Binds X.K fd ps ds) (hd : Vals dvs ds) (hx : Passes CX X E)
    (I : Inv X pins σ H s) (r : Vals vs us) (h : sp (vs ++ dvs) H Q E) : wpAny (model X.prog X.w) X.A (call (.ref f) us) (EP X pins σ Q) X.xe s := by
  have r2 : Vals (vs ++ dvs) (us ++ ds) := r.append hd
  have hl : (us ++ ds).length = ps.length := by rw [← r2.length]; exact F.len _ _ _ _ h
  refine wpAny_call (codeAny_mono (F.run X.A X.stack s H ⟨us, []⟩ (us ++ ds) (vs ++ dvs) Q E hr I.env0 (hb s us I.kIn hl) r2 h) fun r s' hq => ?_)
  cases r with
  | error e => exact hx pins σ H s e s' I hq
  | ok fl =>
    cases fl with
    | ret u => exact I.after hq
    | next => exact False.elim hq
    | brk => exact False.elim hq
    | cont => exact False.elim hq
theorem pe_call (F : FnOk X.prog X.w X.K X.mg X.base CX k f fd ps sp) (hr : Room k X.A) (hg : Gl X x) (hm : X.mg x = some (.ref f)) (hk : PySem.W.keepIn X.K (.ref f) = true) (hb : Binds X.K fd ps ds) (hd : Vals dvs ds) (hx : Passes CX X E)
    (ha : PA X (e :: es) t) (hdb : (x == ("__debug__" : Str)) = false := by decide) (he : starEach (e :: es) X.env = (false, eval e X.env) :: starEach es X.env := by exact star_of rfl) (hpl : (backTo pos (starEach es X.env)).any (·.1) = false := by exact plain_of rfl) :
    PE X (.Call (.Name x p) (e :: es) [] pos) (tCall sp dvs E t) := by
  intro pins s σ H Q I h
  refine wpAny_Call_Name_kw (ld_glob I hg hm ?_ hdb)
  refine PySem.W.callWith_K (h₀ := X.base) I.ok.mod.kin hk (thn (ha pos s σ H _ I h) fun us s1 ⟨vs, H1, I1, r, q⟩ => ⟨I1.kIn, ?_⟩) he hpl
  exact run_fn F hr hb hd hx I1 r q
/-- what a class must have to be made -/
structure Mk (K : PySem.W.Frag) (C f : Addr) : Prop where
  makes : PySem.W.makesIn K C = true
  init : PySem.W.findIn K (.ref C) "__init__" = some (some (.ref f))
  fn : PySem.W.isFn K (.ref f) = true
  kp : PySem.W.keepIn K (.ref C) = true
end
section
variable {X : Cx} {CX : CXT} {k : Nat} {f C : Addr} {fd : FuncData} {ps ks : List Str} {sp : Sp} {E : XK} {x m : Str} {p pos apos kpos : Pos} {e o : Expr} {es : List Expr} {kws : List Keyword} {te ta : TE} {t tk : TA} {nm : Option Str}
/-- how a call with keywords binds: g puts the positional values us and the keywords' values ws (names ks) in the parameters' order, defaults among them -/
structure KBinds (K : PySem.W.Frag) (fd : FuncData) (ps ks : List Str) (g : List Value → List Value → List Value) (gV : List V → List V → List V) : Prop where
  to : ∀ (s : Shared) (us ws : List Value), K.In s.heap → (g us ws).length = ps.length → BindsTo s fd ⟨us, ks.zip ws⟩ (ps.zip (g us ws))
  rel : ∀ {vs : List V} {us : List Value} {zs : List V} {ws : List Value}, Vals vs us → Vals zs ws → Vals (gV vs zs) (g us ws)
variable {g : List Value → List Value → List Value} {gV : List V → List V → List V}
end
/-- names: the parameters first -/
structure FnScope (N P : List Str) (sc : Scope) : Prop where
  kind : sc.kind = .function
  co : sc.isCoroutine = false
  gen : sc.isGenerator = false
  nd : N.Nodup
  pre : N.take P.length = P
  par : ∀ x ∈ P, sc.names.lookup x = some .local ∨ sc.names.lookup x = some .cell
  nofree : ∀ y ∈ sc.names, y.2 ≠ .free
theorem bindL_out {kindOf : Str → Option NameKind} {x : Str} : ∀ {binds : List (Str × Value)} {m : Str → Option Value}, (∀ v, (x, v) ∉ binds) → bindL kindOf binds m x = m x
  | [], _, _ => rfl
  | (n, v) :: r, m, h => by
    unfold bindL
    rw [bindL_out fun w hw => h w (List.mem_cons_of_mem _ hw)]
    split
    · have : x ≠ n := by rintro rfl; exact h v List.mem_cons_self
      simp [this]
    · rfl
theorem bindC_out {kindOf : Str → Option NameKind} {x : Str} : ∀ {binds : List (Str × Value)} {m : Str → Option Value}, (∀ v, (x, v) ∉ binds) → bindC kindOf binds m x = m x
  | [], _, _ => rfl
  | (n, v) :: r, m, h => by
    unfold bindC
    rw [bindC_out fun w hw => h w (List.mem_cons_of_mem _ hw)]
    split
    · rfl
    · have : x ≠ n := by rintro rfl; exact h v List.mem_cons_self
      simp [this]
theorem bindL_get {kindOf : Str → Option NameKind} {x : Str} {v : Value} : ∀ {P : List Str} {vs : List Value} {i : Nat} {m : Str → Option Value}, P.Nodup → P[i]? = some x → vs[i]? = some v → kindOf x = some .local →
    bindL kindOf (P.zip vs) m x = some v
  | [], _, _, _, _, h, _, _ => by simp at h
  | _ :: _, [], _, _, _, _, h, _ => by simp at h
  | p :: P, w :: vs, 0, m, nd, h1, h2, hk => by
    simp at h1 h2; subst h1; subst h2
    show bindL kindOf ((p, w) :: P.zip vs) m p = _
    unfold bindL
    rw [bindL_out fun v hv => (List.nodup_cons.mp nd).1 (List.of_mem_zip hv).1, if_pos hk]
    simp
  | p :: P, w :: vs, i + 1, m, nd, h1, h2, hk => by
    show bindL kindOf ((p, w) :: P.zip vs) m x = _
    unfold bindL
    exact bindL_get (i := i) (List.nodup_cons.mp nd).2 (by simpa using h1) (by simpa using h2) hk
theorem bindC_get {kindOf : Str → Option NameKind} {x : Str} {v : Value} : ∀ {P : List Str} {vs : List Value} {i : Nat} {m : Str → Option Value}, P.Nodup → P[i]? = some x → vs[i]? = some v → kindOf x ≠ some .local →
    bindC kindOf (P.zip vs) m x = some v
  | [], _, _, _, _, h, _, _ => by simp at h
  | _ :: _, [], _, _, _, _, h, _ => by simp at h
  | p :: P, w :: vs, 0, m, nd, h1, h2, hk => by
    simp at h1 h2; subst h1; subst h2
    show bindC kindOf ((p, w) :: P.zip vs) m p = _
    unfold bindC
    rw [bindC_out fun v hv => (List.nodup_cons.mp nd).1 (List.of_mem_zip hv).1, if_neg hk]
    simp
  | p :: P, w :: vs, i + 1, m, nd, h1, h2, hk => by
    show bindC kindOf ((p, w) :: P.zip vs) m x = _
    unfold bindC
    exact bindC_get (i := i) (List.nodup_cons.mp nd).2 (by simpa using h1) (by simpa using h2) hk
/-- the names' values at the entry -/
def start (N : List Str) (vs : List V) : St := vs.map some ++ List.replicate (N.length - vs.length) none
/-- the context of a def's body, at its entry; an exception leaves the frame, then lies as CX says -/
def cxOf (CX : CXT) (P : Program) (w : World) (K : PySem.W.Frag) (mg : Str → Option Value) (base : Heap) (N : List Str) (qual : Str) (scope : Scope) (f : Addr) (cd : Value) (A : Around) (outer : List Env) (s : Shared) (H : Hp) (E : XK) : Cx where
  prog := P
  w := w
  K := K
  mg := mg
  base := base
  A := A.deeper (envOfC qual scope s.heap.objs.size f cd)
  N := N
  s_0 := s
  H_0 := H
  env := envOfC qual scope s.heap.objs.size f cd
  outer := outer
  stack := envOfC qual scope s.heap.objs.size f cd :: outer
  ex := []
  calm := true
  fn := fun _ => true
  pn := []
  xe := fun e s' => wpAny (model P w) (A.deeper (envOfC qual scope s.heap.objs.size f cd)) (leaving (envOfC qual scope s.heap.objs.size f cd) e) (fun _ s'' => CX outer H s E e s'') (fun e' s'' => CX outer H s E e' s'') s'
theorem cell_has {sc : Scope} {n : Nat} {x : Str} (h : sc.names.lookup x = some .cell) : ∃ c, (cellsFrom n sc.names []).lookup x = some c := by
  have q := PySem.W.cellsFrom_some sc.names n [] (.inl h)
  exact Option.isSome_iff_exists.mp q
theorem inv_start {CX : CXT} {P : Program} {w : World} {K : PySem.W.Frag} {mg : Str → Option Value} {base : Heap} {N ps : List Str} {qual : Str} {scope : Scope} {f : Addr} {cd : Value} {A : Around} {outer : List Env} {s s1 : Shared} {H : Hp} {E : XK} {us : List Value} {vs : List V}
    (S : FnScope N ps scope) (hd : A.handled = none) (e0 : Env0 P w K mg base A outer s H) (hl : vs.length = ps.length) (r : Vals vs us)
    (x : InCallC s s.heap.objs.size (bindL (envOfC qual scope s.heap.objs.size f cd).kindOf (ps.zip us) fun _ => none) (cellsFrom (s.heap.objs.size + 1) scope.names []) (bindC (envOfC qual scope s.heap.objs.size f cd).kindOf (ps.zip us) fun _ => none) s1) :
    Inv (cxOf CX P w K mg base N qual scope f cd A outer s H E) [] (start N vs) H s1 := by
  have hpl : ps.length ≤ N.length := by have := congrArg List.length S.pre; rw [List.length_take] at this; omega
  obtain ⟨h1, tk, rfl, hk⟩ := x.done
  have noA : ∀ b : Addr, b ∉ (cxOf CX P w K mg base N qual scope f cd A outer s H E).ex := fun b z => absurd (show b ∈ ([] : List Addr) from z) (by simp)
  refine ⟨⟨e0.mod, S.kind, rfl, rfl, Nat.le_refl _, fun y z c h1 h2 => ?_, fun y hy => ?_, fun y c _ h => ?_, fun _ => hd, Around.frames_deeper e0.frames, .inr ⟨rfl, rfl⟩, fun b z => absurd z (noA b), e0.bs, e0.bsz, fun b _ _ => noA b, fun b z => absurd z (noA b), e0.funs, e0.frf⟩,
    rfl, ⟨e0.bare, Nat.le_refl _⟩, Un.kept hk, ⟨_, x.toInCall.ns, fun i y v h1 h2 h3 => ?_⟩, fun y c h => ⟨_, x.cell y c h⟩, e0.hok.fresh (Nat.le_refl _), fun y c h => ?_, fun p hp => absurd (show p ∈ ([] : List (Addr × Obj)) from hp) (by simp), e0.hok.kept hk, ?_⟩
  · exact name_of_addr x.apart (PySem.mem_of_lookup h1) (PySem.mem_of_lookup h2)
  · have hy : scope.names.lookup y = some .cell ∨ scope.names.lookup y = some .free := hy
    rcases hy with hy | hy
    · exact cell_has hy
    · exact absurd rfl (S.nofree _ (PySem.mem_of_lookup hy))
  · exact Nat.le_of_lt (x.above y c (PySem.mem_of_lookup h))
  · have hi : i < vs.length := by
      unfold start at h2
      by_cases hi : i < vs.length
      · exact hi
      · rw [List.getElem?_append_right (by simpa using hi)] at h2
        rw [List.getElem?_replicate] at h2
        split at h2 <;> cases h2
    have ha : vs[i]? = some v := by
      unfold start at h2
      rw [List.getElem?_append_left (by simpa using hi), List.getElem?_map] at h2
      cases e : vs[i]? with
      | none => rw [e] at h2; cases h2
      | some a => rw [e] at h2; cases h2; rfl
    obtain ⟨u, hu, rv⟩ := r.get ha
    have hp : ps[i]? = some y := by
      rw [← S.pre, List.getElem?_take_of_lt (by omega)]; exact h1
    have ndP : ps.Nodup := by rw [← S.pre]; exact S.nd.sublist (List.take_sublist _ _)
    refine ⟨u, rv, ?_⟩
    rcases S.par y (List.mem_of_getElem? hp) with k | k
    · exact .inl ⟨k, bindL_get ndP hp hu k⟩
    · obtain ⟨c, e⟩ := cell_has (n := s.heap.objs.size + 1) k
      refine .inr ⟨.inl k, c, e, ?_⟩
      have q := x.cell y c e
      rw [bindC_get ndP hp hu (by show scope.names.lookup y ≠ _; rw [k]; decide)] at q
      exact q
  · exact e0.hok.fresh (Nat.le_of_lt (x.above y c (PySem.mem_of_lookup h)))
  · unfold start
    show _ = N.length
    rw [List.length_append, List.length_map, List.length_replicate]
    omega
/-- THE RULE: a def (or a method) of the text, by its body. The body's reading t is chosen for each entry; it is run at the parameters' values -/
theorem fn_of {CX : CXT} {P : Program} {w : World} {K : PySem.W.Frag} {mg : Str → Option Value} {base : Heap} {k : Nat} {f : Addr} {name qual : Str} {params : Arguments} {body : List Stmt} {scope : Scope} {dV kV doc pm cdv ct oc : Value} {an od : Option Addr}
    {osl : Array (Option Value)} {N ps : List Str} {sp : Sp} (lk : K.lookup f = some ⟨oc, od, .func (PySem.W.fnOf name qual params body scope dV kV doc pm an cdv ct), osl⟩) (hcd : PySem.W.codeIn K cdv qual = true) (S : FnScope N ps scope)
    (len : ∀ vs H Q E, sp vs H Q E → vs.length = ps.length)
    (hbody : ∀ (A : Around) (outer : List Env) (s : Shared) (H : Hp) (vs : List V) (Q : VK) (E : XK), Room k (A.deeper (envOfC qual scope s.heap.objs.size f cdv)) → sp vs H Q E →
      ∃ t, PSs (cxOf CX P w K mg base N qual scope f cdv A outer s H E) body t ∧ t { nx := fun _ H' => Q .non H', rt := Q } (start N vs) H) :
    FnOk P w K mg base CX (k + 1) f (PySem.W.fnOf name qual params body scope dV kV doc pm an cdv ct) ps sp := by
  refine ⟨len, fun A outer s H args us vs Q E hr e0 hb r hsp => ?_⟩
  have hl := len _ _ _ _ hsp
  have KX : K.In s.heap := e0.mod.kin.keeps fun b o e => (e0.bs b o e).1
  have lim : s.heap.NoLimit := e0.mod.nolimit.keeps fun b o e => (e0.bs b o e).1
  have hkind : ∀ y ∈ ps.zip us, scope.names.lookup y.1 = some .local ∨ (scope.names.lookup y.1 = some .cell ∧ ((cellsFrom (s.heap.objs.size + 1) scope.names []).lookup y.1).isSome = true) := fun ⟨n, v⟩ hy => by
    rcases S.par n (List.of_mem_zip hy).1 with q | q
    · exact .inl q
    · exact .inr ⟨q, PySem.W.cellsFrom_some _ _ _ (.inl q)⟩
  refine codeAny_call_function hr.depth (KX _ _ lk) rfl S.co S.gen rfl (PySem.W.codeRec_of KX hcd) (hb _ _ _ _ ?_)
  refine wpAny_newFunctionEnv_cells S.kind hkind fun env he s1 x => ?_
  subst he
  refine ⟨lim.keeps x.toInCall.keep, codeAny_func ?_⟩
  obtain ⟨t, ht, hq⟩ := hbody A outer s H vs Q E (hr.deeper _) hsp
  have I : Inv (cxOf CX P w K mg base N qual scope f cdv A outer s H E) [] (start N vs) H s1 := inv_start S hr.hd e0 hl r x
  refine wpAny_mono (ht s1 (start N vs) H _ I hq) (fun fl s' hs => ?_) fun e s' hs => hs
  have fin : ∀ {σ' : St} {H' : Hp} {v : V} {u : Value}, Inv (cxOf CX P w K mg base N qual scope f cdv A outer s H E) [] σ' H' s' → RelV v u → Q v H' → CE outer P w H s Q u s' :=
    fun {σ' H' v u} J rv q => ⟨v, H', J.os, J.bare, J.base, J.hok, rv, q⟩
  cases fl with
  | ret u =>
    obtain ⟨v, σ', H', J, rv, q⟩ := hs
    exact fin J rv q
  | next =>
    obtain ⟨σ', H', J, q⟩ := hs
    exact fin (v := V.non) (u := Value.none) J rfl q
  | brk =>
    obtain ⟨_, _, _, q⟩ := hs
    exact False.elim q
  | cont =>
    obtain ⟨_, _, _, q⟩ := hs
    exact False.elim q
end L2
namespace L2
open PySem PySem.Spec PyProof.Rows
section
variable {X : Cx} {x : Str} {p pos : Pos} {e : Expr} {es : List Expr} {t : TA} {id T : String} {r : List V → Hp → VK → Prop}
def tCB (r : List V → Hp → VK → Prop) (t : TA) : TE := fun σ H Q => t σ H fun vs H1 => r vs H1 Q
/-- f(e, ..), f a built-in function -/
theorem pe_callB (hc : CallR X (.builtin id) r) (hg : Gl X x) (hm : X.mg x = none) (hv : bootBuiltins x = some (.builtin id)) (ha : PA X (e :: es) t) (hn : x ≠ "__name__" := by decide) (hdb : (x == ("__debug__" : Str)) = false := by decide)
    (he : starEach (e :: es) X.env = (false, eval e X.env) :: starEach es X.env := by exact star_of rfl) (hpl : (backTo pos (starEach es X.env)).any (·.1) = false := by exact plain_of rfl) : PE X (.Call (.Name x p) (e :: es) [] pos) (tCB r t) := by
  intro pins s σ H Q I h
  refine wpAny_Call_Name_kw (ld_blt I hg hm hv ?_ hn hdb)
  exact PyProof.Rows.callWith_builtin1 (thn (ha pos s σ H _ I h) fun us s1 ⟨vs, H1, I1, r1, q1⟩ => hc s1 σ H1 vs us Q I1 r1 q1) he hpl
/-- T(e, ..), T a built-in type -/
theorem pe_callTy (hc : CallR X (.type T) r) (hg : Gl X x) (hm : X.mg x = none) (hv : bootBuiltins x = some (.type T)) (ha : PA X (e :: es) t) (hn : x ≠ "__name__" := by decide) (hdb : (x == ("__debug__" : Str)) = false := by decide)
    (he : starEach (e :: es) X.env = (false, eval e X.env) :: starEach es X.env := by exact star_of rfl) (hpl : (backTo pos (starEach es X.env)).any (·.1) = false := by exact plain_of rfl) : PE X (.Call (.Name x p) (e :: es) [] pos) (tCB r t) := by
  intro pins s σ H Q I h
  refine wpAny_Call_Name_kw (ld_blt I hg hm hv ?_ hn hdb)
  exact PyProof.Rows.callWith_type1 (thn (ha pos s σ H _ I h) fun us s1 ⟨vs, H1, I1, r1, q1⟩ => hc s1 σ H1 vs us Q I1 r1 q1) he hpl
end
end L2
namespace HT
open PySem PyProof.Rows
section
open PySem.SeqAt
open PySem.AutoSeq1 (wpAny_loadPart')
open PySem.MeetsSeq PySem.MeetsSeq2 PySem.MeetsSeq3
end
section
variable {prog : Program} {w : World} {A : Around} {E : Value → Shared → Prop} {s : Shared}
/-- a slice's bound as a place among n (d where it is left out) -/
def sIx (n d : Nat) : Option Int → Nat
  | none => d
  | some v => if v < 0 then (v + (n : Int)).toNat else min v.toNat n
theorem sIx_none (n d : Nat) : sIx n d none = d := rfl
theorem sIx_nat (n d k : Nat) : sIx n d (some (k : Int)) = min k n := by
  show (if (k : Int) < 0 then ((k : Int) + (n : Int)).toNat else min (k : Int).toNat n) = min k n
  rw [if_neg (by omega), Int.toNat_natCast]
theorem sIx_le (n d : Nat) (hd : d ≤ n) (o : Option Int) : sIx n d o ≤ n := by
  cases o with
  | none => exact hd
  | some v =>
    show (if v < 0 then (v + (n : Int)).toNat else min v.toNat n) ≤ n
    by_cases hv : v < 0
    · rw [if_pos hv]; omega
    · rw [if_neg hv]; exact Nat.min_le_right _ _
theorem clip_eq (v : Int) (n d : Nat) : (if v < 0 then max (v + (n : Int)) 0 else min v (n : Int)) = ((sIx n d (some v) : Nat) : Int) := by
  show (if v < 0 then max (v + (n : Int)) 0 else min v (n : Int)) = (((if v < 0 then (v + (n : Int)).toNat else min v.toNat n) : Nat) : Int)
  by_cases hv : v < 0
  · simp only [if_pos hv]; omega
  · simp only [if_neg hv]; omega
theorem adjust_gen (lo hi : Option Int) (n : Nat) : Builtin.Slice.sliceAdjust lo hi 1 (n : Int) = (((sIx n 0 lo : Nat) : Int), ((sIx n n hi : Nat) : Int)) := by
  have h1 : ¬ ((1 : Int) < 0) := by omega
  unfold Builtin.Slice.sliceAdjust
  simp only [h1, if_false]
  refine Prod.ext ?_ ?_
  · cases lo with
    | none => rfl
    | some v => exact clip_eq v n 0
  · cases hi with
    | none => rfl
    | some v => exact clip_eq v n n
theorem places_gen (i j : Nat) : Builtin.Slice.slicePlaces (i : Int) (j : Int) 1 = j - i := by
  unfold Builtin.Slice.slicePlaces
  have h1 : (1 : Int) > 0 := by omega
  simp only [h1, if_true, Int.ediv_one]
  split <;> omega
theorem slicePart_ {v : Value} {o : Option Int} {Q : Option Int → Shared → Prop} (p : IsPart v o) (h : Q o s) : wpAny (model prog w) A (Builtin.Slice.slicePartIndex v) Q E s := by
  cases p with
  | none => exact slicePart_none h
  | int i t => exact slicePart_int h
theorem sliceApplied_gen {sl : Addr} {vl vu : Value} {lo hi : Option Int} {n : Nat} {Q : Int × Int × Nat → Shared → Prop} (hs : s.heap.IsSliceOf sl vl vu .none) (pl : IsPart vl lo) (pu : IsPart vu hi)
    (h : Q (((sIx n 0 lo : Nat) : Int), 1, sIx n n hi - sIx n 0 lo) s) : wpAny (model prog w) A (Builtin.Slice.sliceApplied (.ref sl) (pure (n : Int))) Q E s := by
  obtain ⟨os, hos, hcs, hds⟩ := id hs
  unfold Builtin.Slice.sliceApplied Builtin.Slice.sliceFields
  refine wpAny_bind (wpAny_bind (wpAny_field hos hds (x := vl) rfl (wpAny_bind (wpAny_field hos hds (x := vu) rfl (wpAny_bind (wpAny_field hos hds (x := .none) rfl (wpAny_pure ?_)))))))
  refine wpAny_bind (slicePart_none ?_)
  show wpAny _ _ (if ((1 : Int) == 0) = true then _ else _) _ _ s
  rw [if_neg (by decide)]
  refine wpAny_bind (slicePart_ pl (wpAny_bind (slicePart_ pu (wpAny_bind (wpAny_pure ?_)))))
  show wpAny _ _ (match Builtin.Slice.sliceAdjust lo hi 1 (n : Int) with | (lo, hi) => pure (lo, (1 : Int), Builtin.Slice.slicePlaces lo hi 1)) _ _ s
  rw [adjust_gen lo hi n]
  show wpAny _ _ (pure (((sIx n 0 lo : Nat) : Int), (1 : Int), Builtin.Slice.slicePlaces ((sIx n 0 lo : Nat) : Int) ((sIx n n hi : Nat) : Int) 1)) _ _ s
  rw [places_gen]
  exact wpAny_pure h
theorem pick_gen (xs : Array Value) (i k : Nat) : ((List.range k).filterMap fun (m : Nat) => xs[((i : Int) + (m : Int) * 1).toNat]?).toArray = ((xs.toList.drop i).take k).toArray := by
  have e : (fun (m : Nat) => xs[((i : Int) + (m : Int) * 1).toNat]?) = fun m => xs[i + m]? := by
    funext m
    have : ((i : Int) + (m : Int) * 1).toNat = i + m := by omega
    rw [this]
  rw [e]
  have := pick_run xs i k
  rw [List.filterMap_map] at this
  have e2 : ((fun x => xs[x]?) ∘ fun x => i + x) = fun m => xs[i + m]? := rfl
  rw [e2] at this
  rw [this]
theorem getItem_tuple_cut {t sl : Addr} {items : Array Value} {vl vu : Value} {lo hi : Option Int} {Q : Value → Shared → Prop} (ht : IsTup s.heap t items) (hs : s.heap.IsSliceOf sl vl vu .none) (pl : IsPart vl lo) (pu : IsPart vu hi)
    (hw : ¬ (sIx items.size 0 lo = 0 ∧ sIx items.size items.size hi = items.size))
    (h : Q (.ref s.heap.objs.size) { s with heap := s.heap.push { cls := .type "tuple", data := .seq ((items.toList.drop (sIx items.size 0 lo)).take (sIx items.size items.size hi - sIx items.size 0 lo)).toArray } })
    (hsz : items.size ≤ sizeLine) : wpAny (model prog w) A (getItem (.ref t) (.ref sl)) Q E s := by
  have htake : sizeOk (.seq ((items.toList.drop (sIx items.size 0 lo)).take (sIx items.size items.size hi - sIx items.size 0 lo)).toArray) := by
    show ((items.toList.drop (sIx items.size 0 lo)).take (sIx items.size items.size hi - sIx items.size 0 lo)).toArray.size ≤ sizeLine
    rw [List.size_toArray, List.length_take, List.length_drop, Array.length_toList]
    omega
  have hj : sIx items.size items.size hi ≤ items.size := sIx_le _ _ (Nat.le_refl _) hi
  obtain ⟨os, hos, hcs, hds⟩ := id hs
  have hTs : s.TypeIs (.ref sl) "slice" := ⟨os, hos, hcs⟩
  unfold getItem
  try with_reducible refine wpAny_holding ?_
  first | refine wpAny_bind (wpAny_pure ?_) | skip
  refine wpAny_bind (wpAny_sequenceKey ht.typeIs (by decide) ?_)
  refine wpAny_bind (wpAny_callSpecial?_slot (name := Str.ofString "__getitem__") ht.typeIs PyProof.Rows.slot_tuple_getitem
    (wpAny_call_entry PyProof.Rows.slot_tuple_getitem ht.typeIs entry_tuple_getitem ?_ (args_tuple_getitem _ _)))
  show wpAny _ _ (Builtin.Tuple.tupleItemsOf (.ref t) >>= _) _ _ s
  refine wpAny_bind (tupleItemsOf_ ht ?_)
  refine wpAny_bind (wpAny_typeOf hTs ?_)
  rw [if_pos (by decide)]
  refine wpAny_bind (sliceApplied_gen hs pl pu ?_)
  have hno : ¬ ((((sIx items.size 0 lo : Nat) : Int) == 0 && (1 : Int) == 1 && (sIx items.size items.size hi - sIx items.size 0 lo) == items.size) = true) := by
    intro q
    rw [Bool.and_eq_true, Bool.and_eq_true] at q
    have q1 : ((sIx items.size 0 lo : Nat) : Int) = 0 := eq_of_beq q.1.1
    have q2 : sIx items.size items.size hi - sIx items.size 0 lo = items.size := eq_of_beq q.2
    exact hw ⟨by omega, by omega⟩
  show wpAny _ _ (if (((sIx items.size 0 lo : Nat) : Int) == 0 && (1 : Int) == 1 && (sIx items.size items.size hi - sIx items.size 0 lo) == items.size) = true then _ else _) _ _ s
  rw [if_neg hno, pick_gen]
  first
    | exact wpAny_bind (m := Builtin.Tuple.tupleExact _) (wpAny_newObj_type (wpAny_pure ⟨_, rfl, wpAny_pure h⟩) htake)
    | exact wpAny_bind (m := Builtin.Tuple.tupleExact _) (wpAny_newObj_type (wpAny_bind (wpAny_pure (wpAny_pure ⟨_, rfl, wpAny_pure h⟩))) htake)
    | exact wpAny_bind (wpAny_bind (m := Builtin.Tuple.tupleExact _) (wpAny_newObj_type (wpAny_pure (wpAny_pure ⟨_, rfl, wpAny_pure h⟩)) htake))
    | exact wpAny_bind (wpAny_bind (m := Builtin.Tuple.tupleExact _) (wpAny_newObj_type (wpAny_pure ⟨_, rfl, wpAny_pure h⟩) htake))
end
end HT
namespace L2
open PySem PySem.Spec PyProof.Rows
abbrev TO := St → Hp → (Option Int → Hp → Prop) → Prop
/-- a slice's part (left out, or an int) -/
def PO (X : Cx) (e : Option Expr) (t : TO) : Prop :=
  ∀ ⦃pins : List (Addr × Obj)⦄ (s : Shared) (σ : St) (H : Hp) (Q : Option Int → Hp → Prop), Inv X pins σ H s → t σ H Q →
    wpAny (model X.prog X.w) X.A (evalPart e X.env) (fun u s' => ∃ o H', Inv X pins σ H' s' ∧ IsPart u o ∧ Q o H') X.xe s
def tNoPart : TO := fun _ H Q => Q none H
def tPart (t : TE) : TO := fun σ H Q => t σ H fun x H1 => ∃ i, x = .int i ∧ Q (some i) H1
section
variable {X : Cx} {e : Expr} {te : TE} {lo hi : Option Expr} {tl th : TO} {pos p2 : Pos}
theorem po_none : PO X none tNoPart := by
  intro pins s σ H Q I h
  rw [evalPart_none]
  exact wpAny_pure ⟨none, H, I, .none, h⟩
theorem po_some (h : PE X e te) : PO X (some e) (tPart te) := by
  intro pins s σ H Q I hw
  rw [evalPart_some]
  refine thn (h s σ H _ I hw) fun u s1 ⟨x, H1, I1, r1, q1⟩ => ?_
  obtain ⟨i, rfl, q⟩ := q1
  obtain ⟨t, rfl⟩ := r1
  exact ⟨some i, H1, I1, .int i t, q⟩
/-- what a slice of a value is, by values: the slice object stands at sl -/
def SlR (X : Cx) (r : V → Option Int → Option Int → Hp → VK → Prop) : Prop :=
  ∀ ⦃pins : List (Addr × Obj)⦄ (s : Shared) (σ : St) (H : Hp) (x : V) (v vl vu : Value) (lo hi : Option Int) (sl : Addr) (Q : VK), Inv X pins σ H s → RelV x v → s.heap.IsSliceOf sl vl vu .none → IsPart vl lo → IsPart vu hi → r x lo hi H Q →
    ∃ T id, typeLookup (.type T) "__getitem__" = pure (some (.builtin id)) ∧ s.TypeIs v T ∧ wpAny (model X.prog X.w) X.A (getItem v (.ref sl)) (EP X pins σ Q) X.xe s
theorem SlR.or {r r' : V → Option Int → Option Int → Hp → VK → Prop} (h : SlR X r) (h' : SlR X r') : SlR X (fun x lo hi H Q => r x lo hi H Q ∨ r' x lo hi H Q) := by
  intro pins s σ H x v vl vu lo hi sl Q I rx hs pl pu q
  rcases q with q | q
  · exact h s σ H x v vl vu lo hi sl Q I rx hs pl pu q
  · exact h' s σ H x v vl vu lo hi sl Q I rx hs pl pu q
def tSl (r : V → Option Int → Option Int → Hp → VK → Prop) (te : TE) (tl th : TO) : TE := fun σ H Q => te σ H fun x H1 => tl σ H1 fun l H2 => th σ H2 fun u H3 => r x l u H3 Q
/-- a[lo:hi], any a -/
theorem pe_slice {r : V → Option Int → Option Int → Hp → VK → Prop} (hr : SlR X r) (he : PE X e te) (hl : PO X lo tl) (hu : PO X hi th) : PE X (.Subscript e (.Slice lo hi none p2) pos) (tSl r te tl th) := by
  intro pins s σ H Q I h
  refine Subscript_ (thn (he s σ H _ I h) fun v s1 ⟨x, H1, I1, r1, q1⟩ => ?_)
  refine wpAny_Slice (thn (hl s1 σ H1 _ I1 q1) fun vl s2 ⟨l, H2, I2, pl, q2⟩ => thn (hu s2 σ H2 _ I2 q2) fun vu s3 ⟨u, H3, I3, pu, q3⟩ => ?_)
  rw [evalPart_none]
  refine wpAny_pure ?_
  have I4 : Inv X pins σ H3 { s3 with heap := s3.heap.push { cls := .type "slice", data := .fields #[vl, vu, .none] } } := I3.kept (t' := s3.toks) fun b ob q => Heap.get?_push_of_some _ q
  obtain ⟨T, id, hT, ht, hg⟩ := hr { s3 with heap := s3.heap.push { cls := .type "slice", data := .fields #[vl, vu, .none] } } σ H3 x v vl vu l u s3.heap.objs.size Q I4 r1 (Heap.IsSliceOf.new ..) pl pu q3
  show wpAny (model X.prog X.w) X.A (subscriptTail e (.Slice lo hi none p2) v (.ref s3.heap.objs.size)) (EP X pins σ Q) X.xe { s3 with heap := s3.heap.push { cls := .type "slice", data := .fields #[vl, vu, .none] } }
  exact tail_any (ops := [.ref s3.heap.objs.size, v]) ht hT hg (by with_unfolding_all rfl)
/-- the items of xs[lo:hi] -/
def cutV (xs : List V) (lo hi : Option Int) : List V := (xs.drop (HT.sIx xs.length 0 lo)).take (HT.sIx xs.length xs.length hi - HT.sIx xs.length 0 lo)
theorem cutV_length (xs : List V) (lo hi : Option Int) : (cutV xs lo hi).length ≤ xs.length := by
  unfold cutV
  rw [List.length_take, List.length_drop]
  omega
/-- t[lo:hi], not the whole of it (the whole would be t itself) -/
def rSlT (K : PySem.W.Frag) : V → Option Int → Option Int → Hp → VK → Prop := fun x lo hi H Q => ∃ a xs, x = .ref a ∧ SqT K H a xs ∧
  ¬ (HT.sIx xs.length 0 lo = 0 ∧ HT.sIx xs.length xs.length hi = xs.length) ∧ ∀ p, H p = none → Q (.ref p) (upd H p (.tup (cutV xs lo hi)))
theorem sl_tup : SlR X (rSlT X.K) := by
  intro pins s σ H x v vl vu lo hi sl Q I rx hs pl pu h
  obtain ⟨a, xs, rfl, hx, hw, q⟩ := h
  cases rx
  obtain ⟨its, r, ht, hz⟩ := I.tuple hx
  have hlen : its.toArray.size = xs.length := by rw [List.size_toArray]; exact r.length.symm
  refine ⟨"tuple", _, PyProof.Rows.slot_tuple_getitem.lookup, ht.typeIs, ?_⟩
  refine HT.getItem_tuple_cut ht hs pl pu (by rw [hlen]; exact hw) ?_ (by rw [hlen]; exact hz)
  rw [hlen]
  refine ⟨.ref s.heap.objs.size, _, I.laid (t' := s.toks) (o := .tup (cutV xs lo hi)) (fun b ob q => Heap.get?_push_of_some _ q) (Nat.le_refl _) ?_, rfl, q _ (I.hok.fresh (Nat.le_refl _))⟩
  exact ⟨Nat.le_trans (cutV_length xs lo hi) hz, _, (r.drop (HT.sIx xs.length 0 lo)).take (HT.sIx xs.length xs.length hi - HT.sIx xs.length 0 lo), IsTupN.new _ _⟩
end
end L2
namespace L2
open PySem PySem.Spec PyProof.Rows
/-- the place that an index of any sign means -/
def ixN (n : Nat) (i : Int) : Option Nat := if 0 ≤ i then (if i < n then some i.toNat else none) else if -(n : Int) ≤ i then some (i + n).toNat else none
def atI {α : Type} (xs : List α) (i : Int) : Option α := (ixN xs.length i).bind fun j => xs[j]?
theorem ixN_seq {n : Nat} {i : Int} {j : Nat} (h : ixN n i = some j) : seqIndex? i n = some j ∧ j < n ∧ -(n : Int) ≤ i ∧ i < n := by
  unfold ixN at h
  by_cases h0 : 0 ≤ i
  · rw [if_pos h0] at h
    by_cases h1 : i < n
    · rw [if_pos h1] at h
      have e : i.toNat = j := Option.some.inj h
      exact ⟨by rw [seqIndex_of h0 h1, e], by omega, by omega, h1⟩
    · rw [if_neg h1] at h; cases h
  · rw [if_neg h0] at h
    by_cases h1 : -(n : Int) ≤ i
    · rw [if_pos h1] at h
      have e : (i + n).toNat = j := Option.some.inj h
      exact ⟨by rw [seqIndex_neg (by omega) h1, e], by omega, h1, by omega⟩
    · rw [if_neg h1] at h; cases h
theorem atI_get {α : Type} {xs : List α} {i : Int} {v : α} (h : atI xs i = some v) : ∃ j, seqIndex? i xs.length = some j ∧ xs[j]? = some v ∧ j < xs.length ∧ -(xs.length : Int) ≤ i ∧ i < xs.length := by
  unfold atI at h
  cases e : ixN xs.length i with
  | none => rw [e] at h; cases h
  | some j =>
    rw [e] at h
    obtain ⟨h1, h2, h3, h4⟩ := ixN_seq e
    exact ⟨j, h1, h, h2, h3, h4⟩
theorem atI_nat {α : Type} {xs : List α} {j : Nat} {v : α} (h : xs[j]? = some v) : atI xs (j : Int) = some v := by
  have hj : j < xs.length := (List.getElem?_eq_some_iff.mp h).1
  have e : ixN xs.length (j : Int) = some j := by
    unfold ixN
    rw [if_pos (by omega), if_pos (by omega)]; simp
  unfold atI; rw [e]; exact h
/-- what stands as an index of a plain subscript -/
def PlainIx (b : Expr) : Prop := ∀ o i, subscripted b false o i = operate [o, i] (getItem o i)
/-- a subscript by values -/
def IxR (X : Cx) (r : R2) : Prop :=
  ∀ (value slice : Expr) ⦃pins : List (Addr × Obj)⦄ (s : Shared) (σ : St) (H : Hp) (x y : V) (v u : Value) (Q : VK), Inv X pins σ H s → RelV x v → RelV y u → r x y H Q →
    subscripted slice false v u = operate [v, u] (getItem v u) → wpAny (model X.prog X.w) X.A (subscriptTail value slice v u) (EP X pins σ Q) X.xe s
/-- a call of a builtin's method by values: the receiver, the arguments -/
def MtR (X : Cx) (id : String) (r : V → List V → Hp → VK → Prop) : Prop :=
  ∀ ⦃pins : List (Addr × Obj)⦄ (s : Shared) (σ : St) (H : Hp) (x : V) (xs : List V) (v : Value) (us : List Value) (Q : VK), Inv X pins σ H s → RelV x v → Vals xs us → r x xs H Q →
    wpAny (model X.prog X.w) X.A (call (.builtin id) (v :: us)) (EP X pins σ Q) X.xe s
section
variable {X : Cx} {a b : Expr} {ta tb : TE} {pos : Pos}
theorem IxR.or {r r' : R2} (h : IxR X r) (h' : IxR X r') : IxR X (fun x y H Q => r x y H Q ∨ r' x y H Q) := by
  intro value slice pins s σ H x y v u Q I rx ry q hs
  rcases q with q | q
  · exact h value slice s σ H x y v u Q I rx ry q hs
  · exact h' value slice s σ H x y v u Q I rx ry q hs
theorem MtR.or {id : String} {r r' : V → List V → Hp → VK → Prop} (h : MtR X id r) (h' : MtR X id r') : MtR X id (fun x xs H Q => r x xs H Q ∨ r' x xs H Q) := by
  intro pins s σ H x xs v us Q I rx rs q
  rcases q with q | q
  · exact h s σ H x xs v us Q I rx rs q
  · exact h' s σ H x xs v us Q I rx rs q
/-- a[b] -/
theorem pe_ix {r : R2} (hr : IxR X r) (ha : PE X a ta) (hb : PE X b tb) (hs : PlainIx b) : PE X (.Subscript a b pos) (tOp r ta tb) := by
  intro pins s σ H Q I h
  exact Subscript_ (binT ha hb I h fun v u s2 x y H2 I2 rx ry q => hr a b s2 σ H2 x y v u Q I2 rx ry q (hs _ _))
def rIxL (K : PySem.W.Frag) : R2 := fun x y H Q => ∃ p xs i v, x = .ref p ∧ y = .int i ∧ SqL K H p xs ∧ atI xs i = some v ∧ Q v H
def rIxT (K : PySem.W.Frag) : R2 := fun x y H Q => ∃ p xs i v, x = .ref p ∧ y = .int i ∧ SqT K H p xs ∧ atI xs i = some v ∧ Q v H
theorem ix_list : IxR X (rIxL X.K) := by
  intro value slice pins s σ H x y v u Q I rx ry h hs
  obtain ⟨p, xs, i, z, rfl, rfl, hq, he, q⟩ := h
  cases rx
  obtain ⟨t, rfl⟩ := ry
  obtain ⟨its, r, pl, hz⟩ := I.list hq
  obtain ⟨j, h1, h2, h3, h4, h5⟩ := atI_get he
  obtain ⟨w, ew, rw'⟩ := r.get h2
  have hl := r.length
  have hn := line63
  have fin : EP X pins σ Q w s := ⟨z, H, I, rw', q⟩
  by_cases h0 : 0 ≤ i
  · have hj : i.toNat = j := by
      rw [seqIndex_of h0 h5] at h1
      exact Option.some.inj h1
    exact item_listR pl.isList h0 (by omega) (by rw [hj]; simpa using ew) fin hs
  · have hj : (i + (its.toArray.size : Int)).toNat = j := by
      rw [seqIndex_neg (by omega) h4] at h1
      rw [List.size_toArray, ← hl]
      exact Option.some.inj h1
    exact subscriptTail_builtinR (x := w) pl.isList.typeIs slot_list_getitem.lookup
      (wpAny_getItem_list_neg (Q := fun r s' => r = w ∧ EP X pins σ Q r s') pl.isList (by omega) (by rw [List.size_toArray] <;> omega) (by omega) (by rw [hj]; simpa using ew) ⟨rfl, fin⟩) hs
theorem ix_tup : IxR X (rIxT X.K) := by
  intro value slice pins s σ H x y v u Q I rx ry h hs
  obtain ⟨p, xs, i, z, rfl, rfl, hq, he, q⟩ := h
  cases rx
  obtain ⟨t, rfl⟩ := ry
  obtain ⟨its, r, pl, hz⟩ := I.tuple hq
  obtain ⟨j, h1, h2, h3, h4, h5⟩ := atI_get he
  obtain ⟨w, ew, rw'⟩ := r.get h2
  have hl := r.length
  have hn := line63
  have fin : EP X pins σ Q w s := ⟨z, H, I, rw', q⟩
  exact subscriptTail_builtinR (x := w) pl.typeIs slot_tuple_getitem.lookup
    (getItem_tuple (j := j) (Q := fun r s' => r = w ∧ EP X pins σ Q r s') pl (by omega) (by omega) (by rw [List.size_toArray, ← hl]; exact h1) (by simpa using ew) ⟨rfl, fin⟩) hs
/-- the list's object behind a store -/
theorem mapSeq_set (its : List Value) (n j : Nat) (u : Value) : Obj.mapSeq (·.setIfInBounds j u) { cls := .type "list", data := .seq its.toArray n } = { cls := .type "list", data := .seq (its.set j u).toArray n } := by
  simp [Obj.mapSeq]
theorem Inv.lst {pins : List (Addr × Obj)} {σ : St} {H : Hp} {s : Shared} {p : Addr} {xs : List V} (I : Inv X pins σ H s) (h : H p = some (.lst xs)) :
    ∃ (its : List Value) (n : Nat), Vals xs its ∧ s.heap.get? p = some { cls := .type "list", data := .seq its.toArray n } ∧ xs.length ≤ sizeLine := by
  obtain ⟨z, its, n, r, e⟩ := I.hok p _ h
  exact ⟨its, n, r, e, z⟩
/-- the list at p is written by an update of its object -/
theorem Inv.lstUpd {pins : List (Addr × Obj)} {σ : St} {H : Hp} {s : Shared} {p : Addr} {xs ys : List V} {its its' : List Value} {n n' : Nat} {f : Obj → Obj} (I : Inv X pins σ H s) (h : H p = some (.lst xs))
    (ho : s.heap.get? p = some { cls := .type "list", data := .seq its.toArray n }) (hf : f { cls := .type "list", data := .seq its.toArray n } = { cls := .type "list", data := .seq its'.toArray n' }) (r : Vals ys its') (hz : ys.length ≤ sizeLine) (t : Nat) :
    Inv X pins σ (upd H p (.lst ys)) { s with heap := s.heap.update p f, toks := t } := by
  have e : (s.heap.update p f).get? p = some { cls := .type "list", data := .seq its'.toArray n' } := by
    rw [Heap.get?_update_self f ho (by rw [hf] <;> rfl), hf]
  refine I.write (x := p) (e := p) (by rw [h]; trivial) (.inl rfl) (fun b u hb q => (Heap.get?_update_other _ _ (Ne.symm hb)).trans q) ⟨_, e⟩ ?_
  exact ⟨hz, its', n', r, e⟩
def rSetL : V → V → V → Hp → (Hp → Prop) → Prop := fun o i v H Q => ∃ p xs k j, o = .ref p ∧ i = .int k ∧ H p = some (.lst xs) ∧ ixN xs.length k = some j ∧ Q (upd H p (.lst (xs.set j v)))
theorem set_list : PSet X rSetL := by
  intro pins s σ H o i v ov iv u Q I ro ri rv h
  obtain ⟨p, xs, k, j, rfl, rfl, hp, hj, q⟩ := h
  cases ro
  obtain ⟨t, rfl⟩ := ri
  obtain ⟨its, n, r, ho, hz⟩ := I.lst hp
  obtain ⟨h1, h2, h3, h4⟩ := ixN_seq hj
  have hl := r.length
  have hn := line63
  have I' : Inv X pins σ (upd H p (.lst (xs.set j v))) { s with heap := s.heap.update p (Obj.mapSeq (·.setIfInBounds j u)) } :=
    I.lstUpd hp ho (mapSeq_set its n j u) (r.set rv j) (by rw [List.length_set]; exact hz) s.toks
  by_cases h0 : 0 ≤ k
  · have hk : k.toNat = j := by
      rw [seqIndex_of h0 h4] at h1
      exact Option.some.inj h1
    exact PySem.W.ki_setAt ho h0 (by omega) (by rw [List.size_toArray, ← hl]; exact h4) (by rw [hk]; exact ⟨_, I', q⟩)
  · have hk : (k + (its.toArray.size : Int)).toNat = j := by
      rw [seqIndex_neg (by omega) h3] at h1
      rw [List.size_toArray, ← hl]
      exact Option.some.inj h1
    exact PySem.W.ki_setBack ho (by omega) (by rw [List.size_toArray, ← hl]; exact h3) (by omega) (by rw [hk]; exact ⟨_, I', q⟩)
theorem slice_bounds (lo hi : Option Int) (n : Nat) : (sliceBounds lo hi none n).1 = ((HT.sIx n 0 lo : Nat) : Int) ∧ (sliceBounds lo hi none n).2.1 = ((HT.sIx n n hi : Nat) : Int) ∧ (sliceBounds lo hi none n).2.2 = 1 := by
  refine ⟨?_, ?_, rfl⟩
  · cases lo with
    | none => simp [sliceBounds, HT.sIx]
    | some i =>
      simp only [sliceBounds, HT.sIx, Option.getD_none, show (1 : Int) > 0 by decide, if_true]
      by_cases h : i < 0
      · simp only [h, if_true] <;> omega
      · simp only [h, if_false] <;> omega
  · cases hi with
    | none => simp [sliceBounds, HT.sIx]
    | some i =>
      simp only [sliceBounds, HT.sIx, Option.getD_none, show (1 : Int) > 0 by decide, if_true]
      by_cases h : i < 0
      · simp only [h, if_true] <;> omega
      · simp only [h, if_false] <;> omega
theorem slicePick_cut (its : List Value) (lo hi : Option Int) : slicePick its.toArray lo hi none = ((its.drop (HT.sIx its.length 0 lo)).take (HT.sIx its.length its.length hi - HT.sIx its.length 0 lo)).toArray := by
  obtain ⟨h1, h2, h3⟩ := slice_bounds lo hi its.toArray.size
  unfold slicePick
  rw [h1, h2, h3]
  simp only [sliceRange_one, pick_run, List.size_toArray] <;> rfl
/-- xs[lo:hi] of a list: a new list -/
def rSlL (K : PySem.W.Frag) : V → Option Int → Option Int → Hp → VK → Prop := fun x lo hi H Q => ∃ a xs, x = .ref a ∧ SqL K H a xs ∧ ∀ p, H p = none → Q (.ref p) (upd H p (.lst (cutV xs lo hi)))
theorem sl_list : SlR X (rSlL X.K) := by
  intro pins s σ H x v vl vu lo hi sl Q I rx hs pl pu h
  obtain ⟨a, xs, rfl, hx, q⟩ := h
  cases rx
  obtain ⟨its, r, ht, hz⟩ := I.list hx
  have hlen := r.length
  refine ⟨"list", _, slot_list_getitem.lookup, ht.isList.typeIs, ?_⟩
  refine wpAny_getItem_list_slice ht.isList hs pl pu .none (by simp) ?_ (by rw [List.size_toArray] <;> omega)
  rw [slicePick_cut, ← hlen]
  refine ⟨.ref s.heap.objs.size, _, I.laid (t' := s.toks) (o := .lst (cutV xs lo hi)) (fun b ob q => Heap.get?_push_of_some _ q) (Nat.le_refl _) ?_, rfl, q _ (I.hok.fresh (Nat.le_refl _))⟩
  exact ⟨Nat.le_trans (cutV_length xs lo hi) hz, _, 0, (r.drop (HT.sIx xs.length 0 lo)).take (HT.sIx xs.length xs.length hi - HT.sIx xs.length 0 lo), Heap.get?_push_size _ rfl⟩
def flatV : V → Bool
  | .non => true
  | .bl _ => true
  | .int _ => true
  | .str _ => true
  | _ => false
/-- == of flat values -/
def eqV : V → V → Bool
  | .non, .non => true
  | .bl a, .bl b => a == b
  | .bl a, .int b => (if a then 1 else 0) == b
  | .int a, .bl b => a == (if b then 1 else 0)
  | .int a, .int b => a == b
  | .str a, .str b => a == b
  | _, _ => false
theorem eqAt_V {A : Around} {s : Shared} {y x : V} {u v : Value} (ry : RelV y u) (rx : RelV x v) (fy : flatV y = true) (fx : flatV x = true) : SeqAt.EqAt A s u v (eqV y x) := by
  cases y with
  | non =>
    cases ry
    cases x with
    | non => cases rx; exact SeqAt.EqAt.same _
    | bl b => cases rx; exact SeqAt.EqAt.none_bool b
    | int b => obtain ⟨t, rfl⟩ := rx; exact SeqAt.EqAt.none_int b t
    | str b => obtain ⟨t, rfl⟩ := rx; exact SeqAt.EqAt.none_str b t
    | _ => exact absurd (show false = true from fx) Bool.false_ne_true
  | bl a =>
    cases ry
    cases x with
    | non => cases rx; exact SeqAt.EqAt.bool_none a
    | bl b => cases rx; exact SeqAt.EqAt.bool_bool a b
    | int b => obtain ⟨t, rfl⟩ := rx; exact SeqAt.EqAt.bool_int a b t
    | str b => obtain ⟨t, rfl⟩ := rx; exact SeqAt.EqAt.bool_str a b t
    | _ => exact absurd (show false = true from fx) Bool.false_ne_true
  | int a =>
    obtain ⟨t', rfl⟩ := ry
    cases x with
    | non => cases rx; exact SeqAt.EqAt.int_none a t'
    | bl b => cases rx; exact SeqAt.EqAt.int_bool a t' b
    | int b => obtain ⟨t, rfl⟩ := rx; exact SeqAt.EqAt.int_int a t' b t
    | str b => obtain ⟨t, rfl⟩ := rx; exact SeqAt.EqAt.int_str a t' b t
    | _ => exact absurd (show false = true from fx) Bool.false_ne_true
  | str a =>
    obtain ⟨t', rfl⟩ := ry
    cases x with
    | non => cases rx; exact SeqAt.EqAt.str_none a t'
    | bl b => cases rx; exact SeqAt.EqAt.str_bool a t' b
    | int b => obtain ⟨t, rfl⟩ := rx; exact SeqAt.EqAt.str_int a t' b t
    | str b => obtain ⟨t, rfl⟩ := rx; exact SeqAt.EqAt.str_str a t' b t
    | _ => exact absurd (show false = true from fx) Bool.false_ne_true
  | _ => exact absurd (show false = true from fy) Bool.false_ne_true
/-- the items' answers, read off the values (a value's own answer does not lean on its token) -/
def eqU (x : V) (u : Value) : Bool := match u with
  | .none => eqV .non x
  | .bool b => eqV (.bl b) x
  | .int i _ => eqV (.int i) x
  | .str z _ => eqV (.str z) x
  | _ => false
theorem eqU_of {x y : V} {u : Value} (r : RelV y u) (f : flatV y = true) : eqU x u = eqV y x := by
  cases y with
  | non => cases r; rfl
  | bl b => cases r; rfl
  | int i => obtain ⟨t, rfl⟩ := r; rfl
  | str z => obtain ⟨t, rfl⟩ := r; rfl
  | _ => exact absurd (show false = true from f) Bool.false_ne_true
theorem any_eqU {x : V} : ∀ {xs : List V} {us : List Value}, Vals xs us → xs.all flatV = true → us.any (eqU x) = xs.any fun y => eqV y x
  | _, _, .nil, _ => rfl
  | y :: xs, u :: us, .cons r t, f => by
    rw [List.all_cons, Bool.and_eq_true] at f
    rw [List.any_cons, List.any_cons, eqU_of r f.1, any_eqU t f.2]
theorem mem_eqAt {A : Around} {s : Shared} {x : V} {v : Value} (rx : RelV x v) (fx : flatV x = true) : ∀ {xs : List V} {us : List Value}, Vals xs us → xs.all flatV = true → ∀ u ∈ us, SeqAt.EqAt A s u v (eqU x u)
  | _, _, .nil, _ => fun u hu => by cases hu
  | y :: xs, u :: us, .cons r t, f => fun u' hu => by
    rw [List.all_cons, Bool.and_eq_true] at f
    rcases List.mem_cons.mp hu with rfl | hu
    · rw [eqU_of r f.1]; exact eqAt_V r rx f.1 fx
    · exact mem_eqAt rx fx t f.2 u' hu
def inV (x : V) (xs : List V) : Bool := xs.any fun y => eqV y x
/-- x in a list or tuple of flat items -/
def rIn (K : PySem.W.Frag) (neg : Bool) : R2 := fun x y H Q => ∃ p xs, y = .ref p ∧ (SqL K H p xs ∨ SqT K H p xs) ∧ flatV x = true ∧ xs.all flatV = true ∧ Q (.bl (if neg then !inV x xs else inV x xs)) H
theorem op_in_seq : OpR X (compareOp .In) (rIn X.K false) := by
  intro pins s σ H x y v u Q I rx ry h
  obtain ⟨p, xs, rfl, hq, fx, fs, q⟩ := h
  cases ry
  rcases hq with hq | hq
  · obtain ⟨its, r, pl, hz⟩ := I.list hq
    refine SeqAt.in_listAt (eqU x) pl.isList (fun w hw => mem_eqAt rx fx r fs w (by simpa using hw)) ⟨.bl _, H, I, rfl, ?_⟩
    rw [show its.toArray.any (eqU x) = its.any (eqU x) by simp, any_eqU r fs]
    exact q
  · obtain ⟨its, r, pl, hz⟩ := I.tuple hq
    refine SeqAt.in_tupleAt (eqU x) pl (fun w hw => mem_eqAt rx fx r fs w (by simpa using hw)) ⟨.bl _, H, I, rfl, ?_⟩
    rw [show its.toArray.any (eqU x) = its.any (eqU x) by simp, any_eqU r fs]
    exact q
theorem call_len_seq : CallR X (.builtin "len") (fun xs H Q => ∃ p ys, xs = [.ref p] ∧ (SqL X.K H p ys ∨ SqT X.K H p ys) ∧ Q (.int ys.length) H) := by
  intro pins s σ H xs us Q I r h
  obtain ⟨p, ys, rfl, hq, q⟩ := h
  obtain ⟨u, rfl, rx⟩ := vals1 r
  cases rx
  have hn := line63
  rcases hq with hq | hq
  · obtain ⟨its, r', pl, hz⟩ := I.list hq
    have hlen := r'.length
    exact Calls.call_len_list pl.isList (by simp only [List.size_toArray] <;> omega) ⟨.int ys.length, H, I.tok _, ⟨s.toks + 1, by rw [List.size_toArray, hlen]⟩, q⟩
  · obtain ⟨its, r', pl, hz⟩ := I.tuple hq
    have hlen := r'.length
    exact len_tuple pl (by simp only [List.size_toArray] <;> omega) ⟨.int ys.length, H, I.tok _, ⟨s.toks + 1, by rw [List.size_toArray, hlen]⟩, q⟩
theorem CallR.or {f : Value} {r r' : List V → Hp → VK → Prop} (h : CallR X f r) (h' : CallR X f r') : CallR X f (fun xs H Q => r xs H Q ∨ r' xs H Q) := by
  intro pins s σ H xs us Q I rs q
  rcases q with q | q
  · exact h s σ H xs us Q I rs q
  · exact h' s σ H xs us Q I rs q
theorem call_list_of : CallR X (.type "list") (fun xs H Q => ∃ p ys, xs = [.ref p] ∧ (SqL X.K H p ys ∨ SqT X.K H p ys) ∧ ∀ l, H l = none → Q (.ref l) (upd H l (.lst ys))) := by
  intro pins s σ H xs us Q I r h
  obtain ⟨p, ys, rfl, hq, q⟩ := h
  obtain ⟨u, rfl, rx⟩ := vals1 r
  cases rx
  have fin : ∀ (its : List Value), Vals ys its → ys.length ≤ sizeLine → ∀ (h' : Heap) (c' : Nat), (∀ b o', s.heap.get? b = some o' → h'.get? b = some o') →
      h'.get? s.heap.objs.size = some { cls := .type "list", dict := none, data := .seq its.toArray c', slots := #[] } → EP X pins σ Q (.ref s.heap.objs.size) { s with heap := h' } := fun its r' hz h' c' kp e =>
    ⟨.ref s.heap.objs.size, _, I.laid (t' := s.toks) kp (Nat.le_refl _) (show ObjOk X.prog X.w _ h' _ (.lst ys) from ⟨hz, its, c', r', e⟩), rfl, q _ (I.hok.fresh (Nat.le_refl _))⟩
  rcases hq with hq | hq
  · obtain ⟨its, r', pl, hz⟩ := I.list hq
    have hlen := r'.length
    obtain ⟨o, ho, hc, n, hd⟩ := pl.isList
    exact call_list_seq p (.inl rfl) ho hc hd (fun h' c' kp e => fin its r' hz h' c' kp e) (by simp only [List.size_toArray] <;> omega)
  · obtain ⟨its, r', pl, hz⟩ := I.tuple hq
    have hlen := r'.length
    obtain ⟨o, ho, hc, n, hd⟩ := pl
    exact call_list_seq p (.inr rfl) ho hc hd (fun h' c' kp e => fin its r' hz h' c' kp e) (by simp only [List.size_toArray] <;> omega)
theorem call_tuple_of : CallR X (.type "tuple") (fun xs H Q => ∃ p ys, xs = [.ref p] ∧ ((SqL X.K H p ys ∧ ∀ l, H l = none → Q (.ref l) (upd H l (.tup ys))) ∨ (SqT X.K H p ys ∧ Q (.ref p) H))) := by
  intro pins s σ H xs us Q I r h
  obtain ⟨p, ys, rfl, h⟩ := h
  obtain ⟨u, rfl, rx⟩ := vals1 r
  cases rx
  rcases h with ⟨hq, q⟩ | ⟨hq, q⟩
  · obtain ⟨its, r', pl, hz⟩ := I.list hq
    have hlen := r'.length
    refine call_tuple_list pl.isList (fun h' kp => ?_) (by simp only [List.size_toArray] <;> omega)
    have I1 : Inv X pins σ H { s with heap := h' } := I.kept (t' := s.toks) kp
    have I2 : Inv X pins σ (upd H h'.objs.size (.tup ys)) { s with heap := h'.push { cls := .type "tuple", data := .seq its.toArray } } :=
      I1.laid (t' := s.toks) (fun b o e => Heap.get?_push_of_some _ e) (Nat.le_refl _) (show ObjOk X.prog X.w _ _ _ (.tup ys) from ⟨hz, its, r', IsTupN.new _ _⟩)
    exact ⟨.ref h'.objs.size, _, I2, rfl, q _ (I1.hok.fresh (Nat.le_refl _))⟩
  · obtain ⟨its, r', pl, hz⟩ := I.tuple hq
    exact call_tuple_same pl ⟨.ref p, H, I, rfl, q⟩
/-- the value is of that builtin type -/
def tyV (K : PySem.W.Frag) (T : String) (x : V) (H : Hp) : Prop := match x with
  | .str _ => T = "str"
  | .int _ => T = "int"
  | .ref p => (T = "list" ∧ ∃ xs, SqL K H p xs) ∨ (T = "tuple" ∧ ((∃ o, K.lookup p = some o ∧ o.cls = .type "tuple" ∧ o.dict = none) ∨ ∃ xs, H p = some (.tup xs))) ∨
      (T = "dict" ∧ ((∃ kvs, H p = some (.dK kvs)) ∨ ∃ kvs, H p = some (.dT kvs))) ∨ (T = "set" ∧ ∃ S n, H p = some (.set S n))
  | _ => False
theorem tyV_is {pins : List (Addr × Obj)} {σ : St} {H : Hp} {s : Shared} {T : String} {x : V} {v : Value} (I : Inv X pins σ H s) (r : RelV x v) (ty : tyV X.K T x H) :
    s.TypeIs v T ∧ ∀ a, v = .ref a → ∃ ob, s.heap.get? a = some ob ∧ ob.dict = none := by
  cases x with
  | str z =>
    obtain ⟨t, rfl⟩ := r
    cases (show T = "str" from ty)
    exact ⟨typeIs_str s z t, fun _ e => nomatch e⟩
  | int i =>
    obtain ⟨t, rfl⟩ := r
    cases (show T = "int" from ty)
    exact ⟨typeIs_int s i t, fun _ e => nomatch e⟩
  | ref p =>
    cases r
    rcases ty with ⟨rfl, xs, hq⟩ | ⟨rfl, ⟨o, hk, hc, hd⟩ | ⟨xs, hx⟩⟩ | ⟨rfl, hk⟩ | ⟨rfl, S, n, hk⟩
    · obtain ⟨its, _, pl, _⟩ := I.list hq
      refine ⟨pl.isList.typeIs, fun a e => ?_⟩
      cases e
      obtain ⟨o, n, e, c, hd, _⟩ := pl
      exact ⟨o, e, hd⟩
    · refine ⟨⟨o, I.kIn p o hk, hc⟩, fun a e => ?_⟩
      cases e
      exact ⟨o, I.kIn _ o hk, hd⟩
    · obtain ⟨_, _, _, o, h1, h2, _, h3⟩ := I.hok p _ hx
      refine ⟨⟨o, h1, h2⟩, fun a e => ?_⟩
      cases e
      exact ⟨o, h1, h3⟩
    · have z : ∃ o, s.heap.get? p = some o ∧ o.ExactDict := by
        rcases hk with ⟨kvs, hk⟩ | ⟨kvs, hk⟩
        · obtain ⟨_, _, _, _, o, _, _, e, ex, _⟩ := I.hok p _ hk
          exact ⟨o, e, ex⟩
        · obtain ⟨_, _, _, _, o, _, _, e, ex, _⟩ := I.hok p _ hk
          exact ⟨o, e, ex⟩
      obtain ⟨o, e, ex⟩ := z
      refine ⟨⟨o, e, ex.1⟩, fun a e2 => ?_⟩
      cases e2
      exact ⟨o, e, ex.2.1⟩
    · obtain ⟨o, _, _, _, e, ex, _⟩ := I.hok p _ hk
      refine ⟨⟨o, e, ex.1⟩, fun a e2 => ?_⟩
      cases e2
      exact ⟨o, e, ex.2.1⟩
  | _ => exact False.elim ty
def tBM0 (K : PySem.W.Frag) (T : String) (r : V → List V → Hp → VK → Prop) (to : TE) : TE := fun σ H Q => to σ H fun x H1 => tyV K T x H1 ∧ r x [] H1 Q
def tBM (K : PySem.W.Frag) (T : String) (r : V → List V → Hp → VK → Prop) (to : TE) (t : TA) : TE := fun σ H Q => to σ H fun x H1 => tyV K T x H1 ∧ t σ H1 fun xs H2 => r x xs H2 Q
variable {o e : Expr} {es : List Expr} {to : TE} {t : TA} {name : Str} {apos cpos : Pos} {T id : String} {r : V → List V → Hp → VK → Prop}
theorem pe_bm0 (pa : PlainAttrs T) (slot : Slot T name id) (hty : typeOf (.builtin id) = pure (.type "method_descriptor")) (hm : MtR X id r) (ho : PE X o to)
    (hbase : attributeBase o name X.env (eval o X.env) = eval o X.env := by rfl) (hline : (apos.endLine == cpos.line) = true := by rfl) : PE X (.Call (.Attribute o name apos) [] [] cpos) (tBM0 X.K T r to) := by
  intro pins s σ H Q I h
  refine wpAny_Call_method0_late hbase hline (thn (ho s σ H _ I h) fun v s1 ⟨x, H1, I1, r1, ty, q1⟩ => ?_)
  obtain ⟨h1, h2⟩ := tyV_is I1 r1 ty
  exact ⟨T, id, pa, slot, hty, h1, h2, Calls.callWith_builtin rfl (PySem.evalArgs_none (hm s1 σ H1 x [] v [] Q I1 r1 .nil q1))⟩
theorem pe_bm (pa : PlainAttrs T) (slot : Slot T name id) (hty : typeOf (.builtin id) = pure (.type "method_descriptor")) (hm : MtR X id r) (ho : PE X o to) (ha : PA X (e :: es) t)
    (hbase : attributeBase o name X.env (eval o X.env) = eval o X.env := by rfl)
    (hfew : ((backTo cpos (starEach (e :: es) X.env)).all (fun x => !x.1) && (backToKw cpos (keywordEach [] X.env)).all (fun x => x.1.isSome)
      && decide ((e :: es).length + ([] : List Keyword).length + (if ([] : List Keyword).isEmpty then 0 else 1) < 30)) = true := by rfl)
    (hline : (apos.endLine == cpos.line) = true := by rfl) (hs : starEach (e :: es) X.env = (false, eval e X.env) :: starEach es X.env := by exact star_of rfl) (hplain : (backTo cpos (starEach es X.env)).any (·.1) = false := by exact plain_of rfl) :
    PE X (.Call (.Attribute o name apos) (e :: es) [] cpos) (tBM X.K T r to t) := by
  intro pins s σ H Q I h
  refine wpAny_Call_method_late hbase hfew hline rfl (thn (ho s σ H _ I h) fun v s1 ⟨x, H1, I1, r1, ty, q1⟩ => ?_)
  obtain ⟨h1, h2⟩ := tyV_is I1 r1 ty
  refine ⟨T, id, pa, slot, hty, h1, h2, ?_⟩
  have hA := ha cpos s1 σ H1 _ I1 q1
  rw [hs] at hA ⊢
  refine Calls.callWith_builtin (by show (false || (backTo cpos (starEach es X.env)).any (·.1)) = false; rw [hplain] <;> rfl) (Calls.evalArgs_plain ?_)
  exact thn hA fun us s2 ⟨vs, H2, I2, r2, q2⟩ => hm s2 σ H2 x vs v us Q I2 r1 r2 q2
end
end L2
namespace L2
open PySem PySem.Spec PyProof.Rows
def MtM (X : Cx) (id : String) (r : V → List V → Hp → VK → Prop) : Prop :=
  ∀ ⦃pins : List (Addr × Obj)⦄ (s : Shared) (σ : St) (H : Hp) (x : V) (xs : List V) (v : Value) (us : List Value) (Q : VK), Inv X pins σ H s → RelV x v → Vals xs us → r x xs H Q →
    wpAny (model X.prog X.w) X.A (call (.builtin id) (v :: us)) (EP X pins σ Q) X.xe s
theorem Vals.one : ∀ {x : V} {us : List Value}, Vals [x] us → ∃ u, us = [u] ∧ RelV x u
  | _, _, .cons r .nil => ⟨_, rfl, r⟩
theorem Vals.two : ∀ {x y : V} {us : List Value}, Vals [x, y] us → ∃ u v, us = [u, v] ∧ RelV x u ∧ RelV y v
  | _, _, _, .cons r (.cons q .nil) => ⟨_, _, rfl, r, q⟩
theorem Vals.zero : ∀ {us : List Value}, Vals [] us → us = []
  | _, .nil => rfl
theorem Vals.eraseIdx : ∀ {xs : List V} {us : List Value} (i : Nat), Vals xs us → Vals (xs.eraseIdx i) (us.eraseIdx i)
  | _, _, _, .nil => .nil
  | _, _, 0, .cons _ t => t
  | _, _, i + 1, .cons r t => .cons r (Vals.eraseIdx i t)
theorem Vals.reverse {xs : List V} {us : List Value} (h : Vals xs us) : Vals xs.reverse us.reverse := by
  induction h with
  | nil => exact .nil
  | cons r t ih => rw [List.reverse_cons, List.reverse_cons]; exact Vals.append ih (.cons r .nil)
theorem Vals.rep {xs : List V} {us : List Value} (h : Vals xs us) : ∀ k : Nat, Vals (List.replicate k xs).flatten (List.replicate k us).flatten
  | 0 => .nil
  | k + 1 => by
    rw [List.replicate_succ, List.replicate_succ, List.flatten_cons, List.flatten_cons]
    exact Vals.append h (Vals.rep h k)
theorem len_erase {α : Type} : ∀ (l : List α) (i : Nat), (l.eraseIdx i).length ≤ l.length
  | [], _ => Nat.le_refl _
  | _ :: _, 0 => Nat.le_succ _
  | _ :: r, i + 1 => Nat.succ_le_succ (len_erase r i)
theorem foldl_rep (its : List Value) : ∀ (k : Nat) (acc : List Value),
    List.foldl (fun x1 x2 => x1 ++ x2) acc.toArray (List.replicate k its.toArray) = (acc ++ (List.replicate k its).flatten).toArray
  | 0, acc => by simp
  | k + 1, acc => by
    have e : acc.toArray ++ its.toArray = (acc ++ its).toArray := by simp
    have e2 : (acc ++ its) ++ (List.replicate k its).flatten = acc ++ (List.replicate (k + 1) its).flatten := by
      rw [List.replicate_succ, List.flatten_cons, List.append_assoc]
    rw [← e2, ← foldl_rep its k (acc ++ its), ← e, List.replicate_succ, List.foldl_cons]
section
variable {X : Cx} {pins : List (Addr × Obj)} {σ : St} {H : Hp} {s : Shared} {l b : Addr} {xs ys zs : List V}
theorem Inv.lset {its its' : List Value} {n : Nat} {f : Array Value → Array Value} {t' : Nat} (I : Inv X pins σ H s) (hH : H l = some (.lst xs))
    (e : s.heap.get? l = some { cls := .type "list", data := .seq its.toArray n }) (hf : f its.toArray = its'.toArray) (hv : Vals ys its') (hz : ys.length ≤ sizeLine) :
    Inv X pins σ (upd H l (.lst ys)) { s with heap := s.heap.update l (Obj.mapSeq f), toks := t' } := by
  have q := PySem.IsL.update e f
  rw [hf] at q
  refine I.write (x := l) (e := l) (by rw [hH]; exact trivial) (.inl rfl) (fun b' u hb hu => (Heap.get?_update_other s.heap (Obj.mapSeq f) (Ne.symm hb)).trans hu) ⟨_, q⟩ ?_
  exact ⟨hz, its', _, hv, q⟩
theorem Inv.lnew {its : List Value} {t' : Nat} (I : Inv X pins σ H s) (hv : Vals ys its) (hz : ys.length ≤ sizeLine) :
    Inv X pins σ (upd H s.heap.objs.size (.lst ys)) { s with heap := s.heap.push { cls := .type "list", data := .seq its.toArray }, toks := t' } :=
  I.laid (fun _ _ q => Heap.get?_push_of_some _ q) (Nat.le_refl _) ⟨hz, its, 0, hv, Heap.get?_push_size _ rfl⟩
theorem Inv.fresh (I : Inv X pins σ H s) : H s.heap.objs.size = none := I.hok.fresh (Nat.le_refl _)
theorem Inv.lstM (I : Inv X pins σ H s) (hH : H l = some (.lst xs)) : xs.length ≤ sizeLine ∧ ∃ (its : List Value) (n : Nat), Vals xs its ∧ xs.length = its.length ∧ s.heap.get? l = some { cls := .type "list", data := .seq its.toArray n } := by
  obtain ⟨z, its, n, r, e⟩ := I.hok l _ hH
  exact ⟨z, its, n, r, r.length, e⟩
theorem notLongL {n : Nat} (h : n ≤ sizeLine) : Builtin.List.listTooLong n = false := by
  unfold Builtin.List.listTooLong
  exact decide_eq_false (by omega)
end
section
variable {X : Cx}
def rAppend : V → List V → Hp → VK → Prop := fun x vs H Q => ∃ l xs y, x = .ref l ∧ vs = [y] ∧ H l = some (.lst xs) ∧ xs.length < sizeLine ∧ Q .non (upd H l (.lst (xs ++ [y])))
theorem mt_append : MtM X "list.append" rAppend := by
  intro pins s σ H x vs v us Q I rx rv h
  obtain ⟨l, xs, y, rfl, rfl, hH, hz, q⟩ := h
  cases rx
  obtain ⟨u, rfl, ru⟩ := rv.one
  obtain ⟨z, its, n, r, hl, e⟩ := I.lstM hH
  refine call_meets F.slot_list_append ⟨_, e, rfl⟩ F.entry_list_append (F.args_list_append_2 _ _) (PySem.list_append l its.toArray n u (by rw [List.size_toArray]; omega)) ⟨e, ?_⟩
  refine ⟨.non, _, I.lset (its' := its ++ [u]) hH e (by simp) (r.append (.cons ru .nil)) ?_, rfl, q⟩
  rw [List.length_append, List.length_singleton]
  omega
def rPopAt : V → List V → Hp → VK → Prop := fun x vs H Q => ∃ l xs i k y, x = .ref l ∧ vs = [.int i] ∧ H l = some (.lst xs) ∧ -(2 ^ 63) ≤ i ∧ i < 2 ^ 63 ∧ seqIndex? i xs.length = some k ∧ xs[k]? = some y ∧ Q y (upd H l (.lst (xs.eraseIdx k)))
theorem mt_popAt : MtM X "list.pop" rPopAt := by
  intro pins s σ H x vs v us Q I rx rv h
  obtain ⟨l, xs, i, k, y, rfl, rfl, hH, h1, h2, hk, hy, q⟩ := h
  cases rx
  obtain ⟨u, rfl, ru⟩ := rv.one
  obtain ⟨t, rfl⟩ := ru
  obtain ⟨z, its, n, r, hl, e⟩ := I.lstM hH
  obtain ⟨w, hw, rw'⟩ := r.get hy
  refine call_meets F.slot_list_pop ⟨_, e, rfl⟩ F.entry_list_pop (F.args_list_pop_2 _ _)
    (MeetsSeq.list_pop_at l its.toArray n i t k w (fitsIndex_both h1 h2) (by rw [List.size_toArray, ← hl]; exact hk) (by rw [← Array.getElem?_toList]; exact hw) (by rw [List.size_toArray]; omega)) ⟨e, ?_⟩
  refine ⟨y, _, I.lset (its' := its.eraseIdx k) hH e ?_ (r.eraseIdx k) ?_, rw', q⟩
  · show its.toArray.eraseIdxIfInBounds k = (its.eraseIdx k).toArray
    rw [List.eraseIdxIfInBounds_toArray]
  · have := len_erase xs k
    omega
def rReverse : V → List V → Hp → VK → Prop := fun x vs H Q => ∃ l xs, x = .ref l ∧ vs = [] ∧ H l = some (.lst xs) ∧ Q .non (upd H l (.lst xs.reverse))
theorem mt_reverse : MtM X "list.reverse" rReverse := by
  intro pins s σ H x vs v us Q I rx rv h
  obtain ⟨l, xs, rfl, rfl, hH, q⟩ := h
  cases rx
  have hus := rv.zero
  subst hus
  obtain ⟨z, its, n, r, hl, e⟩ := I.lstM hH
  refine call_meets F.slot_list_reverse ⟨_, e, rfl⟩ F.entry_list_reverse (F.args_list_reverse_1 _) (AutoSeq1.list_reverse_list_0 l its.toArray n (by rw [List.size_toArray]; omega)) ⟨e, ?_⟩
  refine ⟨.non, _, I.lset (its' := its.reverse) hH e (by simp) r.reverse ?_, rfl, q⟩
  rw [List.length_reverse]
  omega
/-- a list times an int (a negative one is nothing) -/
def rRep : R2 := fun x y H Q => ∃ l k xs, x = .ref l ∧ y = .int k ∧ H l = some (.lst xs) ∧ -(2 ^ 63) ≤ k ∧ k < 2 ^ 63 ∧ xs.length * k.toNat ≤ sizeLine ∧
  ∀ p, H p = none → Q (.ref p) (upd H p (.lst (List.replicate k.toNat xs).flatten))
theorem len_rep {α : Type} (xs : List α) (k : Nat) : (List.replicate k xs).flatten.length = k * xs.length := by
  induction k with
  | zero => simp
  | succ k ih => rw [List.replicate_succ, List.flatten_cons, List.length_append, ih, Nat.succ_mul, Nat.add_comm]
theorem op_rep : OpR X (binaryOp .Mult) rRep := by
  intro pins s σ H x y v u Q I rx ry h
  obtain ⟨l, k, xs, rfl, rfl, hH, h1, h2, hz, q⟩ := h
  cases rx
  obtain ⟨t, rfl⟩ := ry
  obtain ⟨z, its, n, r, hl, e⟩ := I.lstM hH
  have hlen : its.toArray.size * k.toNat ≤ sizeLine := by rw [List.size_toArray, ← hl]; exact hz
  have hcap : ¬ its.toArray.size * k.toNat > (2 ^ 63 - 1) / 8 := by
    have : (sizeLine : Nat) ≤ (2 ^ 63 - 1) / 8 := by decide
    omega
  have hfit : ¬ (!Builtin.List.listFitsIndex k) = true := by
    rw [fitsIndex_both h1 h2]
    exact Bool.false_ne_true
  have hlong : ¬ Builtin.List.listTooLong (its.toArray.size * k.toNat) = true := by
    rw [notLongL hlen]
    exact Bool.false_ne_true
  have hnew : List.foldl (fun x1 x2 => x1 ++ x2) #[] (List.replicate (if its.toArray.isEmpty = true then 0 else k.toNat) its.toArray) = (List.replicate k.toNat its).flatten.toArray := by
    have f0 : ∀ m : Nat, List.foldl (fun x1 x2 => x1 ++ x2) #[] (List.replicate m its.toArray) = (List.replicate m its).flatten.toArray := fun m => by
      have := foldl_rep its m []
      rw [List.nil_append] at this
      exact this
    rw [f0]
    cases its with
    | nil => simp
    | cons a r' => rw [if_neg (by simp)]
  refine wpAny_binaryOp_repeat_ref (T := "list") (U := "int") (by decide) ⟨_, e, rfl⟩ (fun s' => typeIs_int s' k t) noFill_list_mul F.fills_int_mul F.slot_int_rmul repeat_list F.slot_int_index.lookup
    (call_meets F.slot_int_rmul (typeIs_int s k t) F.entry_int_rmul (F.args_int_rmul_2 _ _) (int___rmul___int_list k t l its.toArray n)
      ⟨e, rfl, ⟨_, e, rfl⟩, call_meets F.slot_list_mul ⟨_, e, rfl⟩ F.entry_list_mul (F.args_list_mul_2 _ _) (AutoListH.list___mul___list_int_3 l its.toArray n k t hfit hcap hlong) ⟨e, ?_⟩⟩)
  rw [hnew]
  exact ⟨.ref _, _, I.lnew (t' := s.toks) (r.rep k.toNat) (by rw [len_rep, Nat.mul_comm]; exact hz), rfl, q _ I.fresh⟩
end
section
variable {prog : Program} {w : World} {A : Around} {E : Value → Shared → Prop} {s : Shared}
end
section
variable {X : Cx}
end
end L2
namespace L2
open PySem PySem.Spec PyProof.Rows
theorem Vals.ints : ∀ {ns : List Int} {us : List Value}, Vals (ns.map V.int) us → IntsAre us ns
  | [], us, h => by
    rw [List.map_nil] at h
    cases h
    exact IntsAre.nil
  | n :: ns, us, h => by
    rw [List.map_cons] at h
    cases h with
    | cons r t =>
      obtain ⟨k, rfl⟩ := r
      exact IntsAre.cons n k (Vals.ints t)
theorem Vals.strs : ∀ {xs : List Str} {us : List Value}, Vals (xs.map V.str) us → StrsAre us xs
  | [], us, h => by
    rw [List.map_nil] at h
    cases h
    exact StrsAre.nil
  | x :: xs, us, h => by
    rw [List.map_cons] at h
    cases h with
    | cons r t =>
      obtain ⟨k, rfl⟩ := r
      exact StrsAre.cons x k (Vals.strs t)
theorem Vals.bls : ∀ {bs : List Bool} {us : List Value}, Vals (bs.map V.bl) us → us = bs.map Value.bool
  | [], us, h => by
    rw [List.map_nil] at h
    cases h
    rfl
  | b :: bs, us, h => by
    rw [List.map_cons] at h
    cases h with
    | cons r t =>
      cases r
      rw [Vals.bls t, List.map_cons]
theorem Vals.ref1 {a : Addr} {us : List Value} (r : Vals [V.ref a] us) : us = [Value.ref a] := by
  cases r with
  | cons r t =>
    cases t
    cases r
    rfl
section
variable {prog : Program} {w : World} {A : Around} {E : Value → Shared → Prop} {s : Shared} {l : Addr} {its : List Value} {ns : List Int} {Q : Value → Shared → Prop}
end
section
variable {X : Cx}
end
section
variable {X : Cx}
theorem flat_at {ys : List V} (f : ys.all flatV = true) {j : Nat} {z : V} (h : ys[j]? = some z) : flatV z = true := List.all_eq_true.mp f z (List.mem_of_getElem? h)
end
section
variable {X : Cx}
end
theorem iter_any {prog : Program} {w : World} {A : Around} {E : Value → Shared → Prop} {s : Shared} {l : Addr} {items : Array Value} {Q : Value → Shared → Prop} (hl : s.heap.IsList l items)
    (h : ∀ s₂ : Shared, s₂ = { s with heap := s.heap.push { cls := .type "list_iterator", data := .fields #[.ref l, .int 0 0] } } →
      (s₂.heap.IsListIter s.heap.objs.size l 0 ∧ s₂.heap.IsList l items) → l ≠ s.heap.objs.size → Q (.ref s.heap.objs.size) s₂) : wpAny (model prog w) A (pyIter (.ref l)) Q E s := by
  have hlt : l < s.heap.objs.size := by obtain ⟨_, e, _⟩ := hl; exact Heap.lt_size e
  exact wpAny_pyIter_list hl (h _ rfl ⟨⟨_, Heap.get?_push_size _ rfl, rfl, rfl⟩, hl.push _⟩ (Nat.ne_of_lt hlt))
theorem truth_bools {prog : Program} {w : World} {A : Around} {bs : List Bool} {its : List Value} (e : its = bs.map Value.bool) :
    TruthOf prog w A (fun i v => its.toArray[i]? = some v) (fun i => bs.getD i false) := fun i v s Q E hv hq => by
  have hv' : its[i]? = some v := by simpa using hv
  rw [e, List.getElem?_map] at hv'
  obtain ⟨b, hb, rfl⟩ := Option.map_eq_some_iff.mp hv'
  have hg : bs.getD i false = b := by rw [List.getD_eq_getElem?_getD, hb] <;> rfl
  have hq' : Q (bs.getD i false) s := hq
  rw [hg] at hq'
  exact wpAny_truthy_bool hq'
theorem all_range : ∀ bs : List Bool, (List.range bs.length).all (fun i => bs.getD i false) = bs.all id
  | [] => rfl
  | b :: bs => by
    rw [List.length_cons, List.range_succ_eq_map, List.all_cons, List.all_map, List.all_cons, ← all_range bs]
    all_goals rfl
section
variable {X : Cx}
def rAll (K : PySem.W.Frag) : List V → Hp → VK → Prop := fun vs H Q => ∃ (a : Addr) (bs : List Bool), vs = [V.ref a] ∧ SqL K H a (bs.map V.bl) ∧ Q (.bl (bs.all id)) H
theorem cr_all (hc : X.calm = true) : CallR X (.builtin "all") (rAll X.K) := by
  intro pins s σ H vs us Q I r h
  obtain ⟨a, bs, rfl, hs, q⟩ := h
  obtain ⟨its, rv, hl, _⟩ := I.list hs
  rw [Vals.ref1 r]
  have hb := rv.bls
  refine call_all_walk (iter_any hl.isList fun s₂ e2 st hne => ?_)
  subst e2
  refine ⟨_, _, _, _, _, _, _, rfl, Walks.list (A := X.A.in1) (I.ok.hd hc) _ a hne its.toArray, st, truth_bools hb, fun h' tk hk => ?_⟩
  refine ⟨.bl _, H, I.kept fun b o eo => hk b o (fun hmem => ?_) (Heap.get?_push_of_some _ eo), ?_, q⟩
  · rcases List.mem_cons.mp hmem with e1 | hmem
    · exact absurd (e1 ▸ Heap.lt_size eo) (Nat.lt_irrefl _)
    · cases hmem
  · show Value.bool _ = Value.bool _
    rw [← all_range, hb, List.size_toArray, List.length_map]
end
mutual
inductive Dp (K : PySem.W.Frag) (H : Hp) : V → PyData → Prop
  | non : Dp K H .non .none
  | bl (b : Bool) : Dp K H (.bl b) (.bool b)
  | int (i : Int) : Dp K H (.int i) (.int i)
  | str (x : Str) : Dp K H (.str x) (.str x)
  | lst {a : Addr} {xs : List V} {ds : List PyData} : SqL K H a xs → DpAll K H xs ds → Dp K H (.ref a) (.list ds)
  | tup {a : Addr} {xs : List V} {ds : List PyData} : SqT K H a xs → DpAll K H xs ds → Dp K H (.ref a) (.tuple ds)
inductive DpAll (K : PySem.W.Frag) (H : Hp) : List V → List PyData → Prop
  | nil : DpAll K H [] []
  | cons {v : V} {vs : List V} {d : PyData} {ds : List PyData} : Dp K H v d → DpAll K H vs ds → DpAll K H (v :: vs) (d :: ds)
end
section
variable {X : Cx} {pins : List (Addr × Obj)} {σ : St} {H : Hp} {s : Shared}
mutual
theorem Dp.reads (I : Inv X pins σ H s) : ∀ (d : PyData) (v : V) (u : Value), Dp X.K H v d → RelV v u → ∃ as, Reads s.heap u d as
  | .none, _, _, h, r => by
    cases h
    cases r
    exact ⟨_, Reads.none⟩
  | .bool b, _, _, h, r => by
    cases h
    cases r
    exact ⟨_, Reads.bool b⟩
  | .int i, _, _, h, r => by
    cases h
    obtain ⟨t, rfl⟩ := r
    exact ⟨_, Reads.int i t⟩
  | .str x, _, _, h, r => by
    cases h
    obtain ⟨t, rfl⟩ := r
    exact ⟨_, Reads.str x t⟩
  | .list ds, _, _, h, r => by
    cases h with
    | lst hs ha =>
      cases r
      obtain ⟨its, rv, ⟨o, n, ho, hc, _, hd⟩, _⟩ := I.list hs
      obtain ⟨as, hr⟩ := Dp.readsAll I ds _ its ha rv
      exact ⟨_, Reads.list ho hc hd hr⟩
  | .tuple ds, _, _, h, r => by
    cases h with
    | tup hs ha =>
      cases r
      obtain ⟨its, rv, ⟨o, ho, hc, n, hd⟩, _⟩ := I.tuple hs
      obtain ⟨as, hr⟩ := Dp.readsAll I ds _ its ha rv
      exact ⟨_, Reads.tuple ho hc hd hr⟩
  | .dict _, _, _, h, _ => by cases h
theorem Dp.readsAll (I : Inv X pins σ H s) : ∀ (ds : List PyData) (vs : List V) (us : List Value), DpAll X.K H vs ds → Vals vs us → ∃ as, ReadsAll s.heap us ds as
  | [], _, _, h, r => by
    cases h
    cases r
    exact ⟨_, ReadsAll.nil⟩
  | d :: ds, _, _, h, r => by
    cases h with
    | cons h1 h2 =>
      cases r with
      | cons r1 r2 =>
        obtain ⟨as, q1⟩ := Dp.reads I d _ _ h1 r1
        obtain ⟨bs, q2⟩ := Dp.readsAll I ds _ _ h2 r2
        exact ⟨_, ReadsAll.cons q1 q2⟩
end
end
section
variable {X : Cx}
def rEqD (K : PySem.W.Frag) : R2 := fun x y H Q => ∃ d e, Dp K H x d ∧ Dp K H y e ∧ SeqAt.shaped d = true ∧ SeqAt.shaped e = true ∧ Q (.bl (PyData.eqv d e)) H
def rNeD (K : PySem.W.Frag) : R2 := fun x y H Q => ∃ d e, Dp K H x d ∧ Dp K H y e ∧ SeqAt.shaped d = true ∧ SeqAt.shaped e = true ∧ Q (.bl (!PyData.eqv d e)) H
theorem op_eqD (hu : X.A.units + 64 < cLine) : OpR X (compareOp .Eq) (rEqD X.K) := by
  intro pins s σ H x y v u Q I rx ry h
  obtain ⟨d, e, hd, he, sd, se, q⟩ := h
  obtain ⟨as, r1⟩ := Dp.reads I d x v hd rx
  obtain ⟨bs, r2⟩ := Dp.reads I e y u he ry
  exact SeqAt.compareEq_shaped r1 r2 sd se hu ⟨.bl _, H, I, rfl, q⟩
theorem op_neD (hu : X.A.units + 64 < cLine) : OpR X (compareOp .NotEq) (rNeD X.K) := by
  intro pins s σ H x y v u Q I rx ry h
  obtain ⟨d, e, hd, he, sd, se, q⟩ := h
  obtain ⟨as, r1⟩ := Dp.reads I d x v hd rx
  obtain ⟨bs, r2⟩ := Dp.reads I e y u he ry
  exact SeqAt.compareNe_shaped r1 r2 sd se hu ⟨.bl _, H, I, rfl, q⟩
end
end L2
namespace L2
open PySem PySem.Spec PyProof.Rows
abbrev CellAt (h : Heap) (c : Addr) (v : Option Value) : Prop := h.IsCell c v
def relS (scope sc : Scope) : Scope :=
  { scope with names := scope.names.map fun (n, k) => if (k == .free && sc.kind == .function && sc.names.lookup n == some .cell) then (n, .cell) else (n, k) }
def cloFrom (cells : List (Str × Addr)) : List (Str × NameKind) → List (Str × Addr) → List (Str × Addr)
  | [], acc => acc
  | (n, k) :: r, acc => if k == .free then cloFrom cells r ((n, (cells.lookup n).getD 0) :: acc) else cloFrom cells r acc
theorem closure_loop (env : Env) (f : Str × NameKind → List (Str × Addr) → Sem (ForInStep (List (Str × Addr))))
    (hf : ∀ n k c, f (n, k) c = if k == .free then (do let a ← cellOf env n; pure (.yield ((n, a) :: c))) else pure (.yield c)) :
    ∀ (names : List (Str × NameKind)) (acc : List (Str × Addr)), (∀ y ∈ names, y.2 = .free → ∃ c, env.cells.lookup y.1 = some c) → forIn names acc f = pure (cloFrom env.cells names acc)
  | [], acc, _ => by rw [List.forIn_nil]; rfl
  | (n, k) :: r, acc, h => by
    rw [List.forIn_cons, hf]
    have ih := fun acc => closure_loop env f hf r acc fun y hy => h y (List.mem_cons_of_mem _ hy)
    unfold cloFrom
    by_cases hk : (k == NameKind.free) = true
    · rw [if_pos hk, if_pos hk]
      obtain ⟨c, hc⟩ := h (n, k) List.mem_cons_self (by simpa using hk)
      have e : cellOf env n = pure c := by unfold cellOf; rw [hc]
      rw [e]
      have e2 : (env.cells.lookup n).getD 0 = c := by rw [hc]; rfl
      rw [e2]
      exact ih _
    · rw [if_neg hk, if_neg hk]
      exact ih _
theorem closure_ok {scope : Scope} {env : Env} (h : ∀ y ∈ scope.names, y.2 = .free → ∃ c, env.cells.lookup y.1 = some c) : closureFor scope env = pure (cloFrom env.cells scope.names []) := by
  simp only [closureFor]
  rw [closure_loop env _ (fun n k c => rfl) scope.names [] h]
  rfl
theorem mem_lookup {α : Type} : ∀ {l : List (Str × α)} {n : Str} {c : α}, (n, c) ∈ l → ∃ c', l.lookup n = some c'
  | (k, v) :: r, n, c, h => by
    rw [List.lookup_cons]
    cases hb : n == k with
    | true => exact ⟨_, rfl⟩
    | false =>
      rcases List.mem_cons.mp h with e | h
      · cases e; simp at hb
      · exact mem_lookup h
theorem cloFrom_mem {cells : List (Str × Addr)} : ∀ {names : List (Str × NameKind)} {acc : List (Str × Addr)} {n : Str} {c : Addr}, (n, c) ∈ cloFrom cells names acc → (n, c) ∈ acc ∨ ((n, .free) ∈ names ∧ c = (cells.lookup n).getD 0)
  | [], _, _, _, h => .inl h
  | (m, k) :: r, acc, n, c, h => by
    unfold cloFrom at h
    split at h
    · rename_i hk
      have hk : k = .free := by simpa using hk
      rcases cloFrom_mem h with h | ⟨h1, h2⟩
      · rcases List.mem_cons.mp h with e | h
        · cases e; exact .inr ⟨hk ▸ List.mem_cons_self, rfl⟩
        · exact .inl h
      · exact .inr ⟨List.mem_cons_of_mem _ h1, h2⟩
    · rcases cloFrom_mem h with h | ⟨h1, h2⟩
      · exact .inl h
      · exact .inr ⟨List.mem_cons_of_mem _ h1, h2⟩
theorem cloFrom_acc {cells : List (Str × Addr)} : ∀ {names : List (Str × NameKind)} {acc : List (Str × Addr)} {p : Str × Addr}, p ∈ acc → p ∈ cloFrom cells names acc
  | [], _, _, h => h
  | (m, k) :: r, acc, p, h => by
    unfold cloFrom
    split
    · exact cloFrom_acc (List.mem_cons_of_mem _ h)
    · exact cloFrom_acc h
theorem cloFrom_has {cells : List (Str × Addr)} : ∀ {names : List (Str × NameKind)} {acc : List (Str × Addr)} {n : Str}, (n, .free) ∈ names → (n, (cells.lookup n).getD 0) ∈ cloFrom cells names acc
  | (m, k) :: r, acc, n, h => by
    unfold cloFrom
    rcases List.mem_cons.mp h with e | h
    · cases e
      exact cloFrom_acc List.mem_cons_self
    · split
      · exact cloFrom_has h
      · exact cloFrom_has h
theorem cells_mem : ∀ {names : List (Str × NameKind)} {h : Heap} {acc : List (Str × Addr)} {x : Str} {c : Addr}, (x, c) ∈ cellsFrom h.objs.size names acc →
    (x, c) ∈ acc ∨ ((x, .cell) ∈ names ∧ h.objs.size ≤ c ∧ CellAt (pushCells h names) c none)
  | [], _, _, _, _, h => .inl h
  | (n, k) :: r, h, acc, x, c, hm => by
    unfold cellsFrom at hm
    unfold pushCells
    split at hm
    · rename_i hk
      rw [if_pos hk]
      have hk : k = .cell := by simpa using hk
      rw [← Heap.size_push h { cls := .type "cell", data := .cell none }] at hm
      rcases cells_mem hm with hm | ⟨h1, h2, h3⟩
      · rcases List.mem_cons.mp hm with e | hm
        · cases e
          exact .inr ⟨hk ▸ List.mem_cons_self, Nat.le_refl _, _, pushCells_keeps r _ _ _ (Heap.get?_push_size _ rfl), rfl⟩
        · exact .inl hm
      · rw [Heap.size_push] at h2
        exact .inr ⟨List.mem_cons_of_mem _ h1, Nat.le_of_succ_le h2, h3⟩
    · rename_i hk
      rw [if_neg hk]
      rcases cells_mem hm with hm | ⟨h1, h2, h3⟩
      · exact .inl hm
      · exact .inr ⟨List.mem_cons_of_mem _ h1, h2, h3⟩
theorem cells_acc : ∀ {names : List (Str × NameKind)} {n : Nat} {acc : List (Str × Addr)} {p : Str × Addr}, p ∈ acc → p ∈ cellsFrom n names acc
  | [], _, _, _, h => h
  | (m, k) :: r, n, acc, p, h => by
    unfold cellsFrom
    split
    · exact cells_acc (List.mem_cons_of_mem _ h)
    · exact cells_acc h
theorem cells_has : ∀ {names : List (Str × NameKind)} {n : Nat} {acc : List (Str × Addr)} {x : Str}, (x, .cell) ∈ names → ∃ c, (x, c) ∈ cellsFrom n names acc
  | (m, k) :: r, n, acc, x, h => by
    unfold cellsFrom
    rcases List.mem_cons.mp h with e | h
    · cases e
      exact ⟨n, cells_acc List.mem_cons_self⟩
    · split
      · exact cells_has h
      · exact cells_has h
theorem cells_inj : ∀ {names : List (Str × NameKind)} {h : Heap} {acc : List (Str × Addr)} {x y : Str} {c : Addr}, (∀ p ∈ acc, p.2 < h.objs.size) → (∀ x y c, (x, c) ∈ acc → (y, c) ∈ acc → x = y) →
    (x, c) ∈ cellsFrom h.objs.size names acc → (y, c) ∈ cellsFrom h.objs.size names acc → x = y
  | [], _, _, _, _, _, _, hi, h1, h2 => hi _ _ _ h1 h2
  | (n, k) :: r, h, acc, x, y, c, hl, hi, h1, h2 => by
    unfold cellsFrom at h1 h2
    split at h1
    · rename_i hk
      rw [if_pos hk] at h2
      rw [← Heap.size_push h { cls := .type "cell", data := .cell none }] at h1 h2
      refine cells_inj (h := h.push _) (fun p hp => ?_) (fun x y c a b => ?_) h1 h2
      · rw [Heap.size_push]
        rcases List.mem_cons.mp hp with rfl | hp
        · exact Nat.lt_succ_self _
        · exact Nat.lt_succ_of_lt (hl p hp)
      · rcases List.mem_cons.mp a with e | a <;> rcases List.mem_cons.mp b with e' | b
        · cases e; cases e'; rfl
        · cases e; exact absurd (hl _ b) (Nat.lt_irrefl _)
        · cases e'; exact absurd (hl _ a) (Nat.lt_irrefl _)
        · exact hi _ _ _ a b
    · rename_i hk
      rw [if_neg hk] at h2
      exact cells_inj hl hi h1 h2
theorem newEnv_comp {M : Model} {A : Around} {E : Value → Shared → Prop} {s : Shared} {scope : Scope} {globals : Addr} {closure : List (Str × Addr)} {qual : Str} {func : Option Addr} {code : Value} {around : Env} {builtins : Addr} {Q : Env → Shared → Prop}
    (h : Q (newEnv scope s.heap.objs.size globals (cellsFrom (s.heap.objs.size + 1) scope.names closure) qual func code (some around) builtins)
      { s with heap := pushCells (s.heap.push { cls := .type "dict", data := .dict #[] }) scope.names }) :
    wpAny M A (newFunctionEnv scope globals closure [] qual func code (some around) builtins) Q E s := by
  simp only [newFunctionEnv, Option.isSome_some, if_true]
  refine wpAny_bind (wpAny_alloc ?_)
  refine wpAny_bind (wpAny_layCells _ (fun n k c => rfl) scope.names closure _ _ ?_)
  rw [show ({ s with heap := s.heap.push { cls := .type "dict", data := .dict #[] } } : Shared).heap.objs.size = s.heap.objs.size + 1 from Heap.size_push ..]
  rw [List.forIn_nil]
  exact wpAny_bind (wpAny_pure (wpAny_pure h))
/-- every name of the written scope, in the scope that runs -/
theorem lookup_relS {sc : Scope} : ∀ {names : List (Str × NameKind)} {x : Str} {k : NameKind},
    (names.map fun (n, k) => if (k == NameKind.free && sc.kind == .function && sc.names.lookup n == some .cell) then (n, NameKind.cell) else (n, k)).lookup x = some k →
    ∃ k', names.lookup x = some k' ∧ (k = k' ∨ (k' = .free ∧ k = .cell))
  | [], _, _, h => by simp at h
  | (n, k₀) :: r, x, k, h => by
    have ih := @lookup_relS sc r x k
    have h' : List.lookup x ((if (k₀ == NameKind.free && sc.kind == .function && sc.names.lookup n == some .cell) = true then (n, NameKind.cell) else (n, k₀)) :: (r.map _)) = some k := h
    cases hx : x == n with
    | true =>
      simp only [List.lookup_cons, hx]
      by_cases hc : (k₀ == NameKind.free && sc.kind == .function && sc.names.lookup n == some .cell) = true
      · rw [if_pos hc] at h'
        simp only [List.lookup_cons, hx] at h'
        cases h'
        simp only [Bool.and_eq_true, beq_iff_eq] at hc
        exact ⟨k₀, rfl, .inr ⟨hc.1.1, rfl⟩⟩
      · rw [if_neg hc] at h'
        simp only [List.lookup_cons, hx] at h'
        cases h'
        exact ⟨_, rfl, .inl rfl⟩
    | false =>
      simp only [List.lookup_cons, hx]
      by_cases hc : (k₀ == NameKind.free && sc.kind == .function && sc.names.lookup n == some .cell) = true
      · rw [if_pos hc] at h'
        simp only [List.lookup_cons, hx] at h'
        exact ih h'
      · rw [if_neg hc] at h'
        simp only [List.lookup_cons, hx] at h'
        exact ih h'
/-- the names of a comprehension's block: its own (with their places in N), or captured -/
structure BlkOk (N : List Str) (sc scope : Scope) (own : List (Str × Nat)) : Prop where
  kind : scope.kind = .function
  uniq : ∀ y ∈ scope.names, scope.names.lookup y.1 = some y.2
  ix : ∀ p ∈ own, N[p.2]? = some p.1
  free : ∀ y ∈ scope.names, y.2 = .free → sc.names.lookup y.1 = some .cell ∨ sc.names.lookup y.1 = some .free
  own : ∀ y ∈ scope.names, y.2 = .local ∨ y.2 = .cell → y.1 ∈ own.map (·.1) ∨ y.1 ∉ N
/-- the slots of the block's own names forgotten -/
def wipe (σ : St) : List Nat → St
  | [] => σ
  | v :: vs => (wipe σ vs).set v none
theorem wipe_length (σ : St) : ∀ vs : List Nat, (wipe σ vs).length = σ.length
  | [] => rfl
  | v :: vs => by unfold wipe; rw [List.length_set, wipe_length σ vs]
theorem wipe_some {σ : St} {i : Nat} {x : V} : ∀ {vs : List Nat}, (wipe σ vs)[i]? = some (some x) → σ[i]? = some (some x) ∧ i ∉ vs
  | [], h => ⟨h, by simp⟩
  | v :: vs, h => by
    unfold wipe at h
    by_cases hi : v = i
    · subst hi
      by_cases hv : v < (wipe σ vs).length
      · rw [List.getElem?_set_self hv] at h; cases h
      · rw [List.getElem?_eq_none (by simpa using hv)] at h; cases h
    · rw [List.getElem?_set_ne hi] at h
      obtain ⟨h1, h2⟩ := wipe_some h
      exact ⟨h1, by simp only [List.mem_cons, not_or]; exact ⟨fun e => hi e.symm, h2⟩⟩
/-- the context of a block that starts at s, its iterator's objects at fp -/
abbrev Cx.blk (X : Cx) (s : Shared) (H : Hp) (scope : Scope) (cenv : Env) (fp : List Addr) : Cx := { X with s_0 := s, H_0 := H, env := cenv, outer := X.stack, ex := fp, fn := fun x => scope.names.lookup x == some .cell, pn := [], xe := fun _ _ => False }
section
variable {X : Cx} {pins : List (Addr × Obj)} {σ : St} {H : Hp} {s : Shared}
theorem block_start {scope : Scope} {own : List (Str × Nat)} {fp : List Addr} (I : Inv X pins σ H s) (ok : BlkOk X.N X.env.scope scope own) (hN : X.N.Nodup) (hfp : ∀ b ∈ fp, FpOk X pins H b ∧ b < s.heap.objs.size) :
    Inv (X.blk s H scope (compEnvC scope (cellsFrom (s.heap.objs.size + 1) scope.names (cloFrom X.env.cells scope.names [])) s.heap.objs.size X.env) fp) [] (wipe σ (own.map (·.2))) H { s with heap := pushCells (s.heap.push { cls := .type "dict", data := .dict #[] }) scope.names } := by
  have hfree : ∀ y ∈ scope.names, y.2 = .free → ∃ c, X.env.cells.lookup y.1 = some c := fun y hy e => by
    rcases ok.free y hy e with k | k
    · exact I.ok.has _ (.inl k)
    · exact I.ok.has _ (.inr k)
  generalize hcenv : compEnvC scope (cellsFrom (s.heap.objs.size + 1) scope.names (cloFrom X.env.cells scope.names [])) s.heap.objs.size X.env = cenv
  have kp : ∀ b o, s.heap.get? b = some o → (pushCells (s.heap.push { cls := .type "dict", data := .dict #[] }) scope.names).get? b = some o := fun b o e => pushCells_keeps _ _ _ _ (Heap.get?_push_of_some _ e)
  have hL : cenv.locals = s.heap.objs.size := by rw [← hcenv]; rfl
  have hcl : cenv.cells = cellsFrom (s.heap.objs.size + 1) scope.names (cloFrom X.env.cells scope.names []) := by rw [← hcenv]; rfl
  have hsc : cenv.scope = relS scope X.env.scope := by rw [← hcenv]; rfl
  rw [← Heap.size_push s.heap { cls := .type "dict", data := .dict #[] }] at hcl
  have cm : ∀ {y c}, (y, c) ∈ cloFrom X.env.cells scope.names [] → X.env.cells.lookup y = some c ∧ c < s.heap.objs.size := fun {y c} hm => by
    rcases cloFrom_mem hm with hm | ⟨h1, rfl⟩
    · cases hm
    · obtain ⟨c, hc⟩ := hfree _ h1 rfl
      rw [hc]
      obtain ⟨w, z⟩ := I.cell _ _ hc
      exact ⟨rfl, z.lt⟩
  have mem : ∀ {y c}, cenv.cells.lookup y = some c → (X.env.cells.lookup y = some c ∧ c < s.heap.objs.size) ∨ (s.heap.objs.size + 1 ≤ c ∧ CellAt (pushCells (s.heap.push { cls := .type "dict", data := .dict #[] }) scope.names) c none) := fun {y c} e => by
    rw [hcl] at e
    rcases cells_mem (PySem.mem_of_lookup e) with hm | ⟨_, h2, h3⟩
    · exact .inl (cm hm)
    · rw [Heap.size_push] at h2; exact .inr ⟨h2, h3⟩
  have look : ∀ {y}, scope.names.lookup y = some .free → ∃ c, cenv.cells.lookup y = some c ∧ X.env.cells.lookup y = some c := fun {y} hl => by
    have hy : (y, NameKind.free) ∈ scope.names := PySem.mem_of_lookup hl
    obtain ⟨c', e'⟩ := mem_lookup (cells_acc (names := scope.names) (n := (s.heap.push { cls := .type "dict", data := .dict #[] }).objs.size) (cloFrom_has (cells := X.env.cells) (acc := []) hy))
    rw [← hcl] at e'
    refine ⟨c', e', ?_⟩
    rw [hcl] at e'
    rcases cells_mem (PySem.mem_of_lookup e') with hm | ⟨h1, _, _⟩
    · exact (cm hm).1
    · have := ok.uniq _ h1
      rw [hl] at this; cases this
  have okB : (X.blk s H scope cenv fp).Ok := by
    refine ⟨I.ok.mod, by show cenv.scope.kind = _; rw [hsc]; exact ok.kind, by show cenv.globals = _; rw [← hcenv]; exact I.ok.glob, by show cenv.builtins = _; rw [← hcenv]; exact I.ok.blt, by show s.heap.objs.size ≤ cenv.locals; rw [hL]; exact Nat.le_refl _,
      fun y z c e1 e2 => ?_, fun y hy => ?_, fun y c z e => ?_, I.ok.hd, I.ok.frames, .inl rfl, fun b hb => ⟨?_, fun y c e z => ?_⟩, I.bs, Nat.le_trans I.ok.bsz I.sz, fun b o e hb => ?_, fun b hb z => ?_, I.stack, I.stkFree⟩
    · have e1 : cenv.cells.lookup y = some c := e1
      have e2 : cenv.cells.lookup z = some c := e2
      rw [hcl] at e1 e2
      refine cells_inj (fun p hp => ?_) (fun y z c a b => I.ok.inj y z c (cm a).1 (cm b).1) (PySem.mem_of_lookup e1) (PySem.mem_of_lookup e2)
      rw [Heap.size_push]
      exact Nat.lt_succ_of_lt (cm (y := p.1) (c := p.2) hp).2
    · show ∃ c, cenv.cells.lookup y = some c
      have key : ∀ k, cenv.kindOf y = some k → (k = .cell ∨ k = .free) → ∃ c, cenv.cells.lookup y = some c := fun k hk hk' => by
        unfold Env.kindOf at hk
        rw [hsc] at hk
        obtain ⟨k', e, r⟩ := lookup_relS hk
        have : k' = .cell ∨ k' = .free := by
          rcases r with rfl | ⟨rfl, _⟩
          · exact hk'
          · exact .inr rfl
        rcases this with rfl | rfl
        · obtain ⟨c, hm⟩ := cells_has (n := (s.heap.push { cls := .type "dict", data := .dict #[] }).objs.size) (acc := cloFrom X.env.cells scope.names []) (PySem.mem_of_lookup e)
          obtain ⟨c', e'⟩ := mem_lookup hm
          exact ⟨c', by rw [hcl]; exact e'⟩
        · obtain ⟨c, h1, _⟩ := look e
          exact ⟨c, h1⟩
      rcases hy with hy | hy
      · exact key _ hy (.inl rfl)
      · exact key _ hy (.inr rfl)
    · have z : (scope.names.lookup y == some NameKind.cell) = true := z
      have z : scope.names.lookup y = some .cell := by simpa using z
      have e : cenv.cells.lookup y = some c := e
      rw [hcl] at e
      rcases cells_mem (PySem.mem_of_lookup e) with hm | ⟨_, h2, _⟩
      · rcases cloFrom_mem hm with hm | ⟨h1, _⟩
        · cases hm
        · have q := ok.uniq _ h1
          rw [z] at q; cases q
      · rw [Heap.size_push] at h2
        exact Nat.le_of_succ_le h2
    · show b ≠ cenv.locals
      rw [hL]; exact Nat.ne_of_lt (hfp b hb).2
    · have e : cenv.cells.lookup y = some c := e
      rcases mem e with ⟨h1, _⟩ | ⟨h1, _⟩
      · exact (hfp b hb).1.2.2.2.2.1 y c h1 z
      · have h2 : s.heap.objs.size + 1 ≤ b := by rw [← z]; exact h1
        exact absurd (Nat.lt_of_lt_of_le (hfp b hb).2 (Nat.le_of_succ_le h2)) (Nat.lt_irrefl _)
    · rcases (hfp b hb).1.2.2.2.1 with z | z
      · exact I.ok.noex b o e z
      · exact absurd (Nat.lt_of_lt_of_le (Heap.lt_size e) (Nat.le_trans I.ok.bsz z)) (Nat.lt_irrefl _)
    · rcases List.mem_cons.mp (I.stkSub b z) with z | z
      · exact (hfp b hb).1.2.1 z
      · exact (hfp b hb).1.2.2.1 z
  refine ⟨okB, rfl, I.bare.self, Un.kept kp, ⟨fun _ => none, ?_, fun i y av e1 e2 e3 => ?_⟩, fun y c e => ?_, ?_, fun y c e => ?_, fun p hp => ?_, I.hok.kept kp, by rw [wipe_length]; exact I.len⟩
  · show Heap.Ns _ cenv.locals _
    rw [hL]
    exact Heap.Ns.keeps (Heap.Ns.new ..) fun b o e => pushCells_keeps _ _ _ _ e
  · obtain ⟨e2, hne⟩ := wipe_some e2
    have hfr : scope.names.lookup y = some .free ∧ (cenv.kindOf y = some .cell ∨ cenv.kindOf y = some .free) := by
      have key : ∀ k, cenv.scope.names.lookup y = some k → k = .local ∨ k = .cell ∨ k = .free → scope.names.lookup y = some .free ∧ (cenv.kindOf y = some .cell ∨ cenv.kindOf y = some .free) := fun k hk hk' => by
        have hk0 := hk
        rw [hsc] at hk
        obtain ⟨k', e, r⟩ := lookup_relS hk
        have no : ¬ (k' = .local ∨ k' = .cell) := fun hh => by
          rcases ok.own _ (PySem.mem_of_lookup e) hh with e' | e'
          · obtain ⟨p, hp, hpy⟩ := List.mem_map.mp e'
            have e3 := ok.ix p hp
            have : p.1 = y := hpy
            rw [this] at e3
            exact hne (List.mem_map.mpr ⟨p, hp, nodup_ix hN e3 e1⟩)
          · exact e' (List.mem_of_getElem? e1)
        rcases r with rfl | ⟨rfl, rfl⟩
        · rcases hk' with rfl | rfl | rfl
          · exact absurd (.inl rfl) no
          · exact absurd (.inr rfl) no
          · exact ⟨e, .inr hk0⟩
        · exact ⟨e, .inl hk0⟩
      have e3 : Vis cenv.scope y := e3
      rcases e3 with e3 | e3 | e3
      · exact key _ e3 (.inl rfl)
      · exact key _ e3 (.inr (.inl rfl))
      · exact key _ e3 (.inr (.inr rfl))
    obtain ⟨m, hn, hl⟩ := I.loc
    have hvis : Vis X.env.scope y := (ok.free _ (PySem.mem_of_lookup hfr.1) rfl).elim (fun k => .inr (.inl k)) (fun k => .inr (.inr k))
    obtain ⟨w, r, q⟩ := hl i y av e1 e2 hvis
    refine ⟨w, r, .inr ⟨hfr.2, ?_⟩⟩
    obtain ⟨c, h1, h2⟩ := look hfr.1
    rcases q with ⟨k, _⟩ | ⟨_, c', e', z⟩
    · have k : X.env.scope.names.lookup y = some .local := k
      rcases ok.free _ (PySem.mem_of_lookup hfr.1) rfl with k' | k' <;> rw [show X.env.scope.names.lookup y = _ from k'] at k <;> cases k
    · rw [h2] at e'; cases e'
      exact ⟨c, h1, z.keeps kp⟩
  · have e : cenv.cells.lookup y = some c := e
    rcases mem e with ⟨h1, _⟩ | ⟨_, z⟩
    · obtain ⟨w, z⟩ := I.cell y c h1
      exact ⟨w, z.keeps kp⟩
    · exact ⟨_, z⟩
  · show H cenv.locals = none
    rw [hL]; exact I.hok.fresh (Nat.le_refl _)
  · have e : cenv.cells.lookup y = some c := e
    rcases mem e with ⟨h1, _⟩ | ⟨h1, _⟩
    · exact I.freeC y c h1
    · exact I.hok.fresh (Nat.le_of_succ_le h1)
  · exact absurd (show p ∈ ([] : List (Addr × Obj)) ++ [] from hp) (by simp)
/-- an item appended to a tracked list -/
theorem app_ok {E : Value → Shared → Prop} {D : Addr} {xs : List V} {y : V} {v : Value} {Q : Value → Shared → Prop} (I : Inv X pins σ H s) (hD : H D = some (.lst xs)) (hz : xs.length < sizeLine) (r : RelV y v)
    (h : ∀ s', Inv X pins σ (upd H D (.lst (xs ++ [y]))) s' → Q .none s') : wpAny (model X.prog X.w) X.A (call (.builtin "list.append") [.ref D, v]) Q E s := by
  obtain ⟨hz', its, n, ri, e⟩ := I.hok D _ hD
  have hl := ri.length
  refine append_at (hsz := by rw [List.size_toArray]; omega) e fun h' sb ho' => ?_
  refine h { s with heap := h' } (I.write (t' := s.toks) (by rw [hD]; trivial) (.inl rfl) (fun b u hb q => (sb.2 b hb).trans q) ⟨_, ho'⟩ ⟨by rw [List.length_append]; exact hz, its ++ [v], n + 1, ri.append (.cons r .nil), ?_⟩)
  rw [ho']
  simp
/-- a clause's tests -/
def PTs (X : Cx) (ifs : List Expr) (t : TT) : Prop :=
  ∀ ⦃pins : List (Addr × Obj)⦄ (s : Shared) (σ : St) (H : Hp) (Q : Bool → Hp → Prop), Inv X pins σ H s → t σ H Q →
    wpAny (model X.prog X.w) X.A (forIn ifs true fun c r => if r = true then do let ok ← isTrue c X.env (eval c X.env); pure (ForInStep.yield ok) else pure (ForInStep.yield r)) (TP X pins σ Q) X.xe s
def tYes : TT := fun _ H Q => Q true H
theorem pts_nil : PTs X [] tYes := fun _ _ _ H _ I h => wpAny_tests_nil ⟨H, I, h⟩
end
theorem thnF {α : Type} {t : Sem α} {Q Q' : α → Shared → Prop} {M : Model} {A : Around} {E : Value → Shared → Prop} {s : Shared} (h : wpAny M A t Q (fun _ _ => False) s) (hQ : ∀ a s, Q a s → Q' a s) : wpAny M A t Q' E s := wpAny_mono h hQ fun _ _ z => False.elim z
/-- the loop of a list comprehension's block, the target of any form (codeAny_compLoop_tests asks a target that no tuple goes to; statement and proof follow it, PyProof/CompMap.lean:41-61, with the step letOwnedTupleGo kept) -/
theorem compLoop_any {prog : Program} {w : World} {A : Around} {R : Result → Shared → Prop} {s : Shared} {elt target iter : Expr} {ifs : List Expr} {scope : Scope} {pos : Pos} {it acc : Value} {env : Env} (I : Nat → Shared → Prop)
    (turn : ∀ n s, I n s → wpAny (model prog w) A (pyNext it) (fun r s₁ => match r with
      | none => R (.ok .next) s₁
      | some v => wpAny (model prog w) A (letOwnedTupleGo target it v) (fun _ s₁' => wpAny (model prog w) A (assign target env v) (fun _ s₂ =>
          wpAny (model prog w) A (forIn ifs true fun c r => if r = true then do let ok ← isTrue c env (eval c env); pure (ForInStep.yield ok) else pure (ForInStep.yield r)) (fun ok s₃ =>
            if ok = true then wpAny (model prog w) A (eval elt env) (fun x s₄ =>
              wpAny (model prog w) A (call (.builtin "list.append") [acc, x]) (fun _ s₅ => ∃ m, m < n ∧ I m s₅) (notedBy (model prog w) A env fun e s' => R (.error e) s') s₄) (notedBy (model prog w) A env fun e s' => R (.error e) s') s₃
            else ∃ m, m < n ∧ I m s₃) (notedBy (model prog w) A env fun e s' => R (.error e) s') s₂) (notedBy (model prog w) A env fun e s' => R (.error e) s') s₁') (notedBy (model prog w) A env fun e s' => R (.error e) s') s₁) (notedBy (model prog w) A env fun e s' => R (.error e) s') s)
    (n : Nat) (h : I n s) :
    codeAny (model prog w) A (.compLoop (.ListComp elt [⟨target, iter, ifs, 0⟩] scope pos) 0 it acc env) R s := by
  refine codeAny_loop rfl I (fun n s hI => ?_) n h
  show wpAny _ A ((compTurn (.ListComp elt [⟨target, iter, ifs, 0⟩] scope pos) 0 it acc env).onRaise (fun x => do noteFrame x env; theTreesLotGoes x)) _ _ s
  refine wpAny_noted ?_
  rw [compTurn_list]
  refine wpAny_bind (wpAny_standAt (wpAny_bind (wpAny_mono (turn n s hI) (fun r s₁ h₁ => ?_) fun _ _ h' => h')))
  cases r with
  | none => exact wpAny_pure h₁
  | some v =>
    refine wpAny_bind (wpAny_mono h₁ (fun _ s₁' h₁' => ?_) fun _ _ h' => h')
    refine wpAny_bind (wpAny_mono h₁' (fun _ s₂ h₂ => wpAny_bind (wpAny_mono h₂ (fun ok s₃ h₃ => ?_) fun _ _ h' => h')) fun _ _ h' => h')
    cases ok with
    | false => exact wpAny_pure ⟨rfl, h₃⟩
    | true =>
      exact wpAny_bind (wpAny_bind (wpAny_mono h₃ (fun x s₄ h₄ => wpAny_bind (wpAny_mono h₄ (fun _ s₅ h₅ => wpAny_pure (wpAny_pure ⟨rfl, h₅⟩)) fun _ _ h' => h')) fun _ _ h' => h'))
section
variable {X : Cx}
/-- [elt for target in iter if ..]: D the new list; W by the turn and a measure, Nx what a turn is to reach -/
def tLc (wi : TI) (g : TG) (tt : TT) (te : TE) (vs : List Nat) : TE := fun σ H Q => wi σ H fun J H1 => ∀ D, H1 D = none → ∃ W : Nat → Nat → Hp → Prop, (∃ m, W 0 m (upd H1 D (.lst []))) ∧ ∀ i m H, W i m H →
  (J.stop i H ∧ Q (.ref D) H) ∨ (J.go i H ∧ ∃ Nx : Hp → Prop, (∀ H', Nx H' → ∃ m', m' < m ∧ W (i + 1) m' H') ∧ ∀ x H', J.yld i H x H' → g x (wipe σ vs) H' fun σ2 H2 => wipe σ2 vs = wipe σ vs ∧ tt σ2 H2 fun b H3 =>
    if b = true then te σ2 H3 fun y H4 => ∃ acc, H4 D = some (.lst acc) ∧ acc.length < sizeLine ∧ Nx (upd H4 D (.lst (acc ++ [y]))) else Nx H3)
theorem lc_core {pins : List (Addr × Obj)} {s : Shared} {σ : St} {H : Hp} {Q : VK} {elt tg iter : Expr} {ifs : List Expr} {scope : Scope} {own : List (Str × Nat)} {pos pos' : Pos} {wi : TI} {g : TG} {tt : TT} {te : TE} {use : Option (Value → Sem Unit)} {Qf : Value → Shared → Prop}
    (hc : X.calm = true) (hN : X.N.Nodup) (I : Inv X pins σ H s) (hi : PI X tg iter wi) (ok : BlkOk X.N X.env.scope scope own)
    (hg : ∀ (s : Shared) (H : Hp) (C : Addr) (cl : List (Str × Addr)) (fp : List Addr), PG (X.blk s H scope (compEnvC scope cl C X.env) fp) tg g) (ht : ∀ (s : Shared) (H : Hp) (C : Addr) (cl : List (Str × Addr)) (fp : List Addr), PTs (X.blk s H scope (compEnvC scope cl C X.env) fp) ifs tt)
    (he : ∀ (s : Shared) (H : Hp) (C : Addr) (cl : List (Str × Addr)) (fp : List Addr), PE (X.blk s H scope (compEnvC scope cl C X.env) fp) elt te) (hs : ∀ x, foldedSetIterable iter X.env x = pure x)
    (h : tLc wi g tt te (own.map (·.2)) σ H Q)
    (hRR : ∀ D C s' m H', Inv X pins σ H' s' → Q (.ref D) H' → s'.heap.Ns C m → FpOk X pins H' C → compPost (model X.prog X.w) X.A X.xe use Qf (.ref D) C (.ok .next) s') :
    wpAny (model X.prog X.w) X.A (comprehension (.ListComp elt [⟨tg, iter, ifs, 0⟩] scope pos) scope X.env pos' (newList []) false (eval iter X.env) use) Qf X.xe s := by
  have hfree : ∀ y ∈ scope.names, y.2 = .free → ∃ c, X.env.cells.lookup y.1 = some c := fun y hy e => by
    rcases ok.free y hy e with k | k
    · exact I.ok.has _ (.inl k)
    · exact I.ok.has _ (.inr k)
  refine wpAny_comprehension_free (use := use) rfl hs (closure_ok hfree) ok.kind (fun y hy e => by rw [ok.uniq y hy, e])
    (thn (hi s σ H _ I h) fun xv s1 hx => thn hx fun itv s2 h2 => ?_)
  obtain ⟨it, fp, tn, J, H2, e, I2, T, st2, f2, q⟩ := h2
  subst e
  refine wpAny_newObj_type (newEnv_comp ?_) (by show 0 ≤ sizeLine; decide)
  generalize hD : s2.heap.objs.size = D
  have hDn : H2 D = none := I2.hok.fresh (Nat.le_of_eq hD)
  obtain ⟨W, ⟨m0, w0⟩, turn⟩ := q D hDn
  -- the new list
  generalize hs3 : ({ s2 with heap := s2.heap.push { cls := .type "list", data := .seq ([] : List Value).toArray } } : Shared) = s3
  have I3 : Inv X pins σ (upd H2 D (.lst [])) s3 := by
    rw [← hs3]
    refine I2.laid (t' := s2.toks) (fun b o e => Heap.get?_push_of_some _ e) (Nat.le_of_eq hD) ⟨Nat.zero_le _, [], 0, .nil, ?_⟩
    rw [← hD]
    exact Heap.get?_push_size _ rfl
  have h3 : s3.heap = s2.heap.push { cls := .type "list", data := .seq ([] : List Value).toArray } := by rw [← hs3]
  have sz : ∀ b ∈ fp, b < s2.heap.objs.size := fun b hb => by
    obtain ⟨o, e, _⟩ := T.obj _ _ st2 b hb
    exact Heap.lt_size e
  have f3 : ∀ b ∈ fp, FpOk X pins (upd H2 D (.lst [])) b ∧ b < s3.heap.objs.size := fun b hb => by
    have hlt := sz b hb
    refine ⟨⟨?_, (f2 b hb).2⟩, by rw [h3, Heap.size_push]; exact Nat.lt_succ_of_lt hlt⟩
    rw [upd_ne (by rw [← hD]; exact Nat.ne_of_lt hlt)]
    exact (f2 b hb).1
  have st3 : tn 0 s3.heap := T.keep _ _ _ st2 fun b _ o e => by rw [h3]; exact Heap.get?_push_of_some _ e
  have I4 := block_start I3 ok hN f3
  have pg := hg s3 (upd H2 D (.lst [])) s3.heap.objs.size (cellsFrom (s3.heap.objs.size + 1) scope.names (cloFrom X.env.cells scope.names [])) fp
  have pt := ht s3 (upd H2 D (.lst [])) s3.heap.objs.size (cellsFrom (s3.heap.objs.size + 1) scope.names (cloFrom X.env.cells scope.names [])) fp
  have pe := he s3 (upd H2 D (.lst [])) s3.heap.objs.size (cellsFrom (s3.heap.objs.size + 1) scope.names (cloFrom X.env.cells scope.names [])) fp
  show codeAny _ _ (.compStart (.ListComp elt [⟨tg, iter, ifs, 0⟩] scope pos) 0 (.ref it) (.ref D) (compEnvC scope (cellsFrom (s3.heap.objs.size + 1) scope.names (cloFrom X.env.cells scope.names [])) s3.heap.objs.size X.env)) (compPost (model X.prog X.w) X.A X.xe use Qf (.ref D) s3.heap.objs.size) { s3 with heap := pushCells (s3.heap.push { cls := .type "dict", data := .dict #[] }) scope.names }
  have nfp : ∀ b ∈ fp, (upd H2 D (.lst [])) b = none := fun b hb => (f3 b hb).1.1
  generalize hce : compEnvC scope (cellsFrom (s3.heap.objs.size + 1) scope.names (cloFrom X.env.cells scope.names [])) s3.heap.objs.size X.env = ce at I4 pg pt pe ⊢
  have cL : ce.locals = s3.heap.objs.size := by subst hce; rfl
  generalize hH3 : upd H2 D (.lst []) = H3 at I3 I4 pg pt pe w0 nfp f3
  generalize hs4 : ({ s3 with heap := pushCells (s3.heap.push { cls := .type "dict", data := .dict #[] }) scope.names } : Shared) = s4 at I4 ⊢
  have st4 : tn 0 s4.heap := T.keep _ _ _ st3 fun b _ o e => by rw [← hs4]; exact pushCells_keeps _ _ _ _ (Heap.get?_push_of_some _ e)
  have stat : ∀ {σ' : St} {H' : Hp} {s' : Shared}, Inv (X.blk s3 H3 scope ce fp) [] σ' H' s' → (∀ b ∈ fp, H' b = none) → ∀ b ∈ fp, FpOk (X.blk s3 H3 scope ce fp) [] H' b := fun {σ' H' s'} I' hn b hb =>
    ⟨hn b hb, (I'.ok.exf b hb).1, I'.ok.exfs b hb, .inl hb, fun x c e => (I'.ok.exf b hb).2 x c e, fun p hp => absurd (show p ∈ ([] : List (Addr × Obj)) ++ [] from hp) (by simp)⟩
  have loop : codeAny (model X.prog X.w) X.A (.compLoop (.ListComp elt [⟨tg, iter, ifs, 0⟩] scope pos) 0 (.ref it) (.ref D) ce) (compPost (model X.prog X.w) X.A X.xe use Qf (.ref D) s3.heap.objs.size) s4 := by
    refine compLoop_any (fun n s' => ∃ i H', Inv (X.blk s3 H3 scope ce fp) [] (wipe σ (own.map (·.2))) H' s' ∧ tn i s'.heap ∧ (∀ b ∈ fp, H' b = none) ∧ W i n H') ?_ m0 ⟨0, H3, I4, st4, nfp, w0⟩
    rintro n s5 ⟨i, H5, I5, st5, n5, w5⟩
    rcases turn i n H5 w5 with ⟨stop, qq⟩ | ⟨go, Nx, hNx, step⟩
    · have td := T.done (X.blk s3 H3 scope ce fp) rfl rfl rfl hc i s5 _ H5 (fun _ _ => False) I5 (stat I5 n5) st5 stop
      refine thnF td fun r s6 ⟨hr, I6⟩ => ?_
      subst hr
      -- back in the def's context
      have I7 : Inv X pins σ H5 s6 := I3.call' (ch := fp) I6.os I6.base I6.hok I6.bare fun b hb => ⟨(f3 b hb).1.2.2.2.1, (f3 b hb).1.2.1, (f3 b hb).1.2.2.2.2.1, (f3 b hb).1.2.2.2.2.2⟩
      have nC : H5 s3.heap.objs.size = none := by
        have z : H5 ce.locals = none := I6.free
        rw [cL] at z
        exact z
      obtain ⟨m, hn, _⟩ := I6.loc
      have hn : s6.heap.Ns ce.locals m := hn
      rw [cL] at hn
      exact hRR D s3.heap.objs.size s6 m H5 I7 qq hn (I3.fpOk (Nat.le_refl _) nC)
    · have ti := T.item (X.blk s3 H3 scope ce fp) rfl rfl rfl hc i s5 _ H5 (fun _ _ => False) I5 (stat I5 n5) st5 go
      refine thnF ti fun r s6 ⟨u, hr, h6⟩ => ?_
      subst hr
      refine thnF h6 fun _ s7 ⟨x, H7, I7, r7, y7, st7, n7⟩ => ?_
      have I7' := I7.pinned (stat I7 n7) (T.obj _ _ st7)
      refine thnF (pg s7 _ H7 x u _ I7' r7 (step x H7 y7)) fun _ s8 ⟨σ8, H8, I8, hw8, q8⟩ => ?_
      refine thnF (pt s8 σ8 H8 _ I8 q8) fun b s9 ⟨H9, I9, q9⟩ => ?_
      -- the turn's end
      have fin : ∀ {s' : Shared} {H' : Hp}, Inv (X.blk s3 H3 scope ce fp) ([] ++ pinsAt fp s7.heap) σ8 H' s' → Nx H' → ∃ m, m < n ∧ ∃ i H', Inv (X.blk s3 H3 scope ce fp) [] (wipe σ (own.map (·.2))) H' s' ∧ tn i s'.heap ∧ (∀ b ∈ fp, H' b = none) ∧ W i m H' := fun {s' H'} I' nx => by
        obtain ⟨m', hm, w'⟩ := hNx H' nx
        have pin' : ∀ b ∈ fp, ∀ o, s7.heap.get? b = some o → s'.heap.get? b = some o ∧ H' b = none := fun b hb o e =>
          let z := I'.pin (b, o) (List.mem_append_right _ (List.mem_append_right _ (mem_pinsAt hb e)))
          ⟨z.1, z.2.1⟩
        have hl : (wipe σ (own.map (·.2))).length = σ8.length := by rw [← hw8, wipe_length]
        refine ⟨m', hm, i + 1, H', (I'.unpinned (pins := [])).weak hl (fun j v e => ?_), T.keep _ _ _ st7 fun b hb o e => (pin' b hb o e).1, fun b hb => ?_, w'⟩
        · rw [← hw8] at e
          exact (wipe_some e).1
        · obtain ⟨o, e, _⟩ := T.obj _ _ st7 b hb
          exact (pin' b hb o e).2
      cases b with
      | false =>
        simp only [Bool.false_eq_true, if_false] at q9 ⊢
        exact fin I9 q9
      | true =>
        simp only [if_true] at q9 ⊢
        refine thnF (pe s9 σ8 H9 _ I9 q9) fun z s10 ⟨yv, H10, I10, r10, acc, hD10, hz10, nx⟩ => ?_
        exact app_ok (X := X.blk s3 H3 scope ce fp) I10 hD10 hz10 r10 fun s11 I11 => fin I11 nx
  exact codeAny_compStart_list loop (T.self X.A 0 _ _ _ st4 loop)
/-- as a value -/
theorem pe_lc {elt tg iter : Expr} {ifs : List Expr} {scope : Scope} {own : List (Str × Nat)} {pos : Pos} {wi : TI} {g : TG} {tt : TT} {te : TE} (hc : X.calm = true) (hN : X.N.Nodup) (hi : PI X tg iter wi) (ok : BlkOk X.N X.env.scope scope own)
    (hg : ∀ (s : Shared) (H : Hp) (C : Addr) (cl : List (Str × Addr)) (fp : List Addr), PG (X.blk s H scope (compEnvC scope cl C X.env) fp) tg g) (ht : ∀ (s : Shared) (H : Hp) (C : Addr) (cl : List (Str × Addr)) (fp : List Addr), PTs (X.blk s H scope (compEnvC scope cl C X.env) fp) ifs tt)
    (he : ∀ (s : Shared) (H : Hp) (C : Addr) (cl : List (Str × Addr)) (fp : List Addr), PE (X.blk s H scope (compEnvC scope cl C X.env) fp) elt te) (hs : ∀ x, foldedSetIterable iter X.env x = pure x := by intro _; rfl) :
    PE X (.ListComp elt [⟨tg, iter, ifs, 0⟩] scope pos) (tLc wi g tt te (own.map (·.2))) := by
  intro pins s σ H Q I h
  rw [eval_ListComp]
  refine lc_core hc hN I hi ok hg ht he hs h fun D C s' m H' I' q hn f => ⟨m, hn, fun h'' sb => ?_⟩
  obtain ⟨f0, f1, f2, f3, f4, f5⟩ := f
  exact ⟨.ref D, H', I'.turned (t' := s'.toks) (fun b o hb e => (sb.2 b hb).trans e) f0 f1 f3 f4 f5, rfl, q⟩
/-- name = [..] on one line, the name a local -/
theorem ps_setLc {i : Nat} {y : Str} {py : Pos} {elt tg iter : Expr} {ifs : List Expr} {scope : Scope} {own : List (Str × Nat)} {pos spos : Pos} {wi : TI} {g : TG} {tt : TT} {te : TE} (hc : X.calm = true) (hN : X.N.Nodup) (hy : X.N[i]? = some y) (hyl : X.env.scope.names.lookup y = some .local)
    (hsw : swapsWith (.ListComp elt [⟨tg, iter, ifs, 0⟩] scope pos) (some (.Name y py)) spos.line X.env = pure true) (hi : PI X tg iter wi) (ok : BlkOk X.N X.env.scope scope own)
    (hg : ∀ (s : Shared) (H : Hp) (C : Addr) (cl : List (Str × Addr)) (fp : List Addr), PG (X.blk s H scope (compEnvC scope cl C X.env) fp) tg g) (ht : ∀ (s : Shared) (H : Hp) (C : Addr) (cl : List (Str × Addr)) (fp : List Addr), PTs (X.blk s H scope (compEnvC scope cl C X.env) fp) ifs tt)
    (he : ∀ (s : Shared) (H : Hp) (C : Addr) (cl : List (Str × Addr)) (fp : List Addr), PE (X.blk s H scope (compEnvC scope cl C X.env) fp) elt te) (hs : ∀ x, foldedSetIterable iter X.env x = pure x := by intro _; rfl) :
    PS X (.Assign [.Name y py] (.ListComp elt [⟨tg, iter, ifs, 0⟩] scope pos) spos) (tAsg (tLc wi g tt te (own.map (·.2))) (gName i)) := by
  intro pins s σ H D I h
  rw [exec_Assign_Name_used _ _ _ _ hsw]
  refine wpAny_bind (wpAny_standAt (wpAny_bind ?_))
  show wpAny _ X.A (do let _ ← comprehension (.ListComp elt [⟨tg, iter, ifs, 0⟩] scope pos) scope X.env (firstIterPos [⟨tg, iter, ifs, 0⟩] pos) (newList []) false (eval iter X.env) (some (assign (.Name y py) X.env))) _ _ s
  have h : tLc wi g tt te (own.map (·.2)) σ H (fun x H1 => gName i x σ H1 D.nx) := h
  refine wpAny_bind (thn (lc_core (Qf := fun _ s' => SP X pins D .next s') hc hN I hi ok hg ht he hs h fun L C s' m H' I' q hn f => ?_) fun _ s' hq => wpAny_pure (wpAny_pure hq))
  show wpAny _ _ (assign (.Name y py) X.env (.ref L)) _ _ _
  refine wpAny_assign_Name (store_ok2 (v := V.ref L) I' hN hy (.inl hyl) rfl (fun s2 I2 ⟨a, sb, ha⟩ => ?_) (.inr hyl))
  obtain ⟨f0, f1, f2, f3, f4, f5⟩ := f
  have haC : C ≠ a := by
    rcases ha with z | z
    · rw [z]; exact f1
    · exact fun e => f4 y a z e.symm
  refine ⟨m, hn.sameBut sb haC, fun h3 sb3 => ?_⟩
  exact ⟨_, H', I2.turned (t' := s2.toks) (fun b o hb e => (sb3.2 b hb).trans e) f0 f1 f3 f4 f5, q⟩
theorem sw_true {elt : Expr} {gs : List Comprehension} {scope : Scope} {pos py : Pos} {y : Str} {l : Nat} {env : Env} (hk : env.scope.kind = .function) (hy : env.scope.names.lookup y = some .local) (hl : (py.line == pos.line) = true)
    (ha : (scope.names.any fun (n, k) => n == y && (k == .local || k == .cell)) = false) : swapsWith (.ListComp elt gs scope pos) (some (.Name y py)) l env = pure true := by
  have ky : env.kindOf y = some .local := hy
  have hb : env.blockKind = .function := by unfold Env.blockKind; rw [hk]; rfl
  unfold swapsWith
  simp only [hb, ky, ha, Expr.pos, hl]
  rfl
end
/-- over a range: Pv by the turn and the heap (the new list at D within) -/
theorem lc_range {lo : Int} {n : Nat} {g : TG} {tt : TT} {te : TE} {vs : List Nat} {σ : St} {H1 : Hp} {D : Addr} {Qd : Hp → Prop} (Pv : Nat → Hp → Prop) (h0 : Pv 0 (upd H1 D (.lst [])))
    (hs : ∀ i H, i < n → Pv i H → g (.int (lo + i)) (wipe σ vs) H fun σ2 H2 => wipe σ2 vs = wipe σ vs ∧ tt σ2 H2 fun b H3 =>
      if b = true then te σ2 H3 fun y H4 => ∃ acc, H4 D = some (.lst acc) ∧ acc.length < sizeLine ∧ Pv (i + 1) (upd H4 D (.lst (acc ++ [y]))) else Pv (i + 1) H3) (hd : ∀ H, Pv n H → Qd H) :
    ∃ W : Nat → Nat → Hp → Prop, (∃ m, W 0 m (upd H1 D (.lst []))) ∧ ∀ i m H, W i m H →
      ((Itr lo n).stop i H ∧ Qd H) ∨ ((Itr lo n).go i H ∧ ∃ Nx : Hp → Prop, (∀ H', Nx H' → ∃ m', m' < m ∧ W (i + 1) m' H') ∧ ∀ x H', (Itr lo n).yld i H x H' → g x (wipe σ vs) H' fun σ2 H2 => wipe σ2 vs = wipe σ vs ∧ tt σ2 H2 fun b H3 =>
        if b = true then te σ2 H3 fun y H4 => ∃ acc, H4 D = some (.lst acc) ∧ acc.length < sizeLine ∧ Nx (upd H4 D (.lst (acc ++ [y]))) else Nx H3) := by
  refine ⟨fun i m H => m = n - i ∧ i ≤ n ∧ Pv i H, ⟨n, by simp, Nat.zero_le _, h0⟩, ?_⟩
  rintro i m H ⟨rfl, hi, p⟩
  by_cases hlt : i < n
  · refine .inr ⟨hlt, Pv (i + 1), fun H' p' => ⟨n - (i + 1), by omega, rfl, hlt, p'⟩, fun x H' y => ?_⟩
    obtain ⟨e, y⟩ := y
    subst e y
    exact hs i _ hlt p
  · have e : i = n := by omega
    subst e
    exact .inl ⟨Nat.le_refl _, hd H p⟩
/-- over a list that the block leaves as it is -/
theorem lc_list {K : PySem.W.Frag} {a : Addr} {xs : List V} {g : TG} {tt : TT} {te : TE} {vs : List Nat} {σ : St} {H1 : Hp} {D : Addr} {Qd : Hp → Prop} (Pv : Nat → Hp → Prop) (h0 : Pv 0 (upd H1 D (.lst []))) (hl : ∀ i H, i ≤ xs.length → Pv i H → SqL K H a xs)
    (hs : ∀ i x H, xs[i]? = some x → Pv i H → g x (wipe σ vs) H fun σ2 H2 => wipe σ2 vs = wipe σ vs ∧ tt σ2 H2 fun b H3 =>
      if b = true then te σ2 H3 fun y H4 => ∃ acc, H4 D = some (.lst acc) ∧ acc.length < sizeLine ∧ Pv (i + 1) (upd H4 D (.lst (acc ++ [y]))) else Pv (i + 1) H3) (hd : ∀ H, Pv xs.length H → Qd H) :
    ∃ W : Nat → Nat → Hp → Prop, (∃ m, W 0 m (upd H1 D (.lst []))) ∧ ∀ i m H, W i m H →
      ((Itl K a).stop i H ∧ Qd H) ∨ ((Itl K a).go i H ∧ ∃ Nx : Hp → Prop, (∀ H', Nx H' → ∃ m', m' < m ∧ W (i + 1) m' H') ∧ ∀ x H', (Itl K a).yld i H x H' → g x (wipe σ vs) H' fun σ2 H2 => wipe σ2 vs = wipe σ vs ∧ tt σ2 H2 fun b H3 =>
        if b = true then te σ2 H3 fun y H4 => ∃ acc, H4 D = some (.lst acc) ∧ acc.length < sizeLine ∧ Nx (upd H4 D (.lst (acc ++ [y]))) else Nx H3) := by
  refine ⟨fun i m H => m = xs.length - i ∧ i ≤ xs.length ∧ Pv i H, ⟨xs.length, by simp, Nat.zero_le _, h0⟩, ?_⟩
  rintro i m H ⟨rfl, hi, p⟩
  have q := hl i H hi p
  by_cases hlt : i < xs.length
  · refine .inr ⟨⟨xs, xs[i], q, by simp [hlt]⟩, Pv (i + 1), fun H' p' => ⟨xs.length - (i + 1), by omega, rfl, hlt, p'⟩, fun x H' y => ?_⟩
    obtain ⟨e, y⟩ := y
    subst e
    exact hs i x _ (y xs q) p
  · have e : i = xs.length := by omega
    subst e
    exact .inl ⟨⟨xs, q, Nat.le_refl _⟩, hd H p⟩
/-- over a tuple -/
theorem lc_tup {K : PySem.W.Frag} {a : Addr} {xs : List V} {g : TG} {tt : TT} {te : TE} {vs : List Nat} {σ : St} {H1 : Hp} {D : Addr} {Qd : Hp → Prop} (Pv : Nat → Hp → Prop) (h0 : Pv 0 (upd H1 D (.lst []))) (hl : ∀ i H, i ≤ xs.length → Pv i H → SqT K H a xs)
    (hs : ∀ i x H, xs[i]? = some x → Pv i H → g x (wipe σ vs) H fun σ2 H2 => wipe σ2 vs = wipe σ vs ∧ tt σ2 H2 fun b H3 =>
      if b = true then te σ2 H3 fun y H4 => ∃ acc, H4 D = some (.lst acc) ∧ acc.length < sizeLine ∧ Pv (i + 1) (upd H4 D (.lst (acc ++ [y]))) else Pv (i + 1) H3) (hd : ∀ H, Pv xs.length H → Qd H) :
    ∃ W : Nat → Nat → Hp → Prop, (∃ m, W 0 m (upd H1 D (.lst []))) ∧ ∀ i m H, W i m H →
      ((Itt K a).stop i H ∧ Qd H) ∨ ((Itt K a).go i H ∧ ∃ Nx : Hp → Prop, (∀ H', Nx H' → ∃ m', m' < m ∧ W (i + 1) m' H') ∧ ∀ x H', (Itt K a).yld i H x H' → g x (wipe σ vs) H' fun σ2 H2 => wipe σ2 vs = wipe σ vs ∧ tt σ2 H2 fun b H3 =>
        if b = true then te σ2 H3 fun y H4 => ∃ acc, H4 D = some (.lst acc) ∧ acc.length < sizeLine ∧ Nx (upd H4 D (.lst (acc ++ [y]))) else Nx H3) := by
  refine ⟨fun i m H => m = xs.length - i ∧ i ≤ xs.length ∧ Pv i H, ⟨xs.length, by simp, Nat.zero_le _, h0⟩, ?_⟩
  rintro i m H ⟨rfl, hi, p⟩
  have q := hl i H hi p
  by_cases hlt : i < xs.length
  · refine .inr ⟨⟨xs, xs[i], q, by simp [hlt]⟩, Pv (i + 1), fun H' p' => ⟨xs.length - (i + 1), by omega, rfl, hlt, p'⟩, fun x H' y => ?_⟩
    obtain ⟨e, y⟩ := y
    subst e
    exact hs i x _ (y xs q) p
  · have e : i = xs.length := by omega
    subst e
    exact .inl ⟨⟨xs, q, Nat.le_refl _⟩, hd H p⟩
def blkC (N : List Str) (sc scope : Scope) (own : List (Str × Nat)) : Bool :=
  (match scope.kind with | .function => true | _ => false) && (scope.names.all fun y => decide (scope.names.lookup y.1 = some y.2)) && (own.all fun p => decide (N[p.2]? = some p.1)) &&
    (scope.names.all fun y => match y.2 with
      | .free => (match sc.names.lookup y.1 with | some .cell => true | some .free => true | _ => false)
      | .local => decide (y.1 ∈ own.map (·.1)) || decide (y.1 ∉ N)
      | .cell => decide (y.1 ∈ own.map (·.1)) || decide (y.1 ∉ N)
      | _ => true)
theorem blkOk_by {N : List Str} {sc scope : Scope} {own : List (Str × Nat)} (h : blkC N sc scope own = true) : BlkOk N sc scope own := by
  unfold blkC at h
  simp only [Bool.and_eq_true, List.all_eq_true, decide_eq_true_eq] at h
  obtain ⟨⟨⟨h1, h2⟩, h3⟩, h4⟩ := h
  refine ⟨?_, h2, h3, fun y hy e => ?_, fun y hy e => ?_⟩
  · split at h1
    · assumption
    · cases h1
  · have q := h4 y hy
    simp only [e] at q
    split at q <;> first | exact .inl (by assumption) | exact .inr (by assumption) | cases q
  · have q := h4 y hy
    rcases e with e | e <;> (simp only [e, Bool.or_eq_true, decide_eq_true_eq] at q; exact q)
end L2
namespace L2
open PySem PySem.Spec PyProof.Rows
section
variable {prog : Program} {w : World} {A : Around} {R : Result → Shared → Prop} {s : Shared} {elt t0 i0 t1 i1 : Expr} {ifs0 ifs1 : List Expr} {scope : Scope} {pos : Pos} {it acc : Value} {env : Env}
end
section
variable {X : Cx}
end
end L2
namespace L2
open PySem PySem.Spec PyProof.Rows
section
variable {κ : Type} [DecidableEq κ]
def valV (kvs : List (κ × V)) (k : κ) : Option V := (kvs.find? fun kv => decide (kv.1 = k)).map (·.2)
/-- in its place, or at the end -/
def putK (kvs : List (κ × V)) (k : κ) (v : V) : List (κ × V) :=
  if (kvs.any fun kv => decide (kv.1 = k)) = true then kvs.map (fun kv => if kv.1 = k then (kv.1, v) else kv) else kvs ++ [(k, v)]
def dropK (kvs : List (κ × V)) (k : κ) : List (κ × V) := kvs.filter fun kv => decide (kv.1 ≠ k)
theorem valV_pos {p : κ × V} {r : List (κ × V)} {k : κ} (e : p.1 = k) : valV (p :: r) k = some p.2 := by simp [valV, List.find?_cons, e]
theorem valV_neg {p : κ × V} {r : List (κ × V)} {k : κ} (e : ¬ p.1 = k) : valV (p :: r) k = valV r k := by simp [valV, List.find?_cons, e]
theorem valV_any (k : κ) : ∀ kvs : List (κ × V), (kvs.any fun kv => decide (kv.1 = k)) = (valV kvs k).isSome
  | [] => rfl
  | p :: r => by
    rw [List.any_cons]
    by_cases e : p.1 = k
    · simp only [valV_pos e, decide_eq_true e, Bool.true_or, Option.isSome_some]
    · rw [valV_neg e, decide_eq_false e, Bool.false_or]; exact valV_any k r
theorem RelO.isSome_eq {o : Option V} {u : Option Value} (r : RelO o u) : o.isSome = u.isSome := by
  cases o with
  | none => cases u with
    | none => rfl
    | some _ => exact (show False from r).elim
  | some _ => cases u with
    | none => exact (show False from r).elim
    | some _ => rfl
theorem RelO.getD {o : Option V} {u : Option Value} {d : V} {d' : Value} (r : RelO o u) (rd : RelV d d') : RelV (o.getD d) (u.getD d') := by
  cases o with
  | none => cases u with
    | none => exact rd
    | some _ => exact (show False from r).elim
  | some _ => cases u with
    | none => exact (show False from r).elim
    | some _ => exact r
/-- raw tables of the same keys -/
theorem KV.val {kvs : List (κ × V)} {vs : List (κ × Value)} (r : KV kvs vs) (k : κ) : RelO (valV kvs k) (valueAt vs k) := by
  unfold KV at r
  induction r with
  | nil => exact True.intro
  | @cons p q ps qs h t ih =>
    obtain ⟨h1, h2⟩ := h
    by_cases e : p.1 = k
    · have e' : q.1 = k := h1.symm.trans e
      have b : valueAt (q :: qs) k = some q.2 := by simp [valueAt, List.find?_cons, e']
      rw [valV_pos e, b]; exact h2
    · have e' : ¬ q.1 = k := fun z => e (h1.trans z)
      have b : valueAt (q :: qs) k = valueAt qs k := by simp [valueAt, List.find?_cons, e']
      rw [valV_neg e, b]; exact ih
theorem KV.any {kvs : List (κ × V)} {vs : List (κ × Value)} (r : KV kvs vs) (k : κ) : (kvs.any fun kv => decide (kv.1 = k)) = vs.any fun kv => decide (kv.1 = k) := by
  unfold KV at r
  induction r with
  | nil => rfl
  | cons h t ih => rw [List.any_cons, List.any_cons, ih, h.1]
theorem KV.repl {kvs : List (κ × V)} {vs : List (κ × Value)} (r : KV kvs vs) (k : κ) {y : V} {u : Value} (ry : RelV y u) :
    KV (kvs.map fun kv => if kv.1 = k then (kv.1, y) else kv) (vs.map fun kv => if kv.1 = k then (kv.1, u) else kv) := by
  unfold KV at r ⊢
  induction r with
  | nil => exact .nil
  | @cons p q ps qs h t ih =>
    rw [List.map_cons, List.map_cons]
    refine .cons ?_ ih
    obtain ⟨h1, h2⟩ := h
    by_cases e : p.1 = k
    · rw [if_pos e, if_pos (h1.symm.trans e)]; exact ⟨h1, ry⟩
    · rw [if_neg e, if_neg (fun z => e (h1.trans z))]; exact ⟨h1, h2⟩
theorem KV.put {kvs : List (κ × V)} {vs : List (κ × Value)} (r : KV kvs vs) (k : κ) {y : V} {u : Value} (ry : RelV y u) : KV (putK kvs k y) (stored vs k u) := by
  unfold putK stored
  rw [r.any k]
  by_cases e : (vs.any fun kv => decide (kv.1 = k)) = true
  · rw [if_pos e, if_pos e]; exact r.repl k ry
  · rw [if_neg e, if_neg e]; exact Paired.snoc r ⟨rfl, ry⟩
theorem KV.drop {kvs : List (κ × V)} {vs : List (κ × Value)} (r : KV kvs vs) (k : κ) : KV (dropK kvs k) (without vs k) := by
  unfold KV at r ⊢
  unfold dropK without
  induction r with
  | nil => exact .nil
  | @cons p q ps qs h t ih =>
    obtain ⟨h1, h2⟩ := h
    rw [List.filter_cons, List.filter_cons]
    by_cases e : p.1 = k
    · have a : ¬ decide (p.1 ≠ k) = true := by simp [e]
      have b : ¬ decide (q.1 ≠ k) = true := by simp [h1.symm.trans e]
      rw [if_neg a, if_neg b]; exact ih
    · have e' : ¬ q.1 = k := fun z => e (h1.trans z)
      have a : decide (p.1 ≠ k) = true := by simp [e]
      have b : decide (q.1 ≠ k) = true := by simp [e']
      rw [if_pos a, if_pos b]; exact .cons ⟨h1, h2⟩ ih
theorem KV.keys {kvs : List (κ × V)} {vs : List (κ × Value)} (r : KV kvs vs) : kvs.map (·.1) = vs.map (·.1) := by
  unfold KV at r
  induction r with
  | nil => rfl
  | cons h t ih => rw [List.map_cons, List.map_cons, ih, h.1]
theorem KV.length {kvs : List (κ × V)} {vs : List (κ × Value)} (r : KV kvs vs) : kvs.length = vs.length := Paired.length r
end
/-- raw entries of a dict with tuple keys -/
abbrev KT (H : Hp) : List (List Key × V) → List (List Key × Addr × Value) → Prop := Paired fun p q => p.1 = q.1 ∧ H q.2.1 = some (.tup (p.1.map kV)) ∧ RelV p.2 q.2.2
theorem KT.val {H : Hp} {kvs : List (List Key × V)} {xs : List (List Key × Addr × Value)} (r : KT H kvs xs) (k : List Key) : RelO (valV kvs k) ((atKey xs k).map (·.2)) := by
  induction r with
  | nil => exact True.intro
  | @cons p q ps qs h t ih =>
    obtain ⟨h1, _, h2⟩ := h
    by_cases e : p.1 = k
    · have e' : q.1 = k := h1.symm.trans e
      have b : atKey (q :: qs) k = some q.2 := by simp [atKey, List.find?_cons, e']
      rw [valV_pos e, b]; exact h2
    · have e' : ¬ q.1 = k := fun z => e (h1.trans z)
      have b : atKey (q :: qs) k = atKey qs k := by simp [atKey, List.find?_cons, e']
      rw [valV_neg e, b]; exact ih
theorem KT.repl {H : Hp} {kvs : List (List Key × V)} {xs : List (List Key × Addr × Value)} (r : KT H kvs xs) (k : List Key) {y : V} {u : Value} (ry : RelV y u) :
    KT H (kvs.map fun kv => if kv.1 = k then (kv.1, y) else kv) (xs.map (putAt k u)) := by
  induction r with
  | nil => exact .nil
  | @cons p q ps qs h t ih =>
    rw [List.map_cons, List.map_cons]
    refine .cons ?_ ih
    obtain ⟨h1, h2, h3⟩ := h
    unfold putAt
    by_cases e : p.1 = k
    · rw [if_pos e, if_pos (h1.symm.trans e)]; exact ⟨h1, h2, ry⟩
    · rw [if_neg e, if_neg (fun z => e (h1.trans z))]; exact ⟨h1, h2, h3⟩
theorem KT.put {H : Hp} {kvs : List (List Key × V)} {xs : List (List Key × Addr × Value)} (r : KT H kvs xs) (k : List Key) {b : Addr} {y : V} {u : Value} (hb : H b = some (.tup (k.map kV))) (ry : RelV y u) :
    KT H (putK kvs k y) (storedH xs k b u) := by
  have e : (kvs.any fun kv => decide (kv.1 = k)) = (atKey xs k).isSome := by
    rw [valV_any, (r.val k).isSome_eq, Option.isSome_map]
  unfold putK storedH
  rw [e]
  by_cases q : (atKey xs k).isSome = true
  · rw [if_pos q, if_pos q]; exact r.repl k ry
  · rw [if_neg q, if_neg q]; exact Paired.snoc r ⟨rfl, hb, ry⟩
theorem KT.keeps {H H' : Hp} {kvs : List (List Key × V)} {xs : List (List Key × Addr × Value)} (r : KT H kvs xs) (ht : ∀ b ys, H b = some (.tup ys) → H' b = some (.tup ys)) : KT H' kvs xs :=
  Paired.mapP r fun _ _ z => ⟨z.1, ht _ _ z.2.1, z.2.2⟩
section
variable {P : Program} {w : World} {H : Hp} {h : Heap} {a : Addr}
end
/-- what the dict at a holds at the key y -/
def DGet (H : Hp) (a : Addr) (y : V) (r : Option V) : Prop :=
  (∃ kvs k, Rd H a (.dK kvs) ∧ y = kV k ∧ r = valV kvs k) ∨ ∃ kvs k b, Rd H a (.dT kvs) ∧ y = .ref b ∧ H b = some (.tup (k.map kV)) ∧ r = valV kvs k
/-- the heap behind a[y] = v -/
def DPut (H : Hp) (a : Addr) (y v : V) (H' : Hp) : Prop :=
  (∃ kvs k, H a = some (.dK kvs) ∧ y = kV k ∧ kvs.length < sizeLine ∧ H' = upd H a (.dK (putK kvs k v))) ∨
  ∃ kvs k b, H a = some (.dT kvs) ∧ y = .ref b ∧ H b = some (.tup (k.map kV)) ∧ kvs.length < sizeLine ∧ H' = upd H a (.dT (putK kvs k v))
theorem DGet.k {H : Hp} {a : Addr} {kvs : List (Key × V)} {k : Key} (e : H a = some (.dK kvs)) : DGet H a (kV k) (valV kvs k) := .inl ⟨kvs, k, .inl e, rfl, rfl⟩
theorem DGet.t {H : Hp} {a b : Addr} {kvs : List (List Key × V)} {k : List Key} (e : H a = some (.dT kvs)) (eb : H b = some (.tup (k.map kV))) : DGet H a (.ref b) (valV kvs k) := .inr ⟨kvs, k, b, .inl e, rfl, eb, rfl⟩
theorem DPut.k {H : Hp} {a : Addr} {kvs : List (Key × V)} {k : Key} {v : V} (e : H a = some (.dK kvs)) (hl : kvs.length < sizeLine) : DPut H a (kV k) v (upd H a (.dK (putK kvs k v))) := .inl ⟨kvs, k, e, rfl, hl, rfl⟩
theorem DPut.t {H : Hp} {a b : Addr} {kvs : List (List Key × V)} {k : List Key} {v : V} (e : H a = some (.dT kvs)) (eb : H b = some (.tup (k.map kV))) (hl : kvs.length < sizeLine) :
    DPut H a (.ref b) v (upd H a (.dT (putK kvs k v))) := .inr ⟨kvs, k, b, e, rfl, eb, hl, rfl⟩
section
variable {X : Cx} {pins : List (Addr × Obj)} {σ : St} {H : Hp} {s : Shared} {a : Addr} {y v : V} {u r : Value} {o : Option V} {A : Around} {E : Value → Shared → Prop}
end
section
variable {X : Cx} {pins : List (Addr × Obj)} {σ : St} {H : Hp} {s : Shared} {a : Addr} {kvs : List (Key × V)} {k : Key} {u : Value} {A : Around} {E : Value → Shared → Prop}
end
section
variable {X : Cx} {o i e value : Expr} {pos pos' tpos : Pos} {td ty tv : TE}
end
section
variable {X : Cx} {pos : Pos}
end
/-- a method call o.m(e) of a built-in, with one argument: what must be seen of the text -/
structure M1 (X : Cx) (o : Expr) (m : Str) (apos : Pos) (e : Expr) (cpos : Pos) : Prop where
  base : attributeBase o m X.env (eval o X.env) = eval o X.env
  few : ((backTo cpos (starEach [e] X.env)).all (fun x => !x.1) && (backToKw cpos (keywordEach [] X.env)).all (fun x => x.1.isSome)
    && decide (([e] : List Expr).length + ([] : List Keyword).length + (if ([] : List Keyword).isEmpty then 0 else 1) < 30)) = true
  line : (apos.endLine == cpos.line) = true
  trees : backTo cpos (starEach [e] X.env) = [(false, eval e X.env)]
structure M2 (X : Cx) (o : Expr) (m : Str) (apos : Pos) (e f : Expr) (cpos : Pos) : Prop where
  base : attributeBase o m X.env (eval o X.env) = eval o X.env
  few : ((backTo cpos (starEach [e, f] X.env)).all (fun x => !x.1) && (backToKw cpos (keywordEach [] X.env)).all (fun x => x.1.isSome)
    && decide (([e, f] : List Expr).length + ([] : List Keyword).length + (if ([] : List Keyword).isEmpty then 0 else 1) < 30)) = true
  line : (apos.endLine == cpos.line) = true
  trees : backTo cpos (starEach [e, f] X.env) = [(false, eval e X.env), (false, eval f X.env)]
section
variable {X : Cx} {pins : List (Addr × Obj)} {σ : St} {H : Hp} {s : Shared} {a : Addr} {y d : V} {u r : Value} {o : Option V} {A : Around} {E : Value → Shared → Prop}
end
section
variable {X : Cx} {o e f : Expr} {apos cpos : Pos} {td ty tx : TE}
end
section
variable {X : Cx} {pins : List (Addr × Obj)} {σ : St} {H : Hp} {s : Shared} {a : Addr} {kvs : List (Key × V)} {A : Around} {E : Value → Shared → Prop}
end
section
variable {X : Cx} {pins : List (Addr × Obj)} {σ : St} {H : Hp} {s : Shared} {a : Addr} {y : V} {u : Value} {A : Around} {E : Value → Shared → Prop}
end
end L2
namespace L2
open PySem PySem.Spec PyProof.Rows
section
variable {prog : Program} {w : World} {A : Around} {E : Value → Shared → Prop}
end
section
variable {X : Cx}
end
end L2
namespace L2
open PySem PySem.Spec PyProof.Rows
section
variable {X : Cx} {pins : List (Addr × Obj)} {σ : St} {H : Hp} {s : Shared} {h' : Heap}
/-- several records of ours have turned -/
theorem Inv.turnedL {t' : Nat} {ch : List Addr} (I : Inv X pins σ H s) (k : ∀ b o, b ∉ ch → s.heap.get? b = some o → h'.get? b = some o) (hf : ∀ b ∈ ch, FpOk X pins H b) : Inv X pins σ H { s with heap := h', toks := t' } := by
  have nit : ∀ b u, H b = some u → b ∉ ch := fun b u e z => by
    have q := (hf b z).1
    rw [q] at e; cases e
  refine I.step (g' := s.gens) (d' := s.drawn) (ch := ch) (fun b hb => ⟨(hf b hb).2.2.2.1, (hf b hb).2.1, (hf b hb).2.2.2.2.1, (hf b hb).2.2.2.2.2⟩) (fun b o _ _ hc e _ => k b o hc e) (fun b o _ _ hc e _ => ⟨o.slots, k b o hc e⟩)
    (fun _ _ _ _ n => n) (fun b o hc e => ⟨o, k b o hc e⟩) (fun _ _ e => e) (fun _ _ _ e => e) (fun b ps e => ⟨#[], by rw [e]; simp⟩) (fun m hm => ?_) (fun b u e => ?_) I.bare.self
  · obtain ⟨o, es, ep, ho, r⟩ := hm
    exact ⟨o, es, ep, k _ o (fun z => (hf _ z).2.1 rfl) ho, r⟩
  · refine (I.hok b u e).stay (fun c v hc q => k c v ?_ q) (fun _ q => q) fun _ _ q => q
    rcases hc with z | z
    · rw [z]; exact nit b u e
    · exact nit c _ z
/-- .. and one new object is laid -/
theorem Inv.turnedNew {t' : Nat} {ch : List Addr} {T : Addr} {ob : HO} (I : Inv X pins σ H s) (k : ∀ b o, b ∉ ch → s.heap.get? b = some o → h'.get? b = some o) (hf : ∀ b ∈ ch, FpOk X pins H b) (hT : s.heap.objs.size ≤ T)
    (new : ObjOk X.prog X.w (upd H T ob) h' T ob) : Inv X pins σ (upd H T ob) { s with heap := h', toks := t' } := by
  have hn : H T = none := I.hok.fresh hT
  have nit : ∀ b u, H b = some u → b ∉ ch := fun b u e z => by
    have q := (hf b z).1
    rw [q] at e; cases e
  refine I.step (g' := s.gens) (d' := s.drawn) (ch := ch) (fun b hb => ⟨(hf b hb).2.2.2.1, (hf b hb).2.1, (hf b hb).2.2.2.2.1, (hf b hb).2.2.2.2.2⟩) (fun b o _ _ hc e _ => k b o hc e) (fun b o _ _ hc e _ => ⟨o.slots, k b o hc e⟩)
    (fun b o _ e n => ?_) (fun b o hc e => ⟨o, k b o hc e⟩) (fun b xs e => ?_) (fun b o u e => ?_) (fun b ps e => ⟨#[], ?_⟩) (fun m hm => ?_) (fun b u e => ?_) I.bare.self
  · rw [upd_ne (Nat.ne_of_lt (Nat.lt_of_lt_of_le (Heap.lt_size e) hT))]; exact n
  · rw [upd_ne (ne_of_none e hn)]; exact e
  · rw [upd_ne (ne_of_none e hn)]; exact e
  · rw [upd_ne (ne_of_none e hn), e]; simp
  · obtain ⟨o, es, ep, ho, r⟩ := hm
    exact ⟨o, es, ep, k _ o (fun z => (hf _ z).2.1 rfl) ho, r⟩
  · by_cases hb : b = T
    · subst hb
      rw [upd_same] at e
      cases e
      exact new
    · rw [upd_ne hb] at e
      refine (I.hok b u e).stay (fun c v hc q => k c v ?_ q) (fun c q => by rw [upd_ne (ne_of_none q hn)]; exact q) fun c xs q => by rw [upd_ne (ne_of_none q hn)]; exact q
      rcases hc with z | z
      · rw [z]; exact nit b u e
      · exact nit c _ z
end
section
variable {X : Cx}
end
/-- range(i, j, c): small bounds, n items -/
def RgC (i j c : Int) (n : Nat) : Prop := c ≠ 0 ∧ c.natAbs < 1073741824 ∧ Builtin.Range.small i j c = true ∧ Builtin.Range.rangeSize i j c = n
theorem RgC.neg {i j : Int} (ha : -(2 ^ 62) ≤ i) (ha' : i < 2 ^ 62) (hb : -(2 ^ 62) ≤ j) (hb' : j < 2 ^ 62) : RgC i j (-1) (i - j).toNat :=
  ⟨by decide, by decide, PySem.W.small_down ha ha' hb hb', PySem.W.rangeSize_downNat i j⟩
section
variable {X : Cx} {tg : Expr}
end
section
variable {X : Cx} {tg : Expr}
end
section
variable {prog : Program} {w : World} {A : Around} {E : Value → Shared → Prop} {s : Shared}
end
section
variable {X : Cx} {pins : List (Addr × Obj)} {σ : St} {H : Hp} {s : Shared} {d : Addr} {o : Obj}
end
section
variable {P : Program} {w : World} {K : PySem.W.Frag} {tg : Expr} {d : Addr} {o : Obj} {es : Array DictEntry} {ep : Nat}
end
section
variable {X : Cx} {tg e : Expr} {td : TE} {apos cpos : Pos}
end
theorem boot_zip5 : bootBuiltins "zip" = some (.type "zip") := by decide +kernel
end L2
section 
namespace Bits
open PySem PyProof.Rows
end Bits
end 
section 
namespace TL
open PySem PySem.Builtin PySem.Builtin.Str PySem.StrLaws
abbrev tl (x : Str) : List Nat := x.cps.toList
/-- S stands at the head of l -/
def pre (S l : List Nat) : Bool := l.take S.length == S
/-- what stands before the first S, and behind it -/
def par (S : List Nat) : List Nat → List Nat → Option (List Nat × List Nat)
  | _, [] => none
  | acc, c :: r => if pre S (c :: r) = true then some (acc, (c :: r).drop S.length) else par S (acc ++ [c]) r
end TL
end 
namespace L2
open PySem PySem.Spec PyProof.Rows
section
variable {X : Cx} {pins : List (Addr × Obj)} {σ : St} {H : Hp} {s : Shared} {Q : VK}
end
section
variable {X : Cx}
end
section
variable {X : Cx} {o e : Expr} {to te : TE}
end
end L2
namespace L2
open PySem PySem.Spec PyProof.Rows
section
variable {X : Cx}
end
theorem IsPart.raw {v : Value} {o : Option Int} (p : IsPart v o) : ∃ l : Option (Int × Tok), v = partValue l ∧ l.map (·.1) = o := by
  cases p with
  | none => exact ⟨none, rfl, rfl⟩
  | int i t => exact ⟨some (i, t), rfl, rfl⟩
end L2
namespace Att
open PySem PySem.W PySem.Calls PyProof.Rows
theorem ints_of_wellAll {P : Params} {h : Heap} : ∀ (ns : List Int) (vs : List Value), WellAll P h vs (ns.map WData.int) → IntsAre vs ns := by
  intro ns
  induction ns with
  | nil =>
    intro vs w
    rw [List.map_nil] at w
    cases w
    exact .nil
  | cons n ns ih =>
    intro vs w
    rw [List.map_cons] at w
    cases w with
    | cons a b =>
      cases a
      exact .cons _ _ (ih _ b)
theorem script_of {l : OpenLaw} {n : Nat} (hn : l.most = some n) {P : Params} {h : Heap} {args : List WData} {vals : List Value}
    (hpre : l.row.toRowW.claim.pre args = true) (hwl : WellAll P h vals args) :
    ∃ a vs ns, vals = [Value.ref a] ∧ args = [WData.list (ns.map WData.int)] ∧ h.get? a = some { cls := .type "list", data := .seq vs.toArray } ∧ IntsAre vs ns ∧ ns.length ≤ n := by
  have hsh : WShape.hasAll [] args [.list .int] = true := (pre_splitW hpre).1
  have hc : l.pre.holds [] { args := args } = true := (pre_splitW hpre).2
  obtain ⟨d, r, rfl, h1, h2⟩ := hasAllW_cons hsh
  obtain rfl := hasAllW_nil h2
  obtain ⟨xs, rfl, h3⟩ := hasW_list h1
  obtain ⟨ns, rfl⟩ := items_int h3
  have hlen : ns.length ≤ n := by
    unfold OpenLaw.pre at hc
    have h4 : (WTm.not (.lt (.lit (.int (n : Int))) (.len (.arg 0)))).holds [] { args := [.list (ns.map .int)] } = true := by
      have h4 := (holds_andW hc).1
      rw [hn] at h4
      exact h4
    have h5 := condW_of h4 (w_not (w_lt w_lit (w_len_list (w_arg rfl))))
    rw [List.length_map] at h5
    refine Nat.le_of_not_lt fun q => ?_
    have q' : (n : Int) < ((ns.length : Nat) : Int) := by omega
    first
      | (rw [decide_eq_true q'] at h5; exact absurd h5 (by decide))
      | (simp at h5; omega)
  cases hwl with
  | cons w1 w2 =>
    cases w2
    cases w1 with
    | list ho hall => exact ⟨_, _, ns, rfl, rfl, ho, ints_of_wellAll ns _ hall, hlen⟩
theorem post_true (l : OpenLaw) (args : List WData) : l.row.toRowW.claim.post args (.bool true) args = true :=
  postW_of (r := l.row.toRowW) (X := (true == true))
    (show WShape.has [] (.bool true) .bool = true by first | rfl | decide | simp [WShape.has, WShape.arms, WShape.armsAll])
    (show (WTm.eq .res (.lit (.bool true))).value [] { args := args, res := some (.bool true), after := args } = some (.bool (true == true)) from w_eq_bool (w_res rfl) w_lit) rfl
section
variable {prog : Program} {w : World} {A : Around} {E : Value → Shared → Prop} {s : Shared} {K : Frag}
end
end Att
namespace L2
open PySem PySem.Spec PyProof.Rows
theorem vals_ints : ∀ {vs : List Value} {ns : List Int}, IntsAre vs ns → Vals (ns.map V.int) vs
  | _, _, .nil => .nil
  | _, _, .cons n t h => .cons ⟨t, rfl⟩ (vals_ints h)
/-- nothing is tracked but the script, known to the object (or it is an object of the module) -/
def Only (H : Hp) : Prop := ∀ b, H b = none ∨ ∃ o xs, H b = some (.frz o (.lst xs))
/-- THE HEAD: the law's promise, at the heap behind the top. F, the promise of the law's def, may use that base is part of the heap (so K.In base, base.Ns mainGlobals mg stand in Mod) -/
theorem law_call {P : Program} {w : World} {K : PySem.W.Frag} {mg mb : Str → Option Value} {CX : CXT} {k : Nat} {fa a : Addr} {fd : FuncData} {x : Str} {sp : Sp} {s₁ : Shared} {vs : List Value} {ns : List Int}
    (KX : K.In s₁.heap) (hns : s₁.heap.Ns mainGlobals mg) (hb : s₁.heap.Ns builtinsNs mb) (hbb : ∀ x : Str, x ≠ "__name__" → mb x = bootBuiltins x) (hlim : s₁.heap.NoLimit) (hg : s₁.gens = #[])
    (ha : s₁.heap.get? a = some { cls := .type "list", data := .seq vs.toArray }) (hi : IntsAre vs ns) (hl : ns.length ≤ sizeLine) (hr : Room k callerA)
    (F : ∀ base : Heap, K.In base → base.Ns mainGlobals mg → FnOk P w K mg base CX k fa fd [x] sp) (hbind : ∀ (s : Shared) (u : Value), BindsTo s fd ⟨[u], []⟩ [(x, u)])
    (hsp : ∀ H : Hp, Only H → SqL K H a (ns.map V.int) → sp [.ref a] H (fun v _ => v = .bl true) fun _ _ _ => False)
    (hCX : ∀ H e s', CX [] H s₁ (fun _ _ _ => False) e s' → False) :
    codeAny (model P w) callerA (.call (.ref fa) ⟨[.ref a], []⟩) (fun r s' => r = .ok (.ret (.bool true)) ∧ OldK s₁.heap s'.heap ∧ s'.os = s₁.os ∧ AllBare s'.gens) s₁ := by
  have rv := vals_ints hi
  have lenV := hi.length
  -- from an abstract heap in which nothing but the script may be tracked
  have core : ∀ H : Hp, Only H → SqL K H a (ns.map V.int) → HOk P w H s₁.heap → (∀ b, H b ≠ none → b = a) → (H a ≠ none → K.lookup a = none) →
      codeAny (model P w) callerA (.call (.ref fa) ⟨[.ref a], []⟩) (fun r s' => r = .ok (.ret (.bool true)) ∧ OldK s₁.heap s'.heap ∧ s'.os = s₁.os ∧ AllBare s'.gens) s₁ := by
    intro H hO hS hok hA hK
    have base_of : ∀ {b : Addr} {o : Obj}, s₁.heap.get? b = some o → H b = none → (hidT s₁.heap H).get? b = some o := fun e n => hidT_get e n
    have noA : ∀ {b : Addr} {o : Obj} {es : Array DictEntry} {ep : Nat}, s₁.heap.get? b = some o → o.data = .dict es ep → H b = none := fun {b o es ep} e d => by
      cases q : H b with
      | none => rfl
      | some u =>
        have e' : b = a := hA b (by rw [q]; simp)
        subst e'
        rw [ha] at e; cases e
        have d' : Data.seq vs.toArray _ = Data.dict es ep := d
        cases d'
    have nsK : ∀ {b : Addr} {m : Str → Option Value}, s₁.heap.Ns b m → (hidT s₁.heap H).Ns b m := fun {b m} ⟨o, es, ep, e, d, r⟩ => ⟨o, es, ep, base_of e (noA e d), d, r⟩
    have hKb : K.In (hidT s₁.heap H) := fun b o e => base_of (KX b o e) (by
      cases q : H b with
      | none => rfl
      | some u =>
        have e' : b = a := hA b (by rw [q]; simp)
        subst e'
        rw [hK (by rw [q]; simp)] at e; cases e)
    have hM : Mod K mg (hidT s₁.heap H) := ⟨hKb, nsK hns, ⟨mb, nsK hb, hbb⟩, let ⟨mc, h1, h2⟩ := hlim; ⟨mc, nsK h1, h2⟩⟩
    have e0 : Env0 P w K mg (hidT s₁.heap H) callerA [] s₁ H := ⟨rfl, hM, fun b o e => of_hidT e, Nat.le_of_eq (hidT_size _ _), trivial, fun b hb => absurd (show b ∈ ([] : List Addr) from hb) (by simp), hok, .of_eq hg⟩
    refine codeAny_mono ((F _ hKb (nsK hns)).run callerA [] s₁ H ⟨[.ref a], []⟩ [.ref a] [.ref a] _ _ hr e0 (hbind s₁ (.ref a)) (.cons rfl .nil) (hsp H hO hS)) fun r s' h => ?_
    cases r with
    | error e => exact (hCX H e s' h).elim
    | ok fl =>
      cases fl with
      | next => exact False.elim h
      | brk => exact False.elim h
      | cont => exact False.elim h
      | ret u =>
        obtain ⟨v, H', os, bare, un, hok', r', q⟩ := h
        have q' : v = .bl true := q
        subst q'
        obtain rfl : u = Value.bool true := r'
        refine ⟨rfl, OldK.of_keep fun b o e => ?_, os, bare.all⟩
        cases q : H b with
        | none => exact un.keep b o e q (by intro z; exact absurd (show b ∈ ([] : List Addr) from z) (by simp)) (by simp)
        | some u =>
          rcases hO b with z | ⟨ob, xs, z⟩
          · rw [q] at z; cases z
          · have z2 := un.frzs b ob _ z
            obtain ⟨e1, _⟩ := hok b _ z
            obtain ⟨e2, _⟩ := hok' b _ z2
            rw [e] at e1; cases e1
            exact e2
  cases hk : K.lookup a with
  | some o =>
    -- the script is one of the module's own objects
    have e := KX a o hk
    rw [ha] at e
    cases e
    refine core (fun _ => none) (fun _ => .inl rfl) (.inr ⟨_, vs.toArray, _, hk, rfl, rfl, rfl, by rw [List.size_toArray, lenV]; exact hl, by simpa using rv⟩) (fun b u z => by have z' : (none : Option HO) = some u := z; cases z') (fun b z => absurd rfl z) fun z => absurd rfl z
  | none =>
    refine core (fun b => if b = a then some (.frz { cls := .type "list", data := .seq vs.toArray } (.lst (ns.map V.int))) else none) (fun b => ?_) (.inl (.inr ⟨{ cls := .type "list", data := .seq vs.toArray }, if_pos rfl⟩)) (fun b u z => ?_) (fun b z => ?_) fun _ => hk
    · by_cases hb : b = a
      · exact .inr ⟨_, _, if_pos hb⟩
      · exact .inl (if_neg hb)
    · by_cases hb : b = a
      · have z' := (if_pos hb).symm.trans z
        cases z'
        subst hb
        exact ⟨ha, by rw [List.length_map]; exact hl, vs, _, rv, ha⟩
      · have z' := (if_neg hb).symm.trans z
        cases z'
    · by_cases hb : b = a
      · exact hb
      · exact absurd (if_neg hb) z
end L2
namespace L2
open PySem PySem.Spec PyProof.Rows
end L2
namespace L2
open PySem PySem.Spec PyProof.Rows
def defArgs (s : Stmt) : Arguments := match s with
  | .FunctionDef _ a _ _ _ _ _ _ _ _ => a
  | _ => { posonlyargs := [], args := [], vararg := none, kwonlyargs := [], kw_defaults := [], kwarg := none, defaults := [] }
def defBody (s : Stmt) : List Stmt := match s with
  | .FunctionDef _ _ b _ _ _ _ _ _ _ => b
  | _ => []
def defScope (s : Stmt) : Scope := match s with
  | .FunctionDef _ _ _ _ _ _ sc _ _ _ => sc
  | _ => { kind := .function, names := [], isGenerator := false, isCoroutine := false }
abbrev CX0 : CXT := fun _ _ _ _ _ _ => False
abbrev E0 : XK := fun _ _ _ => False
theorem pass0 {X : Cx} : Passes CX0 X E0 := fun _ _ _ _ _ _ _ h => h.elim
structure Fun (K : PySem.W.Frag) (x qual : Str) (st : Stmt) (f : Addr) (fd : FuncData) : Prop where
  ex : ∃ (oc : Value) (od : Option Addr) (kV doc pm : Value) (an : Option Addr) (cdv ct : Value) (osl : Array (Option Value)),
    fd = PySem.W.fnOf x qual (defArgs st) (defBody st) (defScope st) .none kV doc pm an cdv ct ∧ K.lookup f = some ⟨oc, od, .func fd, osl⟩ ∧ PySem.W.codeIn K cdv qual = true
  kp : PySem.W.keepIn K (.ref f) = true
section
variable {P : Program} {w : World} {K : PySem.W.Frag} {mg : Str → Option Value} {base : Heap}
/-- THE RULE for a def: its body as a term of rules, and the reading of that term -/
theorem Fun.ok {x qual : Str} {st : Stmt} {f : Addr} {fd : FuncData} {N ps : List Str} {k : Nat} {sp : Sp} (F : Fun K x qual st f fd) (S : FnScope N ps (defScope st)) (len : ∀ vs H Q E, sp vs H Q E → vs.length = ps.length)
    (hbody : ∀ (cdv : Value) (A : Around) (outer : List Env) (s : Shared) (H : Hp) (vs : List V) (Q : VK) (E : XK), Room k (A.deeper (envOfC qual (defScope st) s.heap.objs.size f cdv)) → sp vs H Q E →
      ∃ t, PSs (cxOf CX0 P w K mg base N qual (defScope st) f cdv A outer s H E).nox (defBody st) t ∧ t { nx := fun _ H' => Q .non H', rt := Q } (start N vs) H) : FnOk P w K mg base CX0 (k + 1) f fd ps sp := by
  obtain ⟨oc, od, kV, doc, pm, an, cdv, ct, osl, rfl, lk, hcd⟩ := F.ex
  refine fn_of lk hcd S len fun A outer s H vs Q E hr hsp => ?_
  obtain ⟨t, h, q⟩ := hbody cdv A outer s H vs Q E hr hsp
  exact ⟨t, h.nox, q⟩
/-- how its arguments bind (no defaults): h is «fun _ _ _ _ _ _ us hl => match us, hl with | [_, _], _ => rfl», one _ a parameter -/
theorem Fun.binds {x qual : Str} {st : Stmt} {f : Addr} {fd : FuncData} {ps : List Str} (F : Fun K x qual st f fd)
    (h : ∀ (kV doc pm : Value) (an : Option Addr) (cdv ct : Value) (us : List Value), us.length = ps.length → bindArgs (PySem.W.fnOf x qual (defArgs st) (defBody st) (defScope st) .none kV doc pm an cdv ct) ⟨us, []⟩ = pure (ps.zip us)) : Binds K fd ps [] := by
  obtain ⟨oc, od, kV, doc, pm, an, cdv, ct, osl, rfl, lk, hcd⟩ := F.ex
  exact .all (h kV doc pm an cdv ct)
theorem fun_mk {x qual : Str} {st : Stmt} {f : Addr} {oc : Value} {od an : Option Addr} {osl : Array (Option Value)} {kV doc pm cdv ct : Value} (l : K.lookup f = some ⟨oc, od, .func (PySem.W.fnOf x qual (defArgs st) (defBody st) (defScope st) .none kV doc pm an cdv ct), osl⟩)
    (c : PySem.W.codeIn K cdv qual = true) (k : PySem.W.keepIn K (.ref f) = true) : Fun K x qual st f (PySem.W.fnOf x qual (defArgs st) (defBody st) (defScope st) .none kV doc pm an cdv ct) := ⟨⟨oc, od, kV, doc, pm, an, cdv, ct, osl, rfl, l, c⟩, k⟩
end
theorem small1000 {n : Nat} (h : n ≤ 1000) : n < sizeLine := Nat.lt_of_le_of_lt h (by decide)
section
variable {X : Cx}
theorem pv (i : Nat) {x : Str} {pos : Pos} (hN : X.N[i]? = some x := by rfl) (hv : Vis X.env.scope x := by first | exact Or.inl rfl | exact Or.inr (Or.inl rfl) | exact Or.inr (Or.inr rfl)) (hd : (x == ("__debug__" : Str)) = false := by decide)
    (hcd : (x == ("__classdict__" : Str)) = false := by decide) : PE X (.Name x pos) (tVar i) := pe_var hN hv hd hcd
end
theorem iteF {A B : Prop} (h : B) : if false = true then A else B := by
  rw [if_neg Bool.false_ne_true]
  exact h
theorem iteT {A B : Prop} (h : A) : if true = true then A else B := by
  rw [if_pos rfl]
  exact h
theorem ite2 {c A B : Prop} [Decidable c] (h1 : c → A) (h2 : ¬ c → B) : if c then A else B := by
  by_cases h : c
  · rw [if_pos h]
    exact h1 h
  · rw [if_neg h]
    exact h2 h
/-- all that was tracked is as it was -/
def Same (H H' : Hp) : Prop := ∀ b o, H b = some o → H' b = some o
theorem Same.refl (H : Hp) : Same H H := fun _ _ h => h
theorem Same.trans {H H1 H2 : Hp} (a : Same H H1) (b : Same H1 H2) : Same H H2 := fun c o h => b c o (a c o h)
theorem Same.free {H H' : Hp} (e : Same H H') {l : Addr} (h : H' l = Option.none) : H l = Option.none := by
  cases q : H l with
  | none => rfl
  | some o =>
    rw [e l o q] at h
    cases h
theorem Same.seq {K : PySem.W.Frag} {H H' : Hp} {a : Addr} {xs : List V} (e : Same H H') (h : SqL K H a xs) : SqL K H' a xs := by
  rcases h with (h | ⟨o, h⟩) | h
  · exact .inl (.inl (e _ _ h))
  · exact .inl (.inr ⟨o, e _ _ h⟩)
  · exact .inr h
section
variable {κ : Type} [DecidableEq κ]
end
theorem at_of {xs : List V} {z : Int} {j : Nat} {v : V} (e : z = (j : Int)) (h : xs[j]? = some v) : atI xs z = some v := by
  rw [e]
  exact atI_nat h
/-- a new instance and its __init__ leave all that was tracked as it was -/
theorem Same.made {H H1 : Hp} {x dx C : Addr} (nx : H x = Option.none) (nd : H dx = Option.none) (k : ∀ b o, (upd (upd H dx (.own x)) x (.ins C dx [])) b = some o → b ≠ x → H1 b = some o) : Same H H1 := fun b o e =>
  k b o (by rw [upd_ne (ne_of_none e nx), upd_ne (ne_of_none e nd)]; exact e) (ne_of_none e nx)
end L2
set_option Elab.async false
set_option linter.all false
set_option maxRecDepth 100000
set_option maxHeartbeats 4000000
namespace L2
open PySem PySem.Spec PyProof.Rows
section
variable {X : Cx}
/-- xs[i], by values, any sign -/
theorem get_list : PGet X (rIxL X.K) := by
  intro pins s σ H o i ov iv Q I ro ri h
  obtain ⟨p, xs, k, z, rfl, rfl, hq, he, q⟩ := h
  cases ro
  obtain ⟨t, rfl⟩ := ri
  obtain ⟨its, r, pl, hz⟩ := I.list hq
  obtain ⟨j, h1, h2, h3, h4, h5⟩ := atI_get he
  obtain ⟨w, ew, rw'⟩ := r.get h2
  have hl := r.length
  have hn := line63
  have fin : EP X pins σ Q w s := ⟨z, H, I, rw', q⟩
  by_cases h0 : 0 ≤ k
  · have hj : k.toNat = j := by
      rw [seqIndex_of h0 h5] at h1
      exact Option.some.inj h1
    exact wpAny_getItem_list pl.isList h0 (by omega) (by rw [hj]; simpa using ew) fin
  · have hj : (k + (its.toArray.size : Int)).toNat = j := by
      rw [seqIndex_neg (by omega) h4] at h1
      rw [List.size_toArray, ← hl]
      exact Option.some.inj h1
    exact wpAny_getItem_list_neg pl.isList (by omega) (by rw [List.size_toArray] <;> omega) (by omega) (by rw [hj]; simpa using ew) fin
end
def SameBut (k : Addr) (H H' : Hp) : Prop := ∀ b o, H b = some o → b ≠ k → H' b = some o
theorem SameBut.refl {k : Addr} {H : Hp} : SameBut k H H := fun _ _ h _ => h
theorem SameBut.trans {k : Addr} {H H1 H2 : Hp} (a : SameBut k H H1) (b : SameBut k H1 H2) : SameBut k H H2 := fun c o h e => b c o (a c o h e) e
theorem SameBut.upd {k : Addr} {H : Hp} {o : HO} : SameBut k H (upd H k o) := fun b u h e => by rw [upd_ne e]; exact h
theorem SameBut.new {k p : Addr} {H : Hp} {o : HO} (h : H p = none) : SameBut k H (L2.upd H p o) := fun b u q e => by rw [upd_ne (ne_of_none q h)]; exact q
theorem Same.but {k : Addr} {H H' : Hp} (h : Same H H') : SameBut k H H' := fun b o e _ => h b o e
theorem same_new {H : Hp} {p : Addr} (h : H p = none) (o : HO) : Same H (upd H p o) := fun b u q => by rw [upd_ne (ne_of_none q h)]; exact q
theorem at_lt {xs : List V} {i : Int} (h0 : 0 ≤ i) (h1 : i < (xs.length : Int)) : ∃ v, v ∈ xs ∧ atI xs i = some v := by
  have h2 : i.toNat < xs.length := by omega
  refine ⟨xs[i.toNat], List.getElem_mem h2, at_of (j := i.toNat) (by omega) (List.getElem?_eq_getElem h2)⟩
/-- a block cut behind its first statement: R is what is known there -/
theorem seq_cut {t u : TS} {D : Ends} {σ : St} {H : Hp} (R : St → Hp → Prop) (h1 : ∀ nx : St → Hp → Prop, (∀ σ' H', R σ' H' → nx σ' H') → t { D with nx := nx } σ H) (h2 : ∀ σ' H', R σ' H' → u D σ' H') : tSeq t u D σ H := h1 (u D) h2
theorem iteB {c : Bool} {A B : Prop} (h1 : c = true → A) (h2 : c = false → B) : if c = true then A else B := by
  cases c with
  | true => rw [if_pos rfl]; exact h1 rfl
  | false => rw [if_neg Bool.false_ne_true]; exact h2 rfl
end L2
set_option Elab.async false
set_option linter.all false
set_option maxRecDepth 100000
set_option maxHeartbeats 4000000
namespace L2
open PySem PySem.Spec PyProof.Rows
section
variable {X : Cx}
/-- isinstance(x, T), T one built-in class -/
theorem call_isi : CallR X (.builtin "isinstance") (fun xs H Q => ∃ x T t b, xs = [x, .ty T] ∧ TyOf X.K H x t ∧ PySem.W.kitOne X.K t (.type T) = some b ∧ Q (.bl b) H) := by
  intro pins s σ H xs us Q I r h
  obtain ⟨x, T, t, b, rfl, ty, e, q⟩ := h
  obtain ⟨u, w', rfl, rx, ry⟩ := vals2 r
  cases ry
  exact isinst_ok I rx ty e fun tk => ⟨.bl b, H, I.tok _, rfl, q⟩
/-- str(x) of a text or a number -/
def StrV : V → Str → Prop
  | .int i, y => i.natAbs.log2 < 1920 ∧ y = toString i
  | .str x, y => y = x
  | _, _ => False
abbrev TF := Str → St → Hp → VK → Prop
def PF (X : Cx) (es : List Expr) (t : TF) : Prop :=
  ∀ ⦃pins : List (Addr × Obj)⦄ (out : Str) (s : Shared) (σ : St) (H : Hp) (Q : VK), Inv X pins σ H s → t out σ H Q → wpAny (model X.prog X.w) X.A (joinParts out (evalEach es X.env)) (EP X pins σ Q) X.xe s
theorem pf_nil : PF X [] (fun out _ H Q => out.length ≤ sizeLine ∧ Q (.str out) H) := fun pins out s σ H Q I h => joinParts_nil ⟨.str out, H, I.tok _, ⟨_, rfl⟩, h.2⟩ h.1
theorem pf_str {a : Str} {j : Nat} {p : Pos} {es : List Expr} {t : TF} (h : PF X es t) : PF X (.Constant (.str a) j p :: es) (fun out σ H Q => (out ++ a).length ≤ sizeLine ∧ t (out ++ a) σ H Q) := by
  intro pins out s σ H Q I q
  refine joinParts_cons ?_
  refine thn (pe_str (X := X) s σ H (fun v H' => v = .str a ∧ H' = H) I ⟨rfl, rfl⟩) fun u s1 ⟨v, H1, I1, r1, e1, e2⟩ => ?_
  subst e1 e2
  obtain ⟨t', rfl⟩ := r1
  exact ⟨q.1, h _ s1 σ H1 Q I1 q.2⟩
theorem pf_fmt {e : Expr} {te : TE} {p : Pos} {es : List Expr} {t : TF} (he : PE X e te) (h : PF X es t) :
    PF X (.FormattedValue e (-1) none p :: es) (fun out σ H Q => te σ H fun x H1 => ∃ y : Str, StrV x y ∧ y.length ≤ sizeLine ∧ (out ++ y).length ≤ sizeLine ∧ t (out ++ y) σ H1 Q) := by
  intro pins out s σ H Q I q
  refine joinParts_cons (FormattedValue_plain ?_)
  refine thn (he s σ H _ I q) fun u s1 ⟨x, H1, I1, r1, y, hy, hl, hz, qq⟩ => ?_
  cases x with
  | int i =>
    obtain ⟨hd, rfl⟩ := hy
    obtain ⟨t', rfl⟩ := r1
    exact formatField_int_small hd ⟨hz, h _ _ σ H1 Q (I1.tok _) qq⟩
  | str z =>
    have e : y = z := hy
    subst e
    obtain ⟨t', rfl⟩ := r1
    exact formatField_str (fun t2 tk => ⟨hz, h _ _ σ H1 Q (I1.tok _) qq⟩) hl
  | _ => exact hy.elim
theorem pe_fstr {v1 v2 : Expr} {rest : List Expr} {pos : Pos} {t : TF} (h : PF X (v1 :: v2 :: rest) t) : PE X (.JoinedStr (v1 :: v2 :: rest) pos) (fun σ H Q => t Str.empty σ H Q) := fun pins s σ H Q I q => JoinedStr_many (h _ s σ H Q I q)
end
end L2
set_option Elab.async false
set_option linter.all false
set_option maxRecDepth 100000
set_option maxHeartbeats 4000000
namespace L2
open PySem PySem.Spec PyProof.Rows
namespace SA
open PySem.SeqAt
theorem forList {β : Type} {M : Model} {A : Around} {E : Value → Shared → Prop} {f : Nat → β → Sem (ForInStep β)} (I : Nat → β → Shared → Prop) {Q : β → Shared → Prop} {n : Nat} :
    ∀ (m i : Nat), i + m = n → (∀ i c s, i < n → I i c s → wpAny M A (f i c) (fun r s' => match r with | .done c' => Q c' s' | .yield c' => I (i + 1) c' s') E s) → (∀ c s, I n c s → Q c s) →
      ∀ (c : β) (s : Shared), I i c s → wpAny M A (forIn (List.range' i m 1) c f) Q E s
  | 0, i, e, _, hend, c, s, h => by
    have : i = n := by omega
    subst this
    rw [List.range'_zero, List.forIn_nil]
    exact wpAny_pure (hend c s h)
  | m + 1, i, e, hstep, hend, c, s, h => by
    rw [List.range'_succ, List.forIn_cons]
    refine wpAny_bind (wpAny_mono (hstep i c s (by omega) h) (fun r s' h' => ?_) fun _ _ x => x)
    cases r with
    | done c' => exact wpAny_pure h'
    | yield c' => exact forList I m (i + 1) (by omega) hstep hend c' s' h'
theorem forRange {β : Type} {M : Model} {A : Around} {E : Value → Shared → Prop} {f : Nat → β → Sem (ForInStep β)} {n : Nat} (I : Nat → β → Shared → Prop) {Q : β → Shared → Prop}
    (turn : ∀ i c s, i < n → I i c s → wpAny M A (f i c) (fun r s' => match r with | .done c' => Q c' s' | .yield c' => I (i + 1) c' s') E s) (fin : ∀ c s, I n c s → Q c s) {c : β} {s : Shared} (h : I 0 c s) : wpAny M A (forIn [0:n] c f) Q E s := by
  rw [Std.Legacy.Range.forIn_eq_forIn_range']
  have hsz : ([0:n] : Std.Legacy.Range).size = n := by simp [Std.Legacy.Range.size]
  show wpAny M A (forIn (List.range' 0 ([0:n] : Std.Legacy.Range).size 1) c f) Q E s
  rw [hsz]
  exact forList I n 0 (by omega) turn fin c s h
theorem tuple_indexAt (l : Addr) (items : Array Value) (n : Nat) (dd : Option Addr) (sl : Array (Option Value)) (x : Value) (e : Value → Bool) (j : Nat) (hj : j < items.size)
    (hit : e items[j] = true) (hno : ∀ m (hm : m < items.size), m < j → e items[m] = false) :
    Meets (Builtin.«tuple.index» ⟨[.ref l, x], []⟩)
      (fun A R s => s.heap.get? l = some { cls := .type "tuple", dict := dd, data := .seq items n, slots := sl } ∧ (∀ y, y ∈ items → EqAt A.in1 s y x (e y)) ∧ R (.ok (.ret (.int j s.toks))) { s with toks := s.toks + 1 }) :=
  .of_wp fun prog w A R s h => by
    obtain ⟨hp, g, d, tk, os⟩ := s; obtain ⟨hl, he, h⟩ := h
    wp_walk using wpAny_loadPart' hl, forRange (n := min items.size items.size) (fun i b s' => b.1 = none ∧ s' = ⟨hp, g, d, tk, os⟩ ∧ i ≤ j)
    case turn =>
      rintro i ⟨b1, b2⟩ s' hi ⟨hb, rfl, hij⟩
      rw [Nat.min_self] at hi
      have e1 : items[i]? = some items[i] := by simp [hi]
      simp only [e1]
      refine wpAny_bind (he _ (Array.getElem_mem hi) prog w _ _ ?_)
      by_cases ej : i = j
      · subst ej
        rw [hit]
        wp_walk
        exact ⟨_, rfl, h⟩
      · rw [hno i hi (by omega)]
        wp_walk
        exact ⟨rfl, rfl, by omega⟩
    case fin =>
      rintro ⟨b1, b2⟩ s' ⟨hb, rfl, hij⟩
      rw [Nat.min_self] at hij
      omega
    case h => exact ⟨rfl, rfl, Nat.zero_le _⟩
end SA
section
variable {X : Cx}
/-- t.index(y) of a tuple of flat items -/
def rIndexT (K : PySem.W.Frag) : V → List V → Hp → VK → Prop := fun x xs H Q => ∃ (a : Addr) (ys : List V) (y : V) (j : Nat) (z : V), x = V.ref a ∧ xs = [y] ∧ SqT K H a ys ∧ flatV y = true ∧ ys.all flatV = true ∧ ys[j]? = some z ∧ eqV z y = true ∧
  (∀ (m : Nat) (z' : V), m < j → ys[m]? = some z' → eqV z' y = false) ∧ Q (.int (j : Nat)) H
theorem mt_indexT : MtR X "tuple.index" (rIndexT X.K) := by
  intro pins s σ H x xs v us Q I rx rxs h
  obtain ⟨a, ys, y, j, z, rfl, rfl, hs, fy, fys, hz, hzj, hno, q⟩ := h
  cases rx
  cases rxs with
  | cons ry rt =>
    rename_i uy ut
    cases rt
    obtain ⟨its, rv, ⟨⟨cls, dd, data, sl⟩, ho, hc, n, hd⟩, hlen⟩ := I.tuple hs
    simp only at hc hd
    subst hc hd
    obtain ⟨u, hu, ru⟩ := rv.get hz
    obtain ⟨hjl, hje⟩ := List.getElem?_eq_some_iff.mp hu
    have hvl := rv.length
    have hj : j < its.toArray.size := by simpa using hjl
    refine call_meets PySem.F.slot_tuple_index ⟨_, ho, rfl⟩ PySem.F.entry_tuple_index (PySem.F.args_tuple_index_2 _ _)
      (SA.tuple_indexAt a its.toArray n dd sl uy (eqU y) j hj ?_ ?_) ⟨ho, fun u' hu' => mem_eqAt ry fy rv fys u' (by simpa using hu'), ?_⟩
    · have e1 : its.toArray[j] = u := by simpa using hje
      rw [e1, eqU_of ru (flat_at fys hz)]
      exact hzj
    · intro m hm hmj
      have hml : m < its.length := by simpa using hm
      have hmy : m < ys.length := by omega
      have hy' : ys[m]? = some ys[m] := List.getElem?_eq_getElem hmy
      obtain ⟨u2, hu2, ru2⟩ := rv.get hy'
      obtain ⟨_, hme⟩ := List.getElem?_eq_some_iff.mp hu2
      have e1 : its.toArray[m] = u2 := by simpa using hme
      rw [e1, eqU_of ru2 (flat_at fys hy')]
      exact hno m _ hmj hy'
    · exact ⟨.int j, H, I.tok _, ⟨_, rfl⟩, q⟩
end
end L2
set_option Elab.async false
set_option linter.all false
set_option maxRecDepth 100000
set_option maxHeartbeats 4000000
namespace L2
open PySem PySem.Spec PyProof.Rows
section
variable {X : Cx} {CX : CXT} {k : Nat} {f : Addr} {fd : FuncData} {ps ks : List Str} {sp : Sp} {E : XK} {x : Str} {p pos : Pos} {kws : List Keyword} {tk : TA} {g : List Value → List Value → List Value} {gV : List V → List V → List V}
end
end L2
set_option Elab.async false
set_option linter.all false
set_option maxRecDepth 100000
set_option maxHeartbeats 4000000
namespace L2
open PySem PySem.Spec PyProof.Rows
section
variable {X : Cx}
/-- a list + a list, read alone -/
theorem op_catS : OpR X (binaryOp .Add) (fun x y H Q => ∃ l b xs zs, x = .ref l ∧ y = .ref b ∧ SqL X.K H l xs ∧ SqL X.K H b zs ∧ xs.length + zs.length ≤ sizeLine ∧ ∀ p, H p = none → Q (.ref p) (upd H p (.lst (xs ++ zs)))) := by
  intro pins s σ H x y v u Q I rx ry h
  obtain ⟨l, b, xs, zs, rfl, rfl, hH, hB, hz, q⟩ := h
  cases rx
  cases ry
  obtain ⟨its, r, p1, _⟩ := I.list hH
  obtain ⟨its2, r2, p2, _⟩ := I.list hB
  have z1 := r.length
  have z2 := r2.length
  obtain ⟨⟨c1, d1, da1, s1⟩, ho1, hc1, n1, hd1⟩ := p1.isList
  obtain ⟨⟨c2, d2, da2, s2⟩, ho2, hc2, n2, hd2⟩ := p2.isList
  simp only at hc1 hd1 hc2 hd2
  subst hc1 hd1 hc2 hd2
  have ea : its.toArray ++ its2.toArray = (its ++ its2).toArray := by simp
  refine concat_meets ⟨_, ho1, rfl⟩ ⟨_, ho2, rfl⟩ noFill_list_add seq_list_add F.slot_list_add F.entry_list_add (F.args_list_add_2 _ _) (list_addW l b its.toArray its2.toArray n1 n2 d1 d2 s1 s2 (by simp; omega)) ⟨ho1, ho2, ?_⟩
  rw [ea]
  exact ⟨.ref _, _, I.lnew (t' := s.toks) (r.append r2) (by rw [List.length_append]; omega), rfl, q _ I.fresh⟩
end
end L2
set_option Elab.async false
set_option linter.all false
set_option maxRecDepth 100000
set_option maxHeartbeats 4000000
namespace PyProof.Rows.GX
open PySem PySem.W PyProof.Rows PyProof.Rows.G
section
variable {prog : Program} {w : World} {A : Around} {E : Value → Shared → Prop} {s : Shared} {a kS : Addr} {e e1 : Nat} {keys : Array Value} {vs : List Value} {shape : Nat → Bool} {fs : List Value} {P : PySem.Fin → Shared → Prop}
end
end PyProof.Rows.GX
set_option Elab.async false
set_option linter.all false
set_option maxRecDepth 100000
set_option maxHeartbeats 4000000
namespace L2
open PySem PySem.Spec PyProof.Rows
section
variable {X : Cx} {pins : List (Addr × Obj)} {σ : St} {H : Hp} {s : Shared} {h' : Heap}
end
abbrev KVt := Int × List Nat
def KeysAt (H : Hp) : List Value → List KVt → Prop := Paired fun u kv => ∃ t x, u = Value.ref t ∧ H t = some (.tup [.int kv.1, .str x]) ∧ kv.2 = x.cps.toList
theorem KeysAt.keep {H H' : Hp} (h : Same H H') : ∀ {us : List Value} {ks : List KVt}, KeysAt H us ks → KeysAt H' us ks
  | _, _, .nil => .nil
  | _, _, .cons ⟨t, x, e1, e2, e3⟩ r => .cons ⟨t, x, e1, h _ _ e2, e3⟩ (KeysAt.keep h r)
theorem KeysAt.snoc {H : Hp} {u : Value} {kv : KVt} (h : ∃ t x, u = Value.ref t ∧ H t = some (.tup [.int kv.1, .str x]) ∧ kv.2 = x.cps.toList) : ∀ {us : List Value} {ks : List KVt}, KeysAt H us ks → KeysAt H (us ++ [u]) (ks ++ [kv])
  | _, _, .nil => .cons h .nil
  | _, _, .cons a r => .cons a (KeysAt.snoc h r)
theorem KeysAt.length {H : Hp} {us : List Value} {ks : List KVt} (h : KeysAt H us ks) : us.length = ks.length := Paired.length h
section
variable {X : Cx} {pins : List (Addr × Obj)} {σ : St} {H : Hp} {s : Shared}
end
end L2
set_option Elab.async false
set_option linter.all false
set_option maxRecDepth 100000
set_option maxHeartbeats 4000000
namespace L2
open PySem PySem.Spec PyProof.Rows
section
variable {X : Cx} {pins : List (Addr × Obj)} {σ : St} {H : Hp} {s : Shared}
end
end L2
set_option Elab.async false
set_option linter.all false
set_option maxRecDepth 100000
set_option maxHeartbeats 4000000
namespace PySem
namespace ZT
open Sem (wp)
section
variable {prog : Program} {w : World} {A : Around} {EE : Value → Shared → Prop} {s : Shared}
theorem nxT_item {it l : Addr} {i : Nat} {items} {x : Value} {QQ : Value → Shared → Prop} (hit : s.heap.IsTupleIter it l i)
    (hl : s.heap.IsTuple l items) (hx : items[i]? = some x)
    (hQQ : ∀ h', h'.IsTupleIter it l (i + 1) → Heap.SameBut it s.heap h' → QQ x { s with heap := h' }) :
    wpAny (model prog w) A (Builtin.SmallTypes.nextOf (.ref it)) QQ EE s := by
  obtain ⟨o, hoo, hc, hdd⟩ := id hit
  obtain ⟨ol, hol, _, nl, hdl⟩ := hl
  unfold Builtin.SmallTypes.nextOf
  refine wpAny_bind (wpAny_callSpecial?_slot (name := Str.ofString "__next__") hit.typeIs F.slot_tuple_iterator_next
    (wpAny_call_entry F.slot_tuple_iterator_next hit.typeIs F.entry_tuple_iterator_next ?_ (F.args_tuple_iterator_next_1 _)))
  show wpAny _ _ (field (.ref it) 0 >>= _) _ _ s
  refine wpAny_bind (wpAny_field hoo hdd (x := .ref l) rfl ?_)
  show wpAny _ _ (if (Value.ref l == Value.none) = true then _ else _) _ _ s
  rw [if_neg (show ¬ ((Value.ref l == Value.none) = true) from Bool.false_ne_true)]
  show wpAny _ _ (field (.ref it) 1 >>= _) _ _ s
  refine wpAny_bind (wpAny_field hoo hdd (x := .int i 0) rfl ?_)
  show wpAny _ _ (seqItems? (.ref l) >>= _) _ _ s
  refine wpAny_bind (wpAny_seqItems hol hdl ?_)
  simp only [Int.toNat_natCast, hx]
  refine wpAny_bind (wpAny_setField hoo hdd (by simp) (wpAny_pure ⟨x, rfl, wpAny_pure (hQQ _ ?_ (Heap.SameBut.update ..))⟩))
  exact ⟨_, Heap.get?_update_self _ hoo (Obj.isFreed_of_fields (Obj.data_mapFields hdd _)), (Obj.cls_mapFields ..).trans hc, by
    rw [Obj.data_mapFields hdd]; simp [rawInt]⟩
theorem nxT_end {it l : Addr} {i : Nat} {items} {QQ : Value → Shared → Prop} (hh : A.handled = none)
    (hit : s.heap.IsTupleIter it l i) (hl : s.heap.IsTuple l items) (hx : items[i]? = none)
    (hEE : ∀ h' e, Heap.ExtBut it s.heap h' → (∃ o, h'.get? e = some o ∧ o.cls = .type "StopIteration") → EE (.ref e) { s with heap := h' }) :
    wpAny (model prog w) A (Builtin.SmallTypes.nextOf (.ref it)) QQ EE s := by
  obtain ⟨o, hoo, hc, hdd⟩ := id hit
  obtain ⟨ol, hol, _, nl, hdl⟩ := hl
  unfold Builtin.SmallTypes.nextOf
  refine wpAny_bind (wpAny_callSpecial?_slot (name := Str.ofString "__next__") hit.typeIs F.slot_tuple_iterator_next
    (wpAny_call_entry F.slot_tuple_iterator_next hit.typeIs F.entry_tuple_iterator_next ?_ (F.args_tuple_iterator_next_1 _)))
  show wpAny _ _ (field (.ref it) 0 >>= _) _ _ s
  refine wpAny_bind (wpAny_field hoo hdd (x := .ref l) rfl ?_)
  show wpAny _ _ (if (Value.ref l == Value.none) = true then _ else _) _ _ s
  rw [if_neg (show ¬ ((Value.ref l == Value.none) = true) from Bool.false_ne_true)]
  show wpAny _ _ (field (.ref it) 1 >>= _) _ _ s
  refine wpAny_bind (wpAny_field hoo hdd (x := .int i 0) rfl ?_)
  show wpAny _ _ (seqItems? (.ref l) >>= _) _ _ s
  refine wpAny_bind (wpAny_seqItems hol hdl ?_)
  simp only [Int.toNat_natCast, hx]
  refine wpAny_bind (wpAny_rule (wpAny_bind (wpAny_setField hoo hdd (by simp) ?_)))
  show wpAny _ _ (newExc (.type "StopIteration") [] >>= _) _ _ _
  refine wpAny_bind ?_
  simp only [newExc, newTuple]
  refine wpAny_bind (wpAny_newObj_type ?_ (by size_fits))
  refine wpAny_bind (m := firstArgMember _ _) (wpAny_of_eq (a := Value.none) (by first | rfl | (simp only [firstArgMember]; rfl)) ?_)
  refine wpAny_newObj_type ?_ (by size_fits)
  simp only [raiseNew]
  refine wpAny_bind (wpAny_handled ?_)
  first | rw [show A.in1.handled = none from hh] | rw [hh]
  refine wpAny_bind (wpAny_pure (wpAny_throw ?_))
  exact hEE _ _ (((Heap.SameBut.update ..).extBut.push _).push _) ⟨_, Heap.get?_push_size _ rfl, rfl⟩
theorem zpT_item {z TI TO i1 i2 l1 l2 : Addr} {k1 k2 : Nat} {xs ys : Array Value} {x y a b : Value} {QQ : Value → Shared → Prop} (D : ZipApart z TI TO i1 i2 l1 l2)
    (hz : IsZip s.heap z TI TO .none) (hti : IsPair s.heap TI (.ref i1) (.ref i2)) (hto : IsPair s.heap TO a b)
    (h1 : s.heap.IsTupleIter i1 l1 k1) (h2 : s.heap.IsTupleIter i2 l2 k2) (hl1 : s.heap.IsTuple l1 xs) (hl2 : s.heap.IsTuple l2 ys) (hx : xs[k1]? = some x) (hy : ys[k2]? = some y)
    (hQQ : ∀ h', IsZip h' z TI TO (rawInt s.heap.objs.size) → IsPair h' TO x y → h'.IsTupleIter i1 l1 (k1 + 1) → h'.IsTupleIter i2 l2 (k2 + 1) → IsPair h' s.heap.objs.size x y → h'.objs.size = s.heap.objs.size + 1 →
      (∀ c o, c ≠ z → c ≠ TO → c ≠ i1 → c ≠ i2 → s.heap.get? c = some o → h'.get? c = some o) → QQ (.ref s.heap.objs.size) { s with heap := h' }) :
    wpAny (model prog w) A (Builtin.«zip.__next__» ⟨[.ref z], []⟩) (fun fin s' => ∃ v, fin = .done (.ret v) ∧ QQ v s') EE s := by
  show wpAny _ _ (field (.ref z) 2 >>= _) _ _ _
  refine wpAny_bind (wpAny_field hz rfl (x := .bool false) rfl ?_)
  show wpAny _ _ (field (.ref z) 3 >>= _) _ _ _
  refine wpAny_bind (wpAny_field hz rfl (x := .ref TI) rfl ?_)
  refine wpAny_bind (wpAny_seqItems hti rfl ?_)
  show wpAny _ _ (Builtin.SmallTypes.ownedTupleIsFree (.ref z) >>= _) _ _ _
  refine wpAny_bind ?_
  unfold Builtin.SmallTypes.ownedTupleIsFree
  refine wpAny_bind (wpAny_field hz rfl (x := .none) rfl (wpAny_pure ?_))
  simp only [if_true]
  refine wpAny_bind (wpAny_rule ?_)
  refine wpAny_bind (wpAny_field hz rfl (x := .ref TO) rfl ?_)
  refine wpAny_bind (wpAny_setField_rec hz (by simp) fun ga hza hsa => ?_)
  replace hza : IsZip ga z TI TO .ellipsis := hza
  refine wpAny_bind ?_
  simp only [List.zipIdx_cons, List.zipIdx_nil, List.forIn_cons, List.forIn_nil]
  refine wpAny_bind (wpAny_bind (wpAny_onRaise ?_))
  show wpAny _ _ (Builtin.SmallTypes.nextOf (.ref i1) >>= _) _ _ _
  refine wpAny_bind (nxT_item (h1.extBut hsa.extBut D.i1z) (hl1.extBut hsa.extBut D.l1z) hx fun gb h1b hsb => wpAny_pure ?_)
  have htob : IsPair gb TO a b := hsb.extBut _ _ D.TOi1 (hsa.extBut _ _ D.TOz hto)
  refine wpAny_bind (wpAny_seqItems htob rfl ?_)
  refine wpAny_bind (wpAny_updateSeq_pair htob fun gc htoc hsc => ?_)
  replace htoc : IsPair gc TO x b := htoc
  refine wpAny_bind (wpAny_letGo (wpAny_pure ?_))
  refine wpAny_bind (wpAny_bind (wpAny_onRaise ?_))
  show wpAny _ _ (Builtin.SmallTypes.nextOf (.ref i2) >>= _) _ _ _
  refine wpAny_bind (nxT_item (((h2.extBut hsa.extBut D.i2z).extBut hsb.extBut D.i12.symm).extBut hsc.extBut D.TOi2.symm)
    (((hl2.extBut hsa.extBut D.l2z).extBut hsb.extBut D.l2i1).extBut hsc.extBut D.l2TO) hy fun gd h2d hsd => wpAny_pure ?_)
  have htod : IsPair gd TO x b := hsd.extBut _ _ D.TOi2 htoc
  refine wpAny_bind (wpAny_seqItems htod rfl ?_)
  refine wpAny_bind (wpAny_updateSeq_pair htod fun ge htoe hse => ?_)
  replace htoe : IsPair ge TO x y := htoe
  refine wpAny_bind (wpAny_letGo (wpAny_pure (wpAny_pure ?_)))
  refine wpAny_bind (wpAny_seqItems htoe rfl ?_)
  refine wpAny_bind (wpAny_newTuple ?_)
  have hsz : ge.objs.size = s.heap.objs.size := by rw [hse.1, hsd.1, hsc.1, hsb.1, hsa.1]
  have hze : IsZip ge z TI TO .ellipsis := hse.extBut _ _ D.TOz.symm (hsd.extBut _ _ D.i2z.symm (hsc.extBut _ _ D.TOz.symm (hsb.extBut _ _ D.i1z.symm hza)))
  have hkke : ∀ c o, c ≠ z → c ≠ TO → c ≠ i1 → c ≠ i2 → s.heap.get? c = some o → ge.get? c = some o := fun c o c1 c2 c3 c4 e =>
    hse.extBut _ _ c2 (hsd.extBut _ _ c4 (hsc.extBut _ _ c2 (hsb.extBut _ _ c3 (hsa.extBut _ _ c1 e))))
  have h1e : ge.IsTupleIter i1 l1 (k1 + 1) := ((h1b.extBut hsc.extBut D.TOi1.symm).extBut hsd.extBut D.i12).extBut hse.extBut D.TOi1.symm
  have h2e : ge.IsTupleIter i2 l2 (k2 + 1) := h2d.extBut hse.extBut D.TOi2.symm
  have hzlt : z < ge.objs.size := Heap.lt_size hze
  have htolt : TO < ge.objs.size := Heap.lt_size htoe
  have hi1lt : i1 < ge.objs.size := by obtain ⟨_, e, _⟩ := h1e; exact Heap.lt_size e
  have hi2lt : i2 < ge.objs.size := by obtain ⟨_, e, _⟩ := h2e; exact Heap.lt_size e
  show wpAny _ _ (Builtin.SmallTypes.ownedTupleHandOut (.ref z) (.ref ge.objs.size) >>= _) _ _ _
  refine wpAny_bind ?_
  unfold Builtin.SmallTypes.ownedTupleHandOut
  have hzf : IsZip (ge.push { cls := .type "tuple", data := .seq #[x, y] }) z TI TO .ellipsis := Heap.get?_push_of_some _ hze
  refine wpAny_bind (wpAny_setField_rec hzf (by simp) fun gg hzg hsg => ?_)
  replace hzg : IsZip gg z TI TO (rawInt ge.objs.size) := hzg
  refine wpAny_setField_rec hzg (by simp) fun gh hzh hsh => ?_
  replace hzh : IsZip gh z TI TO (rawInt ge.objs.size) := hzh
  have up : ∀ c o, c ≠ z → ge.get? c = some o → gh.get? c = some o := fun c o c1 e => hsh.extBut _ _ c1 (hsg.extBut _ _ c1 (Heap.get?_push_of_some _ e))
  have hTh : IsPair gh ge.objs.size x y := hsh.extBut _ _ (Nat.ne_of_gt hzlt) (hsg.extBut _ _ (Nat.ne_of_gt hzlt) (Heap.get?_push_size _ rfl))
  have hz8 : gh.objs.size = ge.objs.size + 1 := by rw [hsh.1, hsg.1, Heap.size_push]
  rw [hsz] at hzh hTh hz8
  refine wpAny_pure ⟨_, rfl, ?_⟩
  show QQ (.ref ge.objs.size) _
  rw [hsz]
  exact hQQ gh hzh (up _ _ D.TOz htoe) (h1e.at fun o e => up _ o D.i1z e) (h2e.at fun o e => up _ o D.i2z e) hTh hz8 fun c o c1 c2 c3 c4 e => up c o c1 (hkke c o c1 c2 c3 c4 e)
theorem zpT_end {z TI TO i1 i2 l1 l2 : Addr} {k1 k2 : Nat} {xs ys : Array Value} {a b : Value} {QQ : Fin → Shared → Prop} (hh : A.handled = none) (D : ZipApart z TI TO i1 i2 l1 l2)
    (hz : IsZip s.heap z TI TO .none) (hti : IsPair s.heap TI (.ref i1) (.ref i2)) (hto : IsPair s.heap TO a b)
    (h1 : s.heap.IsTupleIter i1 l1 k1) (h2 : s.heap.IsTupleIter i2 l2 k2) (hl1 : s.heap.IsTuple l1 xs) (hl2 : s.heap.IsTuple l2 ys) (hend : xs[k1]? = none ∨ ys[k2]? = none)
    (hEE : ∀ h' e, (∀ c o, c ≠ z → c ≠ TO → c ≠ i1 → c ≠ i2 → s.heap.get? c = some o → h'.get? c = some o) → (∃ o, h'.get? e = some o ∧ o.cls = .type "StopIteration") → EE (.ref e) { s with heap := h' }) :
    wpAny (model prog w) A (Builtin.«zip.__next__» ⟨[.ref z], []⟩) QQ EE s := by
  show wpAny _ _ (field (.ref z) 2 >>= _) _ _ _
  refine wpAny_bind (wpAny_field hz rfl (x := .bool false) rfl ?_)
  show wpAny _ _ (field (.ref z) 3 >>= _) _ _ _
  refine wpAny_bind (wpAny_field hz rfl (x := .ref TI) rfl ?_)
  refine wpAny_bind (wpAny_seqItems hti rfl ?_)
  show wpAny _ _ (Builtin.SmallTypes.ownedTupleIsFree (.ref z) >>= _) _ _ _
  refine wpAny_bind ?_
  unfold Builtin.SmallTypes.ownedTupleIsFree
  refine wpAny_bind (wpAny_field hz rfl (x := .none) rfl (wpAny_pure ?_))
  simp only [if_true]
  refine wpAny_bind (wpAny_rule ?_)
  refine wpAny_bind (wpAny_field hz rfl (x := .ref TO) rfl ?_)
  refine wpAny_bind (wpAny_setField_rec hz (by simp) fun ga hza hsa => ?_)
  replace hza : IsZip ga z TI TO .ellipsis := hza
  refine wpAny_bind ?_
  simp only [List.zipIdx_cons, List.zipIdx_nil, List.forIn_cons, List.forIn_nil]
  refine wpAny_bind (wpAny_bind (wpAny_onRaise ?_))
  show wpAny _ _ (Builtin.SmallTypes.nextOf (.ref i1) >>= _) _ _ _
  cases hx : xs[k1]? with
  | none =>
    refine wpAny_bind (nxT_end hh (h1.extBut hsa.extBut D.i1z) (hl1.extBut hsa.extBut D.l1z) hx fun gb e hsb he => ?_)
    obtain ⟨oe, hoe, hce⟩ := he
    have hzb : IsZip gb z TI TO .ellipsis := hsb _ _ D.i1z.symm hza
    have hez : e ≠ z := fun x => by subst x; rw [hzb] at hoe; cases hoe; simp at hce
    refine wpAny_setField_rec hzb (by simp) fun gc _ hsc => hEE gc e (fun c o c1 _ c3 _ x => hsc.extBut _ _ c1 (hsb _ _ c3 (hsa.extBut _ _ c1 x))) ⟨oe, hsc.extBut _ _ hez hoe, hce⟩
  | some x =>
    have hy : ys[k2]? = none := by rcases hend with h | h; rw [hx] at h; cases h; exact h
    refine wpAny_bind (nxT_item (h1.extBut hsa.extBut D.i1z) (hl1.extBut hsa.extBut D.l1z) hx fun gb h1b hsb => wpAny_pure ?_)
    have htob : IsPair gb TO a b := hsb.extBut _ _ D.TOi1 (hsa.extBut _ _ D.TOz hto)
    refine wpAny_bind (wpAny_seqItems htob rfl ?_)
    refine wpAny_bind (wpAny_updateSeq_pair htob fun gc htoc hsc => ?_)
    refine wpAny_bind (wpAny_letGo (wpAny_pure ?_))
    refine wpAny_bind (wpAny_bind (wpAny_onRaise ?_))
    show wpAny _ _ (Builtin.SmallTypes.nextOf (.ref i2) >>= _) _ _ _
    refine wpAny_bind (nxT_end hh (((h2.extBut hsa.extBut D.i2z).extBut hsb.extBut D.i12.symm).extBut hsc.extBut D.TOi2.symm)
      (((hl2.extBut hsa.extBut D.l2z).extBut hsb.extBut D.l2i1).extBut hsc.extBut D.l2TO) hy fun gd e hsd he => ?_)
    obtain ⟨oe, hoe, hce⟩ := he
    have hzd : IsZip gd z TI TO .ellipsis := hsd _ _ D.i2z.symm (hsc.extBut _ _ D.TOz.symm (hsb.extBut _ _ D.i1z.symm hza))
    have hez : e ≠ z := fun x => by subst x; rw [hzd] at hoe; cases hoe; simp at hce
    refine wpAny_setField_rec hzd (by simp) fun ge _ hse => hEE ge e (fun c o c1 c2 c3 c4 x => hse.extBut _ _ c1 (hsd _ _ c4 (hsc.extBut _ _ c2 (hsb.extBut _ _ c3 (hsa.extBut _ _ c1 x))))) ⟨oe, hse.extBut _ _ hez hoe, hce⟩
theorem pyT_item {z TI TO i1 i2 l1 l2 : Addr} {k1 k2 : Nat} {xs ys : Array Value} {x y a b : Value} {QQ : Option Value → Shared → Prop} (D : ZipApart z TI TO i1 i2 l1 l2)
    (hz : IsZip s.heap z TI TO .none) (hti : IsPair s.heap TI (.ref i1) (.ref i2)) (hto : IsPair s.heap TO a b)
    (h1 : s.heap.IsTupleIter i1 l1 k1) (h2 : s.heap.IsTupleIter i2 l2 k2) (hl1 : s.heap.IsTuple l1 xs) (hl2 : s.heap.IsTuple l2 ys) (hx : xs[k1]? = some x) (hy : ys[k2]? = some y)
    (hQQ : ∀ h', IsZip h' z TI TO (rawInt s.heap.objs.size) → IsPair h' TO x y → h'.IsTupleIter i1 l1 (k1 + 1) → h'.IsTupleIter i2 l2 (k2 + 1) → IsPair h' s.heap.objs.size x y → h'.objs.size = s.heap.objs.size + 1 →
      (∀ c o, c ≠ z → c ≠ TO → c ≠ i1 → c ≠ i2 → s.heap.get? c = some o → h'.get? c = some o) → QQ (some (.ref s.heap.objs.size)) { s with heap := h' }) :
    wpAny (model prog w) A (pyNext (.ref z)) QQ EE s := by
  have hT : s.TypeIs (.ref z) "zip" := ⟨_, hz, rfl⟩
  unfold pyNext
  exact wpAny_bind (wpAny_attempt (wpAny_callSpecial?_slot (name := Str.ofString "__next__") hT F.slot_zip_next
    (wpAny_call_entry F.slot_zip_next hT F.entry_zip_next
      (zpT_item D hz hti hto h1 h2 hl1 hl2 hx hy fun h' a1 a2 a3 a4 a5 a6 a7 => wpAny_pure (hQQ h' a1 a2 a3 a4 a5 a6 a7)) (F.args_zip_next_1 _))))
theorem pyT_end {z TI TO i1 i2 l1 l2 : Addr} {k1 k2 : Nat} {xs ys : Array Value} {a b : Value} {QQ : Option Value → Shared → Prop} (hh : A.handled = none) (D : ZipApart z TI TO i1 i2 l1 l2)
    (hz : IsZip s.heap z TI TO .none) (hti : IsPair s.heap TI (.ref i1) (.ref i2)) (hto : IsPair s.heap TO a b)
    (h1 : s.heap.IsTupleIter i1 l1 k1) (h2 : s.heap.IsTupleIter i2 l2 k2) (hl1 : s.heap.IsTuple l1 xs) (hl2 : s.heap.IsTuple l2 ys) (hend : xs[k1]? = none ∨ ys[k2]? = none)
    (hQQ : ∀ h', (∀ c o, c ≠ z → c ≠ TO → c ≠ i1 → c ≠ i2 → s.heap.get? c = some o → h'.get? c = some o) → QQ none { s with heap := h' }) : wpAny (model prog w) A (pyNext (.ref z)) QQ EE s := by
  have hT : s.TypeIs (.ref z) "zip" := ⟨_, hz, rfl⟩
  unfold pyNext
  refine wpAny_bind (wpAny_attempt (wpAny_callSpecial?_slot (name := Str.ofString "__next__") hT F.slot_zip_next
    (wpAny_call_entry F.slot_zip_next hT F.entry_zip_next (zpT_end hh D hz hti hto h1 h2 hl1 hl2 hend fun h' e hkk he => ?_) (F.args_zip_next_1 _))))
  obtain ⟨o, hoo, hc⟩ := he
  refine wpAny_bind (wpAny_isInstance (T := "StopIteration") (b := true) ⟨o, hoo, hc⟩ isSubtype_stop ?_)
  exact wpAny_pure (hQQ _ hkk)
end
abbrev zpH1 (h : Heap) (l1 : Addr) : Heap := h.push { cls := .type "tuple_iterator", data := .fields #[.ref l1, .int 0 0] }
abbrev zpH2 (h : Heap) (l1 l2 : Addr) : Heap := (zpH1 h l1).push { cls := .type "tuple_iterator", data := .fields #[.ref l2, .int 0 0] }
abbrev zpH3 (h : Heap) (l1 l2 : Addr) : Heap := (zpH2 h l1 l2).push { cls := .type "tuple", data := .seq #[.ref h.objs.size, .ref (zpH1 h l1).objs.size] }
abbrev zpH4 (h : Heap) (l1 l2 : Addr) : Heap := (zpH3 h l1 l2).push { cls := .type "tuple", data := .seq #[.none, .none] }
abbrev zpH5 (h : Heap) (l1 l2 : Addr) : Heap := (zpH4 h l1 l2).push { cls := .type "zip", data := .fields #[.none, .bool false, .bool false, .ref (zpH2 h l1 l2).objs.size, .ref (zpH3 h l1 l2).objs.size] }
theorem mtT_new (l1 l2 : Addr) (xs ys : Array Value) :
    Meets (Builtin.«zip.__new__» ⟨[.type "zip", .ref l1, .ref l2], []⟩) (fun _ R s => s.heap.IsTuple l1 xs ∧ s.heap.IsTuple l2 ys ∧
      R (.ok (.ret (.ref (zpH4 s.heap l1 l2).objs.size))) { s with heap := zpH5 s.heap l1 l2 }) :=
  .of_wp fun prog w A R s h => by
    obtain ⟨hp, g, d, tk, os⟩ := s; obtain ⟨hl1, hl2, h⟩ := h
    have hsub := sub_zip
    have hL1 : Heap.IsTuple (Shared.heap ⟨hp, g, d, tk, os⟩) l1 xs := hl1
    have hL2 : Heap.IsTuple (Shared.heap ⟨hp.push { cls := .type "tuple_iterator", data := .fields #[.ref l1, .int 0 0] }, g, d, tk, os⟩) l2 ys := Heap.IsTuple.push hl2 _
    wp_walk using wpAny_pyIter_tuple hL1, wpAny_pyIter_tuple hL2
    exact ⟨_, rfl, h⟩
section
variable {prog : Program} {w : World} {A : Around} {EE : Value → Shared → Prop} {s : Shared}
theorem clT_zip {l1 l2 : Addr} {xs ys : Array Value} {QQ : Value → Shared → Prop} (hl1 : s.heap.IsTuple l1 xs) (hl2 : s.heap.IsTuple l2 ys)
    (h : ∀ h', IsZip h' (s.heap.objs.size + 4) (s.heap.objs.size + 2) (s.heap.objs.size + 3) .none → IsPair h' (s.heap.objs.size + 2) (.ref s.heap.objs.size) (.ref (s.heap.objs.size + 1)) →
      IsPair h' (s.heap.objs.size + 3) .none .none → h'.IsTupleIter s.heap.objs.size l1 0 → h'.IsTupleIter (s.heap.objs.size + 1) l2 0 → h'.objs.size = s.heap.objs.size + 5 →
      (∀ c o, s.heap.get? c = some o → h'.get? c = some o) → QQ (.ref (s.heap.objs.size + 4)) { s with heap := h' }) :
    wpAny (model prog w) A (call (.type "zip") [.ref l1, .ref l2]) QQ EE s := by
  refine callType_new F.called_zip (by decide) (F.typeCall_zip_2 _ _) (F.newCall_zip_2 _ _) (fun obj => F.args_object_init_3 obj _ _) F.entry_zip_new
    (mtT_new l1 l2 xs ys) ⟨hl1, hl2, ?_⟩
  have z1 : (zpH1 s.heap l1).objs.size = s.heap.objs.size + 1 := Heap.size_push ..
  have z2 : (zpH2 s.heap l1 l2).objs.size = s.heap.objs.size + 2 := by rw [Heap.size_push, z1]
  have z3 : (zpH3 s.heap l1 l2).objs.size = s.heap.objs.size + 3 := by rw [Heap.size_push, z2]
  have z4 : (zpH4 s.heap l1 l2).objs.size = s.heap.objs.size + 4 := by rw [Heap.size_push, z3]
  have z5 : (zpH5 s.heap l1 l2).objs.size = s.heap.objs.size + 5 := by rw [Heap.size_push, z4]
  have g5 : (zpH5 s.heap l1 l2).get? (zpH4 s.heap l1 l2).objs.size = some _ := Heap.get?_push_size _ rfl
  have g4 : (zpH5 s.heap l1 l2).get? (zpH3 s.heap l1 l2).objs.size = some _ := Heap.get?_push_of_some _ (Heap.get?_push_size _ rfl)
  have g3 : (zpH5 s.heap l1 l2).get? (zpH2 s.heap l1 l2).objs.size = some _ := Heap.get?_push_of_some _ (Heap.get?_push_of_some _ (Heap.get?_push_size _ rfl))
  have g2 : (zpH5 s.heap l1 l2).get? (zpH1 s.heap l1).objs.size = some _ := Heap.get?_push_of_some _ (Heap.get?_push_of_some _ (Heap.get?_push_of_some _ (Heap.get?_push_size _ rfl)))
  have g1 : (zpH5 s.heap l1 l2).get? s.heap.objs.size = some _ := Heap.get?_push_of_some _ (Heap.get?_push_of_some _ (Heap.get?_push_of_some _ (Heap.get?_push_of_some _ (Heap.get?_push_size _ rfl))))
  show _ ∧ _
  rw [z2, z3, z4] at g5
  rw [z1, z2] at g3
  rw [z3] at g4
  rw [z1] at g2
  rw [z4]
  exact ⟨⟨_, g5, rfl⟩, h _ g5 g3 g4 ⟨_, g1, rfl, rfl⟩ ⟨_, g2, rfl, rfl⟩ z5 fun c o x =>
    Heap.get?_push_of_some _ (Heap.get?_push_of_some _ (Heap.get?_push_of_some _ (Heap.get?_push_of_some _ (Heap.get?_push_of_some _ x))))⟩
end
end ZT
end PySem
set_option Elab.async false
set_option linter.all false
set_option maxRecDepth 100000
set_option maxHeartbeats 4000000
namespace L2
open PySem PySem.Spec PyProof.Rows
theorem tup_lt {h : Heap} {a : Addr} {its : Array Value} (p : IsTup h a its) : a < h.objs.size := by
  obtain ⟨o, ho, _⟩ := p
  exact Heap.lt_size ho
/-- the lists at a and b as they stand at each turn, the items in new pairs -/
def ItzT (K : PySem.W.Frag) (a b : Addr) : It :=
  ⟨fun i H => ∃ (xs ys : List V) (x y : V), SqT K H a xs ∧ SqT K H b ys ∧ xs[i]? = some x ∧ ys[i]? = some y,
    fun i H v H' => ∃ T x y, v = .ref T ∧ H T = none ∧ H' = upd H T (.tup [x, y]) ∧ (∀ xs, SqT K H a xs → xs[i]? = some x) ∧ ∀ ys, SqT K H b ys → ys[i]? = some y,
    fun i H => ∃ xs ys : List V, SqT K H a xs ∧ SqT K H b ys ∧ (xs.length ≤ i ∨ ys.length ≤ i)⟩
theorem turn_zipT {P : Program} {w : World} {K : PySem.W.Frag} {elts : List Expr} {kk : Nat} {tpos : Pos} {a b z TI TO i1 i2 : Addr} (D : ZipApart z TI TO i1 i2 a b) :
    Turn P w K (.Tuple elts kk tpos) (ItzT K a b) [z, TI, TO, i1, i2] z (fun i h => IsZip h z TI TO .none ∧ IsPair h TI (.ref i1) (.ref i2) ∧ (∃ x y, IsPair h TO x y) ∧ h.IsTupleIter i1 a i ∧ h.IsTupleIter i2 b i) where
  mem := by simp
  obj := fun i h st c hc => by
    obtain ⟨hz, hTI, ⟨x, y, hTO⟩, ⟨o1, e1, _, d1⟩, ⟨o2, e2, _, d2⟩⟩ := st
    have e' : c = z ∨ c = TI ∨ c = TO ∨ c = i1 ∨ c = i2 := by simpa using hc
    rcases e' with q | q | q | q | q
    · rw [q]; exact ⟨_, hz, fun v q => nomatch q⟩
    · rw [q]; exact ⟨_, hTI, fun v q => nomatch q⟩
    · rw [q]; exact ⟨_, hTO, fun v q => nomatch q⟩
    · rw [q]; exact ⟨o1, e1, fun v q => by rw [d1] at q; cases q⟩
    · rw [q]; exact ⟨o2, e2, fun v q => by rw [d2] at q; cases q⟩
  keep := fun i h h' st k => by
    obtain ⟨hz, hTI, ⟨x, y, hTO⟩, h1, h2⟩ := st
    exact ⟨k z (by simp) _ hz, k TI (by simp) _ hTI, ⟨x, y, k TO (by simp) _ hTO⟩, h1.at fun o q => k i1 (by simp) o q, h2.at fun o q => k i2 (by simp) o q⟩
  item := by
    intro X hP hw hK hc i pins s σ H E I hf st hg
    subst hP hw hK
    obtain ⟨hz, hTI, ⟨x0, y0, hTO⟩, h1, h2⟩ := st
    obtain ⟨xs, ys, x, y, hqx, hqy, hx, hy⟩ := hg
    obtain ⟨its, rv, p, _⟩ := I.tuple hqx
    obtain ⟨its2, rv2, p2, _⟩ := I.tuple hqy
    obtain ⟨u, hu, ru⟩ := rv.get hx
    obtain ⟨u2, hu2, ru2⟩ := rv2.get hy
    have hzl : z < s.heap.objs.size := Heap.lt_size hz
    refine ZT.pyT_item D hz hTI hTO h1 h2 p p2 (x := u) (y := u2) (by simpa using hu) (by simpa using hu2) fun h' z' TO' h1' h2' hT hsz hk => ?_
    refine ⟨_, rfl, wpAny_letOwnedTupleGo_zip (s := { s with heap := h' }) z' fun h'' z'' sb => ?_⟩
    have hT2 : h''.get? s.heap.objs.size = some { cls := .type "tuple", data := .seq #[u, u2] } := (sb.2 _ (Nat.ne_of_gt hzl)).trans hT
    have new : ObjOk X.prog X.w (upd H s.heap.objs.size (.tup [x, y])) h'' s.heap.objs.size (.tup [x, y]) :=
      ⟨by show 2 ≤ sizeLine; decide, [u, u2], .cons ru (.cons ru2 .nil), ⟨_, hT2, rfl, ⟨_, rfl⟩, rfl⟩⟩
    have I1 : Inv X pins σ (upd H s.heap.objs.size (.tup [x, y])) { s with heap := h'' } :=
      I.turnedNew (t' := s.toks) (ch := [z, TI, TO, i1, i2]) (fun c o hb q => (sb.2 c (fun q' => hb (by simp [q']))).trans (hk c o (fun q' => hb (by simp [q'])) (fun q' => hb (by simp [q'])) (fun q' => hb (by simp [q'])) (fun q' => hb (by simp [q'])) q)) hf (Nat.le_refl _) new
    refine ⟨.ref s.heap.objs.size, _, I1, rfl, ⟨_, x, y, rfl, I.hok.fresh (Nat.le_refl _), rfl, fun l hl => by rw [I.tuple_inj hl hqx]; exact hx, fun l hl => by rw [I.tuple_inj hl hqy]; exact hy⟩, ⟨z'', ?_, ⟨u, u2, ?_⟩, ?_, ?_⟩, fun c hcm => ?_⟩
    · exact (sb.2 _ D.TIz).trans (hk _ _ D.TIz D.TITO D.TIi1 D.TIi2 hTI)
    · exact (sb.2 _ D.TOz).trans TO'
    · exact h1'.at fun o q => (sb.2 _ D.i1z).trans q
    · exact h2'.at fun o q => (sb.2 _ D.i2z).trans q
    · have hlt : c < s.heap.objs.size := by
        have e' : c = z ∨ c = TI ∨ c = TO ∨ c = i1 ∨ c = i2 := by simpa using hcm
        rcases e' with q | q | q | q | q
        · rw [q]; exact hzl
        · rw [q]; exact Heap.lt_size hTI
        · rw [q]; exact Heap.lt_size hTO
        · rw [q]; obtain ⟨_, e1, _⟩ := h1; exact Heap.lt_size e1
        · rw [q]; obtain ⟨_, e2, _⟩ := h2; exact Heap.lt_size e2
      rw [upd_ne (Nat.ne_of_lt hlt)]
      exact (hf c hcm).1
  done := by
    intro X hP hw hK hc i pins s σ H E I hf st hg
    subst hP hw hK
    obtain ⟨hz, hTI, ⟨x0, y0, hTO⟩, h1, h2⟩ := st
    obtain ⟨xs, ys, hqx, hqy, hend⟩ := hg
    obtain ⟨its, rv, p, _⟩ := I.tuple hqx
    obtain ⟨its2, rv2, p2, _⟩ := I.tuple hqy
    have l1 := rv.length
    have l2 := rv2.length
    have he : its.toArray[i]? = none ∨ its2.toArray[i]? = none := by
      rcases hend with q | q
      · exact .inl (by simp; omega)
      · exact .inr (by simp; omega)
    exact ZT.pyT_end (I.ok.hd hc) D hz hTI hTO h1 h2 p p2 he fun h' hk => ⟨rfl, I.turnedL (t' := s.toks) (ch := [z, TI, TO, i1, i2]) (fun c o hb q =>
      hk c o (fun q' => hb (by simp [q'])) (fun q' => hb (by simp [q'])) (fun q' => hb (by simp [q'])) (fun q' => hb (by simp [q'])) q) hf⟩
  self := fun A i s Q E st h => wpAny_pyIter_zip st.1 h
def iZipT (K : PySem.W.Frag) (ta : TA) : TI := fun σ H R => ta σ H fun vs H1 => ∃ a b xs ys, vs = [.ref a, .ref b] ∧ SqT K H1 a xs ∧ SqT K H1 b ys ∧ R (ItzT K a b) H1
theorem pi_zipT {X : Cx} {e e2 : Expr} {ta : TA} {p pos tpos : Pos} {elts : List Expr} {kk : Nat} (hg : Gl X "zip") (hm : X.mg "zip" = none) (ha : PA X [e, e2] ta)
    (hs : starEach [e, e2] X.env = (false, eval e X.env) :: starEach [e2] X.env := by rfl) (hpl : (backTo pos (starEach [e2] X.env)).any (·.1) = false := by rfl) :
    PI X (.Tuple elts kk tpos) (.Call (.Name "zip" p) [e, e2] [] pos) (iZipT X.K ta) := by
  intro pins s σ H R I h
  refine Call_ (ld_blt I hg hm boot_zip5 (PyProof.Rows.callWith_type1 (thn (ha pos s σ H _ I h) fun us s1 ⟨vs, H1, I1, r1, q1⟩ => ?_) hs hpl))
  obtain ⟨a, b, xs, ys, ex, hqx, hqy, q⟩ := q1
  subst ex
  cases r1 with
  | cons r rr =>
    cases rr with
    | cons r' rr =>
      cases rr
      cases r
      cases r'
      obtain ⟨its, rv, p1, _⟩ := I1.tuple hqx
      obtain ⟨its2, rv2, p2, _⟩ := I1.tuple hqy
      have la : a < s1.heap.objs.size := tup_lt p1
      have lb : b < s1.heap.objs.size := tup_lt p2
      refine ZT.clT_zip p1 p2 fun h' hz hTI hTO h1 h2 hsz hk => wpAny_pyIter_zip hz ?_
      have I2 : Inv X pins σ H1 { s1 with heap := h' } := I1.kept (t' := s1.toks) hk
      refine ⟨s1.heap.objs.size + 4, [s1.heap.objs.size + 4, s1.heap.objs.size + 2, s1.heap.objs.size + 3, s1.heap.objs.size, s1.heap.objs.size + 1], _, _, H1, rfl, I2, turn_zipT (PySem.W.ktu_apart s1.heap.objs.size a b la lb), ⟨hz, hTI, ⟨_, _, hTO⟩, h1, h2⟩, fun c hcm => ?_, q⟩
      have e' : c = s1.heap.objs.size + 4 ∨ c = s1.heap.objs.size + 2 ∨ c = s1.heap.objs.size + 3 ∨ c = s1.heap.objs.size ∨ c = s1.heap.objs.size + 1 := by simpa using hcm
      have hle : s1.heap.objs.size ≤ c := by
        rcases e' with z | z | z | z | z
        · rw [z]; exact Nat.le_add_right _ _
        · rw [z]; exact Nat.le_add_right _ _
        · rw [z]; exact Nat.le_add_right _ _
        · rw [z]; exact Nat.le_refl _
        · rw [z]; exact Nat.le_add_right _ _
      exact I1.fpOk hle (I1.hok.fresh hle)
end L2
set_option Elab.async false
set_option linter.all false
set_option maxRecDepth 100000
set_option maxHeartbeats 4000000
namespace L2
open PySem PySem.Spec PyProof.Rows
section
variable {X : Cx} {pins : List (Addr × Obj)} {σ : St} {H : Hp} {s : Shared} {A : Around} {E : Value → Shared → Prop} {Q : Value → Shared → Prop} {b : Bool}
end
/-- a comprehension over the pairs of two tuples of one length -/
theorem lc_zipT {K : PySem.W.Frag} {a b : Addr} {xs ys : List V} {g : TG} {tt : TT} {te : TE} {vs : List Nat} {σ : St} {H1 : Hp} {D : Addr} {Qd : Hp → Prop} (hlen : xs.length = ys.length) (Pv : Nat → Hp → Prop) (h0 : Pv 0 (upd H1 D (.lst [])))
    (hl : ∀ i H, i ≤ xs.length → Pv i H → SqT K H a xs ∧ SqT K H b ys)
    (hs : ∀ i x y H T, xs[i]? = some x → ys[i]? = some y → Pv i H → H T = none → g (.ref T) (wipe σ vs) (upd H T (.tup [x, y])) fun σ2 H2 => wipe σ2 vs = wipe σ vs ∧ tt σ2 H2 fun b H3 =>
      if b = true then te σ2 H3 fun y H4 => ∃ acc, H4 D = some (.lst acc) ∧ acc.length < sizeLine ∧ Pv (i + 1) (upd H4 D (.lst (acc ++ [y]))) else Pv (i + 1) H3) (hd : ∀ H, Pv xs.length H → Qd H) :
    ∃ W : Nat → Nat → Hp → Prop, (∃ m, W 0 m (upd H1 D (.lst []))) ∧ ∀ i m H, W i m H →
      ((ItzT K a b).stop i H ∧ Qd H) ∨ ((ItzT K a b).go i H ∧ ∃ Nx : Hp → Prop, (∀ H', Nx H' → ∃ m', m' < m ∧ W (i + 1) m' H') ∧ ∀ x H', (ItzT K a b).yld i H x H' → g x (wipe σ vs) H' fun σ2 H2 => wipe σ2 vs = wipe σ vs ∧ tt σ2 H2 fun b H3 =>
        if b = true then te σ2 H3 fun y H4 => ∃ acc, H4 D = some (.lst acc) ∧ acc.length < sizeLine ∧ Nx (upd H4 D (.lst (acc ++ [y]))) else Nx H3) := by
  refine ⟨fun i m H => m = xs.length - i ∧ i ≤ xs.length ∧ Pv i H, ⟨xs.length, by simp, Nat.zero_le _, h0⟩, ?_⟩
  rintro i m H ⟨rfl, hi, p⟩
  obtain ⟨q1, q2⟩ := hl i H hi p
  by_cases hlt : i < xs.length
  · have hlt2 : i < ys.length := by omega
    refine .inr ⟨⟨xs, ys, xs[i], ys[i], q1, q2, by simp [hlt], by simp [hlt2]⟩, Pv (i + 1), fun H' p' => ⟨xs.length - (i + 1), by omega, rfl, hlt, p'⟩, fun v H' yy => ?_⟩
    obtain ⟨T, x, y, rfl, hT, rfl, e1, e2⟩ := yy
    exact hs i x y H T (e1 xs q1) (e2 ys q2) p hT
  · have e : i = xs.length := by omega
    subst e
    exact .inl ⟨⟨xs, ys, q1, q2, .inl (Nat.le_refl _)⟩, hd H p⟩
end L2
set_option Elab.async false
set_option linter.all false
set_option maxRecDepth 100000
set_option maxHeartbeats 4000000
namespace L2
open PySem PySem.Spec PyProof.Rows
namespace HW
open HT
section
variable {prog : Program} {w : World} {A : Around} {E : Value → Shared → Prop} {s : Shared}
theorem getItem_tuple_whole {t sl : Addr} {its : Array Value} {vl vu : Value} {lo hi : Option Int} {Q : Value → Shared → Prop} (ht : IsTup s.heap t its) (hs : s.heap.IsSliceOf sl vl vu .none) (pl : IsPart vl lo) (pu : IsPart vu hi)
    (hw : sIx its.size 0 lo = 0 ∧ sIx its.size its.size hi = its.size) (h : Q (.ref t) s) : wpAny (model prog w) A (getItem (.ref t) (.ref sl)) Q E s := by
  obtain ⟨os, hos, hcs, hds⟩ := id hs
  have hTs : s.TypeIs (.ref sl) "slice" := ⟨os, hos, hcs⟩
  unfold getItem
  try with_reducible refine wpAny_holding ?_
  first | refine wpAny_bind (wpAny_pure ?_) | skip
  refine wpAny_bind (wpAny_sequenceKey ht.typeIs (by decide) ?_)
  refine wpAny_bind (wpAny_callSpecial?_slot (name := Str.ofString "__getitem__") ht.typeIs PyProof.Rows.slot_tuple_getitem
    (wpAny_call_entry PyProof.Rows.slot_tuple_getitem ht.typeIs entry_tuple_getitem ?_ (args_tuple_getitem _ _)))
  show wpAny _ _ (Builtin.Tuple.tupleItemsOf (.ref t) >>= _) _ _ s
  refine wpAny_bind (tupleItemsOf_ ht ?_)
  refine wpAny_bind (wpAny_typeOf hTs ?_)
  rw [if_pos (by decide)]
  refine wpAny_bind (sliceApplied_gen hs pl pu ?_)
  have hyes : ((((sIx its.size 0 lo : Nat) : Int) == 0 && (1 : Int) == 1 && (sIx its.size its.size hi - sIx its.size 0 lo) == its.size) = true) := by
    rw [hw.1, hw.2]
    simp
  show wpAny _ _ (if (((sIx its.size 0 lo : Nat) : Int) == 0 && (1 : Int) == 1 && (sIx its.size its.size hi - sIx its.size 0 lo) == its.size) = true then _ else _) _ _ s
  rw [if_pos hyes]
  first
    | (refine wpAny_bind (m := Builtin.Tuple.tupleIsExact _) ?_
       unfold Builtin.Tuple.tupleIsExact
       refine wpAny_bind (wpAny_typeOf ht.typeIs (wpAny_pure ?_))
       simp only [beq_self_eq_true, if_true]
       first
         | exact wpAny_bind (wpAny_rule (wpAny_bind (wpAny_pure (wpAny_pure ⟨_, rfl, wpAny_pure h⟩))))
         | exact wpAny_bind (wpAny_rule (wpAny_pure ⟨_, rfl, wpAny_pure h⟩))
         | exact wpAny_bind (wpAny_rule (wpAny_bind (wpAny_pure ⟨_, rfl, wpAny_pure h⟩))))
end
end HW
section
variable {X : Cx}
/-- t[lo:hi] that is the whole of t: t itself -/
theorem sl_tupW : SlR X (fun x lo hi H Q => ∃ a xs, x = .ref a ∧ SqT X.K H a xs ∧ (HT.sIx xs.length 0 lo = 0 ∧ HT.sIx xs.length xs.length hi = xs.length) ∧ Q (.ref a) H) := by
  intro pins s σ H x v vl vu lo hi sl Q I rx hs pl pu h
  obtain ⟨a, xs, rfl, hx, hw, q⟩ := h
  cases rx
  obtain ⟨its, r, ht, hz⟩ := I.tuple hx
  have hlen : its.toArray.size = xs.length := by rw [List.size_toArray]; exact r.length.symm
  refine ⟨"tuple", _, PyProof.Rows.slot_tuple_getitem.lookup, ht.typeIs, ?_⟩
  exact HW.getItem_tuple_whole ht hs pl pu (by rw [hlen]; exact hw) ⟨.ref a, H, I, rfl, q⟩
end
end L2
set_option Elab.async false
set_option linter.all false
set_option maxRecDepth 100000
set_option maxHeartbeats 4000000
namespace L2
open PySem PySem.Spec PyProof.Rows
namespace HW
open HT
section
variable {prog : Program} {w : World} {A : Around} {E : Value → Shared → Prop} {s : Shared}
end
end HW
section
variable {X : Cx}
end
end L2
set_option Elab.async false
set_option linter.all false
set_option maxRecDepth 100000
set_option maxHeartbeats 4000000
namespace L2
open PySem PySem.Spec PyProof.Rows
section
variable {X : Cx}
def rSlH : V → Option Int → Option Int → Hp → VK → Prop := fun x lo hi H Q => ∃ a xs, x = .ref a ∧ H a = some (.tup xs) ∧ ∀ c H', Same H H' → H' c = some (.tup (cutV xs lo hi)) → Q (.ref c) H'
theorem sl_tupH : SlR X rSlH := by
  intro pins s σ H x v vl vu lo hi sl Q I rx hs pl pu h
  obtain ⟨a, xs, rfl, hx, q⟩ := h
  by_cases hw : HT.sIx xs.length 0 lo = 0 ∧ HT.sIx xs.length xs.length hi = xs.length
  · refine sl_tupW s σ H _ v vl vu lo hi sl Q I rx hs pl pu ⟨a, xs, rfl, SqT.of hx, hw, q a H (fun _ _ e => e) ?_⟩
    unfold cutV
    rw [hw.1, hw.2, List.drop_zero, Nat.sub_zero, List.take_length]
    exact hx
  · exact sl_tup s σ H _ v vl vu lo hi sl Q I rx hs pl pu ⟨a, xs, rfl, SqT.of hx, hw, fun p hp => q p _ (fun b o e => by rw [upd_ne (ne_of_none e hp)]; exact e) upd_same⟩
end
end L2
set_option Elab.async false
set_option linter.all false
set_option maxRecDepth 100000
set_option maxHeartbeats 4000000
namespace L2
open PySem PySem.Spec PyProof.Rows
section
variable {prog : Program} {w : World} {A : Around} {E : Value → Shared → Prop}
theorem drawL {it l : Addr} {its : Array Value} (hne : l ≠ it) : ∀ (n i : Nat) (s : Shared) (Q : List Value → Shared → Prop), s.heap.IsListIter it l i → s.heap.IsList l its → i + n ≤ its.size →
    (∀ h', h'.IsListIter it l (i + n) → Heap.SameBut it s.heap h' → Q ((its.toList.drop i).take n) { s with heap := h' }) → wpAny (model prog w) A (draw (.ref it) n) Q E s
  | 0, i, s, Q, hi, _, _, q => by
    show wpAny _ _ (pure []) Q E s
    exact wpAny_pure (by simpa using q s.heap hi (Heap.SameBut.refl ..))
  | n + 1, i, s, Q, hi, hl, hle, q => by
    have lt : i < its.size := by omega
    show wpAny _ _ (pyNext (.ref it) >>= _) Q E s
    refine wpAny_bind (wpAny_pyNext_list_item hi hl (x := its[i]) (by simp [lt]) fun h1 hi1 hs1 => ?_)
    refine wpAny_bind (wpAny_holding (drawL hne n (i + 1) _ _ hi1 (hl.extBut hs1.extBut hne) (by omega) fun h2 hi2 hs2 => wpAny_pure ?_))
    have e : its.toList.drop i = its[i] :: its.toList.drop (i + 1) := by simp [List.drop_eq_getElem_cons, lt]
    have z := q h2 (by rw [show i + (n + 1) = i + 1 + n by omega]; exact hi2) (hs1.trans hs2)
    rw [e, List.take_succ_cons] at z
    exact z
theorem unpackL {s : Shared} {l : Addr} {its : Array Value} {Q : List Value → Shared → Prop} (hh : A.handled = none) (hl : s.heap.IsList l its)
    (q : ∀ h', Heap.ExtBut s.heap.objs.size s.heap h' → Q its.toList { s with heap := h' }) : wpAny (model prog w) A (unpackItems (.ref l) its.size none) Q E s := by
  have ne : l ≠ s.heap.objs.size := by obtain ⟨o, ho, _⟩ := hl; exact Nat.ne_of_lt (Heap.lt_size ho)
  unfold unpackItems
  refine wpAny_bind ?_
  unfold notIterableAtAll
  refine wpAny_bind (wpAny_specialOf hl.typeIs PySem.F.slot_list_iter.lookup ?_)
  refine wpAny_pure ?_
  simp only [Bool.false_eq_true, if_false]
  refine wpAny_bind (wpAny_holding (wpAny_pyIter_list hl ?_))
  refine wpAny_bind (wpAny_holding (drawL ne its.size 0 _ _ ⟨_, Heap.get?_push_size _ rfl, rfl, rfl⟩ (hl.push _) (by omega) fun h1 hi1 hs1 => ?_))
  have e : List.take its.size (List.drop 0 its.toList) = its.toList := by rw [List.drop_zero]; exact List.take_of_length_le (by simp)
  rw [e]
  rw [if_neg (by simp)]
  have hl1 : h1.IsList l its := (hl.push _).extBut hs1.extBut ne
  refine wpAny_bind (wpAny_holding (wpAny_pyNext_list_end hh hi1 hl1 (by simp) fun h2 he2 => ?_))
  simp only [Option.isSome_none, Bool.false_eq_true, if_false]
  exact wpAny_pure (q h2 fun b o hb z => he2 b o hb (hs1.extBut b o hb (Heap.get?_push_of_some _ z)))
end
section
variable {X : Cx} {pos : Pos}
/-- a, b = a list of two -/
def gLst (K : PySem.W.Frag) (n : Nat) (t : TGs) : TG := fun v σ H Q => ∃ a xs, v = .ref a ∧ SqL K H a xs ∧ xs.length = n ∧ t xs σ H Q
theorem pg_lst {es : List Expr} {k : Nat} {t : TGs} {n : Nat} (hc : X.calm = true) (h : PGs X es t)
    (hn : (assignEach es X.env).length = n := by rfl) (hst : (assignEach es X.env).findIdx? (·.1) = none := by rfl) : PG X (.Tuple es k pos) (gLst X.K n t) := by
  intro pins s σ H v u Q I r hw
  obtain ⟨a, xs, e1, hq, hl, hw⟩ := hw
  subst e1
  cases r
  obtain ⟨its, rv, pl, hz⟩ := I.list hq
  rw [assign_Tuple]
  refine wpAny_bind (wpAny_standAt ?_)
  unfold unpack
  have e2 : (assignEach es X.env).length = its.toArray.size := by simp [hn, ← hl, rv.length]
  rw [e2, hst]
  refine wpAny_bind (wpAny_holding (unpackL (I.ok.hd hc) pl.isList fun h' hx => ?_))
  have I1 : Inv X pins σ H { s with heap := h' } := I.kept (t' := s.toks) fun b o e => hx b o (Nat.ne_of_lt (Heap.lt_size e)) e
  exact h _ σ H xs _ Q I1 (by simpa using rv) hw
end
end L2
set_option Elab.async false
set_option linter.all false
set_option maxRecDepth 100000
set_option maxHeartbeats 4000000
namespace L2
open PySem PySem.Spec PyProof.Rows
theorem noFill_tuple_mul : fillsNumberSlot (.type "tuple") "mul" = pure false :=
  PySem.fillsNumberSlot_seq (id := "tuple.__mul__") (r := some (.builtin "tuple.__rmul__")) F.slot_tuple_mul.lookup (by decide +kernel) F.slot_tuple_rmul.lookup (by decide +kernel)
theorem repeat_tuple : seqRepeat? (.type "tuple") = pure (some (.builtin "tuple.__mul__")) := by
  unfold seqRepeat?
  rw [PySem.seqSlot_of (T := "tuple") (name := "__mul__") (id := "tuple.__mul__") F.slot_tuple_mul.lookup (by decide +kernel), PySem.seqSlot_of (T := "tuple") (name := "__rmul__") (id := "tuple.__rmul__") F.slot_tuple_rmul.lookup (by decide +kernel)]
  rfl
theorem rmul_tup (a : Int) (t : Tok) (l : Addr) (items : Array Value) (n : Nat) (dd : Option Addr) (sl : Array (Option Value)) :
    Meets (Builtin.«int.__rmul__» ⟨[.int a t, .ref l], []⟩) (fun _ R s => s.heap.get? l = some { cls := .type "tuple", dict := dd, data := .seq items n, slots := sl } ∧ R (.ok (.ret Value.notImplemented)) s) :=
  .of_wp fun prog w A R s h => by obtain ⟨hp, g, d, tk, os⟩ := s; obtain ⟨hl, h⟩ := h; wp_walk; exact ⟨_, rfl, h⟩
theorem mul_tup1 (l : Addr) (items : Array Value) (n : Nat) (x : Int) (u : Tok) (dd : Option Addr) (sl : Array (Option Value)) (hc0 : ¬(decide (x < -(2 ^ 63)) || decide (x ≥ 2 ^ 63)) = true) (hc1 : (items.isEmpty || x == 1) = true) :
    Meets (Builtin.«tuple.__mul__» ⟨[.ref l, .int x u], []⟩) (fun _ R s => s.heap.get? l = some { cls := .type "tuple", dict := dd, data := .seq items n, slots := sl } ∧ R (.ok (.ret (Value.ref l))) s) :=
  .of_wp fun prog w A R s h => by obtain ⟨hp, g, d, tk, os⟩ := s; obtain ⟨hl, h⟩ := h; have f1 := AutoSeq1.idx_int; have f2 := AutoSeq1.sub_tuple_tuple; wp_walk using wpAny_loadPart' hl; refine wpAny_ite_false (decide_eq_false hc0) ?_; wp_walk using wpAny_loadPart' hl; exact ⟨_, rfl, h⟩
theorem mul_tup0 (l : Addr) (items : Array Value) (n : Nat) (x : Int) (u : Tok) (dd : Option Addr) (sl : Array (Option Value)) (hc0 : ¬(decide (x < -(2 ^ 63)) || decide (x ≥ 2 ^ 63)) = true) (hc1 : ¬(items.isEmpty || x == 1) = true) (hc2 : (decide (x ≤ 0) || items.isEmpty) = true) :
    Meets (Builtin.«tuple.__mul__» ⟨[.ref l, .int x u], []⟩) (fun _ R s => s.heap.get? l = some { cls := .type "tuple", dict := dd, data := .seq items n, slots := sl } ∧ R (.ok (.ret (Value.ref s.heap.objs.size))) { s with heap := s.heap.push { cls := Value.type "tuple", data := Data.seq #[] }, toks := s.toks }) :=
  .of_wp fun prog w A R s h => by obtain ⟨hp, g, d, tk, os⟩ := s; obtain ⟨hl, h⟩ := h; have f1 := AutoSeq1.idx_int; have f2 := AutoSeq1.sub_tuple_tuple; wp_walk using wpAny_loadPart' hl; refine wpAny_ite_false (decide_eq_false hc0) ?_; wp_walk using wpAny_loadPart' hl; exact ⟨_, rfl, h⟩
theorem mul_tupN (l : Addr) (items : Array Value) (n : Nat) (x : Int) (u : Tok) (dd : Option Addr) (sl : Array (Option Value)) (hc0 : ¬(decide (x < -(2 ^ 63)) || decide (x ≥ 2 ^ 63)) = true) (hc1 : ¬(items.isEmpty || x == 1) = true) (hc2 : ¬(decide (x ≤ 0) || items.isEmpty) = true)
    (hc3 : ¬ (items.size * x > (2 ^ 63 - 1) / 8)) (hc4 : ¬ Builtin.Tuple.tupleTooMany (items.size * x) = true) (hsz : (List.foldl (fun x1 x2 => x1 ++ x2) #[] (List.replicate x.toNat items)).size ≤ sizeLine) :
    Meets (Builtin.«tuple.__mul__» ⟨[.ref l, .int x u], []⟩) (fun _ R s => s.heap.get? l = some { cls := .type "tuple", dict := dd, data := .seq items n, slots := sl } ∧ R (.ok (.ret (Value.ref s.heap.objs.size))) { s with heap := s.heap.push { cls := Value.type "tuple", data := Data.seq (List.foldl (fun x1 x2 => x1 ++ x2) #[] (List.replicate x.toNat items)) }, toks := s.toks }) :=
  .of_wp fun prog w A R s h => by
    obtain ⟨hp, g, d, tk, os⟩ := s; obtain ⟨hl, h⟩ := h; have f1 := AutoSeq1.idx_int; have f2 := AutoSeq1.sub_tuple_tuple
    wp_walk using wpAny_loadPart' hl
    refine wpAny_ite_false (decide_eq_false hc0) ?_
    wp_walk using wpAny_loadPart' hl
    refine wpAny_ite_false (decide_eq_false hc3) ?_
    wp_walk using wpAny_loadPart' hl
    exact ⟨_, rfl, h⟩
end L2
set_option Elab.async false
set_option linter.all false
set_option maxRecDepth 100000
set_option maxHeartbeats 4000000
namespace L2
open PySem PySem.Spec PyProof.Rows
section
variable {X : Cx}
/-- a tuple of one thing times an int -/
def rRepT : R2 := fun x y H Q => ∃ l k z, x = .ref l ∧ y = .int k ∧ H l = some (.tup [z]) ∧ -(2 ^ 63) ≤ k ∧ k ≤ 1000 ∧
  ∀ p H', Same H H' → H' p = some (.tup (List.replicate k.toNat z)) → Q (.ref p) H'
theorem foldl_one {v : Value} : ∀ (k : Nat) (acc : Array Value), List.foldl (fun x1 x2 => x1 ++ x2) acc (List.replicate k #[v]) = acc ++ (List.replicate k v).toArray
  | 0, acc => by simp
  | k + 1, acc => by
    rw [List.replicate_succ, List.foldl_cons, foldl_one k, List.replicate_succ]
    apply Array.ext'
    simp
theorem vals_rep {z : V} {v : Value} (h : RelV z v) : ∀ k : Nat, Vals (List.replicate k z) (List.replicate k v)
  | 0 => .nil
  | k + 1 => .cons h (vals_rep h k)
theorem op_repT : OpR X (binaryOp .Mult) rRepT := by
  intro pins s σ H x y v u Q I rx ry h
  obtain ⟨l, k, z, rfl, rfl, hH, h1, h2, q⟩ := h
  cases rx
  obtain ⟨t, rfl⟩ := ry
  obtain ⟨its, r1, p1, _⟩ := I.tuple (SqT.of hH)
  obtain ⟨zv, rfl, rz⟩ := vals1 r1
  obtain ⟨⟨cls, dd, data, sl⟩, ho, hc, n, hd⟩ := id p1
  simp only at hc hd
  subst hc hd
  have hc0 : ¬(decide (k < -(2 ^ 63)) || decide (k ≥ 2 ^ 63)) = true := by
    rw [Bool.or_eq_true, decide_eq_true_iff, decide_eq_true_iff]
    omega
  refine wpAny_binaryOp_repeat_ref (T := "tuple") (U := "int") (by decide) ⟨_, ho, rfl⟩ (fun s' => typeIs_int s' k t) noFill_tuple_mul F.fills_int_mul F.slot_int_rmul repeat_tuple F.slot_int_index.lookup
    (call_meets F.slot_int_rmul (typeIs_int s k t) F.entry_int_rmul (F.args_int_rmul_2 _ _) (rmul_tup k t l _ n dd sl) ⟨ho, rfl, ⟨_, ho, rfl⟩, ?_⟩)
  by_cases e1 : k = 1
  · subst e1
    refine call_meets F.slot_tuple_mul ⟨_, ho, rfl⟩ F.entry_tuple_mul (F.args_tuple_mul_2 _ _) (mul_tup1 l _ n 1 t dd sl hc0 (by rfl)) ⟨ho, ?_⟩
    exact ⟨.ref l, H, I, rfl, q l H (fun _ _ e => e) hH⟩
  by_cases e0 : k ≤ 0
  · refine call_meets F.slot_tuple_mul ⟨_, ho, rfl⟩ F.entry_tuple_mul (F.args_tuple_mul_2 _ _) (mul_tup0 l _ n k t dd sl hc0 (by simp [e1]) (by simp [e0])) ⟨ho, ?_⟩
    have e : k.toNat = 0 := by omega
    have fr := I.hok.fresh (Nat.le_refl s.heap.objs.size)
    refine ⟨.ref s.heap.objs.size, _, I.laid (t' := s.toks) (o := .tup []) (fun b ob q => Heap.get?_push_of_some _ q) (Nat.le_refl _) ?_, rfl, q _ _ (fun b o e => by rw [upd_ne (ne_of_none e fr)]; exact e) (by rw [e]; exact upd_same)⟩
    exact ⟨Nat.zero_le _, [], .nil, IsTupN.new _ _⟩
  · have ex : (List.foldl (fun x1 x2 => x1 ++ x2) #[] (List.replicate k.toNat [zv].toArray)) = (List.replicate k.toNat zv).toArray := by
      have := foldl_one (v := zv) k.toNat #[]
      simpa using this
    have sz : (List.foldl (fun x1 x2 => x1 ++ x2) #[] (List.replicate k.toNat [zv].toArray)).size ≤ sizeLine := by
      rw [ex, List.size_toArray, List.length_replicate, sizeLine_eq]
      omega
    refine call_meets F.slot_tuple_mul ⟨_, ho, rfl⟩ F.entry_tuple_mul (F.args_tuple_mul_2 _ _) (mul_tupN l _ n k t dd sl hc0 (by simp [e1]) (by simp; omega) (by simp; omega) (by unfold Builtin.Tuple.tupleTooMany; rw [decide_eq_true_iff, sizeLine_eq]; simp; omega) sz) ⟨ho, ?_⟩
    rw [ex]
    have fr := I.hok.fresh (Nat.le_refl s.heap.objs.size)
    refine ⟨.ref s.heap.objs.size, _, I.laid (t' := s.toks) (o := .tup (List.replicate k.toNat z)) (fun b ob q => Heap.get?_push_of_some _ q) (Nat.le_refl _) ?_, rfl, q _ _ (fun b o e => by rw [upd_ne (ne_of_none e fr)]; exact e) upd_same⟩
    exact ⟨by rw [List.length_replicate, sizeLine_eq]; omega, _, vals_rep rz _, IsTupN.new _ _⟩
end
end L2
set_option Elab.async false
set_option linter.all false
set_option maxRecDepth 100000
set_option maxHeartbeats 2000000
namespace L2
open PySem PySem.Spec PyProof.Rows
section
variable {X : Cx} {pos : Pos}
/-- a, b, c = x, y, z with plain local names -/
def tPar3 (i j k : Nat) (ta : TA) : TS := fun D σ H => ta σ H fun vs H1 => ∃ v w u, vs = [v, w, u] ∧ D.nx (((σ.set i (some v)).set j (some w)).set k (some u)) H1
theorem ps_par3 {i j k : Nat} {x y z : Str} {a b c : Expr} {ta : TA} {px py pz pt : Pos} {kt k2 pt2} (hc : X.calm = true) (hN : X.N.Nodup) (hi : X.N[i]? = some x) (hj : X.N[j]? = some y) (hk : X.N[k]? = some z) (hij : i ≠ j) (hik : i ≠ k) (hjk : j ≠ k)
    (hx : X.env.scope.names.lookup x = some .local) (hy : X.env.scope.names.lookup y = some .local) (hz : X.env.scope.names.lookup z = some .local) (ha : PA X [a, b, c] ta)
    (hw : swappedStores [.Tuple [.Name x px, .Name y py, .Name z pz] kt pt] (.Tuple [a, b, c] k2 pt2) X.env = pure (some [x, y, z]))
    (hs : swapsWithSole [.Tuple [.Name x px, .Name y py, .Name z pz] kt pt] (.Tuple [a, b, c] k2 pt2) pos.line X.env = pure false := by rfl) :
    PS X (.Assign [.Tuple [.Name x px, .Name y py, .Name z pz] kt pt] (.Tuple [a, b, c] k2 pt2) pos) (tPar3 i j k ta) := by
  intro pins s σ H D I h
  rw [exec_Assign_arm]
  refine wpAny_bind (wpAny_standAt ?_)
  rw [hs]
  refine wpAny_bind (wpAny_pure ?_)
  rw [if_neg (by decide)]
  refine wpAny_bind (Tuple_ (thn (ha _ s σ H _ I h) fun us s1 ⟨vs, H1, I1, r1, q1⟩ => ?_))
  obtain ⟨v, w, t, e1, q1⟩ := q1
  subst e1
  obtain ⟨u1, u2, u3, rfl, rv, rw', rt⟩ : ∃ u1 u2 u3, us = [u1, u2, u3] ∧ RelV v u1 ∧ RelV w u2 ∧ RelV t u3 := by
    cases r1 with
    | cons p q =>
      cases q with
      | cons p' q' =>
        cases q' with
        | cons p'' q'' =>
          cases q''
          exact ⟨_, _, _, rfl, p, p', p''⟩
  refine wpAny_newObj_type ?_ (by show 3 ≤ sizeLine; decide)
  have I2 : Inv X pins σ H1 { s1 with heap := s1.heap.push { cls := .type "tuple", data := .seq [u1, u2, u3].toArray } } := I1.kept (t' := s1.toks) fun b o e => Heap.get?_push_of_some _ e
  rw [hw]
  refine wpAny_bind (wpAny_pure ?_)
  show wpAny (model X.prog X.w) X.A (do rule "assign.swapped-stores"; let items ← unpackItems (.ref s1.heap.objs.size) 3 none; assignInOrder [fun v => bindName X.env z v, fun v => bindName X.env y v, fun v => bindName X.env x v] items.reverse; pure Flow.next) _ _ _
  refine wpAny_bind (wpAny_rule (wpAny_bind (unpackItems_tuple (items := #[u1, u2, u3]) (I.ok.hd hc) (IsTup.new s1.heap _) fun h' hx' => ?_)))
  have I3 := I2.kept (h' := h') (t' := s1.toks) fun b o e => hx' b o (Nat.ne_of_lt (Heap.lt_size e)) e
  show wpAny _ _ (assignInOrder [fun v => bindName X.env z v, fun v => bindName X.env y v, fun v => bindName X.env x v] [u3, u2, u1] >>= fun _ => pure Flow.next) _ _ _
  refine wpAny_bind (assignInOrder_cons (wpAny_bindName (store_ok I3 hN hk (.inl hz) rt (fun s2 I4 => ?_) (.inr hz))))
  refine assignInOrder_cons (wpAny_bindName (store_ok I4 hN hj (.inl hy) rw' (fun s3 I5 => ?_) (.inr hy)))
  refine assignInOrder_cons (wpAny_bindName (store_ok I5 hN hi (.inl hx) rv (fun s4 I6 => assignInOrder_nil (wpAny_pure ?_)) (.inr hx)))
  have e : ((σ.set k (some t)).set j (some w)).set i (some v) = ((σ.set i (some v)).set j (some w)).set k (some t) := by
    rw [List.set_comm (a := some w) (b := some v) (l := σ.set k (some t)) (Ne.symm hij), List.set_comm (a := some t) (b := some v) (l := σ) (Ne.symm hik), List.set_comm (a := some t) (b := some w) (l := σ.set i (some v)) (Ne.symm hjk)]
  rw [e] at I6
  exact ⟨_, H1, I6, q1⟩
end
end L2
set_option Elab.async false
set_option linter.all false
set_option maxRecDepth 100000
set_option maxHeartbeats 4000000
namespace L2
open PySem PySem.Spec PyProof.Rows
theorem vals_of_get : ∀ {xs : List V} {us : List Value}, xs.length = us.length → (∀ (i : Nat) (w : Value), us[i]? = some w → ∃ x, xs[i]? = some x ∧ RelV x w) → Vals xs us
  | [], [], _, _ => .nil
  | [], _ :: _, h, _ => by cases h
  | _ :: _, [], h, _ => by cases h
  | x :: xs, u :: us, h, g => by
    refine .cons ?_ (vals_of_get (Nat.succ.inj h) fun i w hw => ?_)
    · obtain ⟨y, hy, r⟩ := g 0 u rfl
      cases hy
      exact r
    · obtain ⟨y, hy, r⟩ := g (i + 1) w (by simpa using hw)
      exact ⟨y, by simpa using hy, r⟩
section
variable {X : Cx}
/-- list(a range) -/
theorem call_list_rng (hc : X.calm = true) : CallR X (.type "list") (fun xs H Q => ∃ (p : Addr) (n : Int), xs = [.ref p] ∧ H p = some (.rng 0 n) ∧ 0 ≤ n ∧ n ≤ 1000 ∧ ∀ l, H l = none → Q (.ref l) (upd H l (.lst ((List.range n.toNat).map fun i => V.int (i : Nat))))) := by
  intro pins s σ H xs us Q I r h
  obtain ⟨p, n, rfl, hp, h0, hn, q⟩ := h
  obtain ⟨u, rfl, rx⟩ := vals1 r
  cases rx
  obtain ⟨t, u, v, e⟩ := (show ObjOk X.prog X.w H s.heap p (.rng 0 n) from I.hok p _ hp)
  refine call_list_range (n := n.toNat) (I.ok.hd hc) e (small_one (by decide) (by decide) (by omega) (by omega)) (by rw [rangeSize_one]; split <;> omega) (by omega) fun h' tk acc' c' hk hS hacc => ?_
  refine ⟨.ref s.heap.objs.size, _, I.laid (t' := tk) hk (Nat.le_refl _) (show ObjOk X.prog X.w _ h' _ (.lst ((List.range n.toNat).map fun i => V.int (i : Nat))) from ⟨?_, acc'.toList, c', ?_, by simpa using hS⟩), rfl, q _ (I.hok.fresh (Nat.le_refl _))⟩
  · rw [List.length_map, List.length_range]
    exact Nat.le_of_lt (small1000 (by omega))
  · refine vals_of_get (by simp [hacc.1]) fun i w hw => ?_
    obtain ⟨t, rfl⟩ := hacc.2 i w (by simpa using hw)
    have hi : i < n.toNat := by
      have := (List.getElem?_eq_some_iff.mp hw).1
      simp [hacc.1] at this
      omega
    refine ⟨.int (i : Nat), by rw [List.getElem?_map, List.getElem?_range hi]; rfl, t, ?_⟩
    simp
end
end L2
set_option Elab.async false
set_option linter.all false
set_option maxRecDepth 100000
set_option maxHeartbeats 4000000
namespace L2
open PySem PySem.Spec PyProof.Rows
section
variable {prog : Program} {w : World} {A : Around} {E : Value → Shared → Prop} {s : Shared}
end
/-- range(n) as a thing -/
def tRng (ta : TA) : TE := fun σ H Q => ta σ H fun vs H1 => ∃ n : Nat, vs = [.int (n : Nat)] ∧ ∀ p, H1 p = none → Q (.ref p) (upd H1 p (.rng 0 n))
section
variable {X : Cx} {tg : Expr}
theorem pe_rng {a : Expr} {ta : TA} {p pos : Pos} (hg : Gl X "range") (hm : X.mg "range" = none) (ha : PA X [a] ta) (hs : starEach [a] X.env = [(false, eval a X.env)] := by rfl) : PE X (.Call (.Name "range" p) [a] [] pos) (tRng ta) := by
  intro pins s σ H Q I h
  refine wpAny_Call_Name_kw (ld_blt I hg hm boot_range ?_ (by decide) (by decide))
  refine PyProof.Rows.callWith_type1 (thn (ha pos s σ H _ I h) fun us s1 ⟨vs, H1, I1, r1, q1⟩ => ?_) hs rfl
  obtain ⟨n, rfl, q⟩ := q1
  cases r1 with
  | cons r rr =>
    cases rr
    obtain ⟨t, rfl⟩ := r
    refine call_range_1 ?_
    exact ⟨.ref s1.heap.objs.size, _, I1.laid (a := s1.heap.objs.size) (o := .rng 0 n) (t' := s1.toks + 1 + 1) (fun _ _ e => Heap.get?_push_of_some _ e) (Nat.le_refl _) ⟨_, _, _, Heap.get?_push_size _ rfl⟩, rfl, q _ (I1.hok.fresh (Nat.le_refl _))⟩
end
end L2
set_option Elab.async false
set_option linter.all false
set_option maxRecDepth 100000
set_option maxHeartbeats 4000000
namespace L2
open PySem PySem.Spec PyProof.Rows
end L2
namespace My
open PySem L2
def top (i : Nat) : Stmt := PySem.Challenge.pw_steploft_k68_which_words_differ.main.body.getD i (.Pass ⟨0, 0, 0, 0⟩)
abbrev sSack : Stmt := top 25
abbrev sPull : Stmt := top 26
/-- the bag: two numbers in a list; n bounds the draws done -/
def Sack (H : Hp) (k : Addr) (n : Nat) : Prop := ∃ a b : Int, H k = some (.lst [.int a, .int b]) ∧ 0 ≤ a ∧ 0 ≤ b ∧ b ≤ (n : Int) + 10000
theorem Sack.mono {H : Hp} {k : Addr} {n m : Nat} (h : Sack H k n) (e : n ≤ m) : Sack H k m := by
  obtain ⟨a, b, h1, h2, h3, h4⟩ := h
  exact ⟨a, b, h1, h2, h3, by omega⟩
theorem Sack.same {H H' : Hp} {k : Addr} {n : Nat} (h : Sack H k n) (e : Same H H') : Sack H' k n := by
  obtain ⟨a, b, h1, h2⟩ := h
  exact ⟨a, b, e _ _ h1, h2⟩
def spPull : Sp := fun vs H Q _ => ∃ (k : Addr) (many : Int) (n : Nat), vs = [.ref k, .int many] ∧ Sack H k n ∧ n < 1000000 ∧ 0 < many ∧ many < 1000000 ∧
  ∀ (r : Int) (H' : Hp), 0 ≤ r → r < many → SameBut k H H' → Sack H' k (n + 1) → Q (.int r) H'
def spSack : Sp := fun vs H Q _ => ∃ (cell j : Int), vs = [.int cell, .int j] ∧ 0 ≤ j ∧ j < 100 ∧ ∀ (k : Addr) (H' : Hp), H k = none → Same H H' → Sack H' k 0 → Q (.ref k) H'
section
variable {P : Program} {w : World} {K : PySem.W.Frag} {mg : Str → Option Value} {base : Heap}
theorem scPull : FnScope ["bag", "many", "digit", "one"] ["bag", "many"] (defScope sPull) := ⟨rfl, rfl, rfl, by decide +kernel, rfl, by decide +kernel, by decide +kernel⟩
theorem ok_pull {f : Addr} {fd : FuncData} (F : Fun K "_law_draw" "_law_draw" sPull f fd) : FnOk P w K mg base CX0 1 f fd ["bag", "many"] spPull := by
  refine F.ok scPull (fun vs H Q E h => ?_) (fun cdv A outer s H vs Q E hr h => ?_)
  · obtain ⟨k, many, n, rfl, _⟩ := h
    rfl
  · obtain ⟨k, many, n, rfl, ⟨a, b, hk, ha, hb, hbn⟩, hn, hm0, hm1, q⟩ := h
    refine ⟨_, pss_cons (ps_augS (pv 0) pe_int get_list pe_int ip_add set_list) (pss_cons (ps_if (pt_cmpR op_ge (pe_ix ix_list (pv 0) pe_int (fun _ _ => rfl)) (pe_op op_pow pe_int pe_int) (nomark _)) (pss_cons (ps_set (i := 2) scPull.nd rfl (Or.inl rfl) (pe_op op_mod (pe_ix ix_list (pv 0) pe_int (fun _ _ => rfl)) (pv 1))) (pss_cons (ps_asg (pe_op op_fdiv (pe_ix ix_list (pv 0) pe_int (fun _ _ => rfl)) (pv 1)) (pg_sub (pv 0) pe_int set_list)) (pss_one (ps_ret (pv 2))))) pss_nil) (pss_cons (ps_set (i := 3) scPull.nd rfl (Or.inl rfl) (pe_op op_mod (pe_op op_add (pe_op op_add (pe_op op_mod (pe_ix ix_list (pv 0) pe_int (fun _ _ => rfl)) pe_int) (pe_op op_mul pe_int (pe_ix ix_list (pv 0) pe_int (fun _ _ => rfl)))) pe_int) pe_int)) (pss_cons (ps_set (i := 3) scPull.nd rfl (Or.inl rfl) (pe_op op_mod (pe_op op_mul (pv 3) (pv 3)) pe_int)) (pss_cons (ps_set (i := 3) scPull.nd rfl (Or.inl rfl) (pe_op op_mod (pe_op op_add (pv 3) (pe_op op_mul pe_int (pe_ix ix_list (pv 0) pe_int (fun _ _ => rfl)))) pe_int)) (pss_cons (ps_set (i := 3) scPull.nd rfl (Or.inl rfl) (pe_op op_mod (pe_op op_mul (pv 3) (pv 3)) pe_int)) (pss_one (ps_ret (pe_op op_mod (pe_op op_fdiv (pv 3) pe_int) (pv 1))))))))), ?_⟩
    have hk2 : ∀ o, upd H k o k = some o := fun o => upd_same
    refine ⟨_, rfl, k, _, _, _, rfl, rfl, SqL.of hk, rfl, _, _, rfl, rfl, k, _, _, 1, rfl, rfl, hk, rfl, ?_⟩
    refine ⟨_, rfl, k, _, _, _, rfl, rfl, SqL.of (hk2 _), rfl, _, _, rfl, rfl, ⟨by decide, by decide, by decide⟩, _, _, rfl, rfl, _, rfl, ?_⟩
    refine ite2 (fun z => ?_) (fun z => ?_)
    · refine ⟨_, rfl, k, _, _, _, rfl, rfl, SqL.of (hk2 _), rfl, _, rfl, _, _, rfl, rfl, hm0, ?_⟩
      refine ⟨_, rfl, k, _, _, _, rfl, rfl, SqL.of (hk2 _), rfl, _, rfl, _, _, rfl, rfl, ⟨hm0, by omega⟩, _, rfl, k, _, _, 0, rfl, rfl, hk2 _, rfl, ?_⟩
      refine ⟨_, rfl, ?_⟩
      exact q _ _ (Int.emod_nonneg _ (by omega)) (Int.emod_lt_of_pos _ hm0) (SameBut.upd.trans SameBut.upd) ⟨a / many, b + 1, upd_same, Int.ediv_nonneg ha (by omega), by omega, by omega⟩
    · have c1 : ∀ x : Int, 0 ≤ x % 2147483587 ∧ x % 2147483587 < 2147483587 := fun x => ⟨Int.emod_nonneg _ (by decide), Int.emod_lt_of_pos _ (by decide)⟩
      have c2 : ∀ x : Int, 0 ≤ x % 2147483563 ∧ x % 2147483563 < 2147483563 := fun x => ⟨Int.emod_nonneg _ (by decide), Int.emod_lt_of_pos _ (by decide)⟩
      have sm1 : ∀ x : Int, -(2 ^ 64) < x % 2147483587 ∧ x % 2147483587 < 2 ^ 64 := fun x => by have := c1 x; omega
      have sm2 : ∀ x : Int, -(2 ^ 64) < x % 2147483563 ∧ x % 2147483563 < 2 ^ 64 := fun x => by have := c2 x; omega
      refine ⟨_, rfl, k, _, _, _, rfl, rfl, SqL.of (hk2 _), rfl, _, _, rfl, rfl, (by show (0 : Int) < 2147483629; decide), _, rfl, k, _, _, _, rfl, rfl, SqL.of (hk2 _), rfl, _, _, rfl, rfl, .inl ⟨by decide, by decide⟩, _, _, rfl, rfl, _, _, rfl, rfl, _, _, rfl, rfl, (by show (0 : Int) < 2147483587; decide), ?_⟩
      refine ⟨_, rfl, _, rfl, _, _, rfl, rfl, .inl (sm1 _), _, _, rfl, rfl, (by show (0 : Int) < 2147483587; decide), ?_⟩
      refine ⟨_, rfl, _, rfl, k, _, _, _, rfl, rfl, SqL.of (hk2 _), rfl, _, _, rfl, rfl, .inl ⟨by decide, by decide⟩, _, _, rfl, rfl, _, _, rfl, rfl, (by show (0 : Int) < 2147483563; decide), ?_⟩
      refine ⟨_, rfl, _, rfl, _, _, rfl, rfl, .inl (sm2 _), _, _, rfl, rfl, (by show (0 : Int) < 2147483563; decide), ?_⟩
      refine ⟨_, rfl, _, _, rfl, rfl, ⟨by decide, by decide⟩, _, rfl, _, _, rfl, rfl, hm0, ?_⟩
      exact q _ _ (Int.emod_nonneg _ (by omega)) (Int.emod_lt_of_pos _ hm0) SameBut.upd ⟨a, b + 1, upd_same, ha, by omega, by omega⟩
theorem scSack : FnScope ["cell", "k"] ["cell", "k"] (defScope sSack) := ⟨rfl, rfl, rfl, by decide +kernel, rfl, by decide +kernel, by decide +kernel⟩
theorem ok_sack {f : Addr} {fd : FuncData} (F : Fun K "_law_bag" "_law_bag" sSack f fd) : FnOk P w K mg base CX0 1 f fd ["cell", "k"] spSack := by
  refine F.ok scSack (fun vs H Q E h => ?_) (fun cdv A outer s H vs Q E hr h => ?_)
  · obtain ⟨c, j, rfl, _⟩ := h
    rfl
  · obtain ⟨c, j, rfl, hj0, hj1, q⟩ := h
    refine ⟨_, pss_cons (ps_if (pt_cmpR op_lt (pv 0) pe_int (nomark _)) (pss_one (ps_ret (pe_lst (pa_cons (pe_un un_neg (pv 0)) (pa_cons (pe_op op_add (pe_op op_mul pe_int (pv 1)) pe_int) pa_nil))))) pss_nil) (pss_one (ps_ret (pe_lst (pa_cons (pv 0) (pa_cons (pe_op op_mul pe_int (pv 1)) pa_nil))))), ?_⟩
    refine ⟨_, rfl, _, _, rfl, rfl, _, rfl, ?_⟩
    refine ite2 (fun z => ?_) (fun z => ?_)
    · have z := of_decide_eq_true z
      refine ⟨_, rfl, _, rfl, _, rfl, _, _, rfl, rfl, .inl ⟨by decide, by decide⟩, _, _, rfl, rfl, (by show 2 ≤ sizeLine; decide), fun k hk => ?_⟩
      exact q k _ hk (same_new hk _) ⟨_, _, upd_same, by omega, by omega, by omega⟩
    · have z : ¬ c < 0 := fun y => z (decide_eq_true y)
      refine ⟨_, rfl, _, rfl, _, _, rfl, rfl, .inl ⟨by decide, by decide⟩, (by show 2 ≤ sizeLine; decide), fun k hk => ?_⟩
      exact q k _ hk (same_new hk _) ⟨_, _, upd_same, by omega, by omega, by omega⟩
end
end My
set_option Elab.async false
set_option linter.all false
set_option maxRecDepth 100000
set_option maxHeartbeats 4000000
namespace My
open PySem L2 TL
/-- a def of the text, with what a call of it asks -/
structure Df (K : PySem.W.Frag) (mg : Str → Option Value) (x : Str) (st : Stmt) (ps : List Str) where
  f : Addr
  fd : FuncData
  F : Fun K x x st f fd
  b : Binds K fd ps []
  m : mg x = some (.ref f)
def isNameB (x : Str) : Bool := decide (1 ≤ x.length) && decide (x.length ≤ 8) && x.cps.toList.all fun c => decide (97 ≤ c) && decide (c ≤ 122)
def IsName (x : Str) : Prop := isNameB x = true
theorem IsName.len {x : Str} (h : IsName x) : 1 ≤ x.length ∧ x.length ≤ 8 := by
  unfold IsName isNameB at h
  rw [Bool.and_eq_true, Bool.and_eq_true] at h
  exact ⟨of_decide_eq_true h.1.1, of_decide_eq_true h.1.2⟩
theorem IsName.cps {x : Str} (h : IsName x) : ∀ c ∈ x.cps.toList, 97 ≤ c ∧ c ≤ 122 := by
  unfold IsName isNameB at h
  rw [Bool.and_eq_true, List.all_eq_true] at h
  intro c hc
  have q := h.2 c hc
  rw [Bool.and_eq_true] at q
  exact ⟨of_decide_eq_true q.1, of_decide_eq_true q.2⟩
theorem flat_strs (ns : List Str) : (ns.map V.str).all flatV = true := by
  refine List.all_eq_true.mpr fun v hv => ?_
  obtain ⟨y, hy, rfl⟩ := List.mem_map.mp hv
  rfl
structure NamesOk (m : Nat) (ns : List Str) : Prop where
  len : ns.length = m
  nd : ns.Nodup
  all : ∀ x ∈ ns, IsName x
end My
set_option Elab.async false
set_option linter.all false
set_option maxRecDepth 100000
set_option maxHeartbeats 1000000
namespace My
open PySem L2 TL
mutual
inductive Tp (H : Hp) : V → PyData → Prop
  | int (i : Int) : Tp H (.int i) (.int i)
  | str (x : Str) : Tp H (.str x) (.str x)
  | tup {a : Addr} {xs : List V} {ds : List PyData} : H a = some (.tup xs) → TpAll H xs ds → Tp H (.ref a) (.tuple ds)
inductive TpAll (H : Hp) : List V → List PyData → Prop
  | nil : TpAll H [] []
  | cons {v : V} {vs : List V} {d : PyData} {ds : List PyData} : Tp H v d → TpAll H vs ds → TpAll H (v :: vs) (d :: ds)
end
def KeepT (H H' : Hp) : Prop := ∀ b xs, H b = some (.tup xs) → H' b = some (.tup xs)
theorem KeepT.trans {H H1 H2 : Hp} (a : KeepT H H1) (b : KeepT H1 H2) : KeepT H H2 := fun c xs h => b c xs (a c xs h)
theorem KeepT.of {H H' : Hp} (h : Same H H') : KeepT H H' := fun b xs e => h b _ e
theorem KeepT.but {k : Addr} {H H' : Hp} {ys : List V} (h : SameBut k H H') (hk : H k = some (.lst ys)) : KeepT H H' := fun b xs e => h b _ e (by
  intro z
  subst z
  rw [hk] at e
  cases e)
theorem Sack.keepT {k : Addr} {H H' : Hp} {n : Nat} (S : Sack H k n) (h : SameBut k H H') : KeepT H H' := by
  obtain ⟨a, b, hk, _⟩ := S
  exact KeepT.but h hk
mutual
theorem Tp.keep {H H' : Hp} (h : KeepT H H') : ∀ {v : V} {d : PyData}, Tp H v d → Tp H' v d
  | _, _, .int i => .int i
  | _, _, .str x => .str x
  | _, _, .tup e r => .tup (h _ _ e) (TpAll.keep h r)
theorem TpAll.keep {H H' : Hp} (h : KeepT H H') : ∀ {vs : List V} {ds : List PyData}, TpAll H vs ds → TpAll H' vs ds
  | _, _, .nil => .nil
  | _, _, .cons a r => .cons (Tp.keep h a) (TpAll.keep h r)
end
theorem TpAll.strs {H : Hp} : ∀ ns : List Str, TpAll H (ns.map V.str) (ns.map PyData.str)
  | [] => .nil
  | x :: r => .cons (.str x) (TpAll.strs r)
theorem TpAll.strs_inv {H : Hp} : ∀ {ns : List Str} {vs : List V}, TpAll H vs (ns.map PyData.str) → vs = ns.map V.str
  | [], _, .nil => rfl
  | x :: r, _, .cons (.str _) t => by
    rw [TpAll.strs_inv t]
    rfl
structure OwnD where
  bits : Int
  names : List Str
  hidden : Int
  alus : Int
  moves : Int
  cells : Int
def ownD (o : OwnD) : PyData := .tuple [.int o.bits, .tuple (o.names.map PyData.str), .int o.hidden, .int o.alus, .int o.moves, .int o.cells]
structure OwnOk (o : OwnD) : Prop where
  bits : 1 ≤ o.bits ∧ o.bits ≤ 8
  names : ∃ m, NamesOk m o.names ∧ 1 ≤ m ∧ m ≤ 6
  hidden : 0 ≤ o.hidden ∧ o.hidden ≤ 12
  alus : 1 ≤ o.alus ∧ o.alus ≤ 3
  moves : 1 ≤ o.moves ∧ o.moves ≤ 3
  cells : 0 ≤ o.cells ∧ o.cells ≤ 2 ^ o.bits.toNat
theorem own_inv {H : Hp} {p : Addr} {o : OwnD} (h : Tp H (.ref p) (ownD o)) : ∃ q : Addr, H p = some (.tup [.int o.bits, .ref q, .int o.hidden, .int o.alus, .int o.moves, .int o.cells]) ∧ H q = some (.tup (o.names.map V.str)) := by
  unfold ownD at h
  cases h with
  | tup e r =>
    cases r with | cons a r => cases r with | cons b r => cases r with | cons c r => cases r with | cons d r => cases r with | cons f r => cases r with | cons g r =>
      cases r; cases a; cases c; cases d; cases f; cases g
      cases b with
      | tup e2 r2 => exact ⟨_, e, by rw [e2, TpAll.strs_inv r2]⟩
theorem pow_rng : ∀ m : Nat, m ≤ 8 → 1 ≤ m → 2 ≤ (1 : Int) * 2 ^ m ∧ (1 : Int) * 2 ^ m ≤ 256 := by decide
abbrev tp (r : Int) : Int := 1 * 2 ^ (1 + r).toNat
inductive Plc where
  | reg (x : Str)
  | hid (j : Int)
def plcD : Plc → PyData
  | .reg x => .tuple [.str "reg", .str x]
  | .hid j => .tuple [.str "hid", .int j]
inductive Ordr where
  | alu (op : Str) (t a b : Plc)
  | put (t : Plc) (n : Int)
  | two (kind : Str) (t a : Plc)
def opsL : List Str := ["add", "sub", "and", "or", "xor", "less", "same"]
end My
set_option Elab.async false
set_option linter.all false
set_option maxRecDepth 100000
set_option maxHeartbeats 4000000
namespace My
open PySem L2 TL
mutual
theorem Tp.dp {K : PySem.W.Frag} {H : Hp} : ∀ {v : V} {d : PyData}, Tp H v d → Dp K H v d
  | _, _, .int i => .int i
  | _, _, .str x => .str x
  | _, _, .tup e r => .tup (SqT.of e) (TpAll.dp r)
theorem TpAll.dp {K : PySem.W.Frag} {H : Hp} : ∀ {vs : List V} {ds : List PyData}, TpAll H vs ds → DpAll K H vs ds
  | _, _, .nil => .nil
  | _, _, .cons a r => .cons (Tp.dp a) (TpAll.dp r)
end
mutual
theorem Tp.uniq {H : Hp} : ∀ {v : V} {d d' : PyData}, Tp H v d → Tp H v d' → d = d'
  | _, _, _, .int _, .int _ => rfl
  | _, _, _, .str _, .str _ => rfl
  | _, _, _, .tup e r, .tup e' r' => by
    rw [e] at e'
    have := Option.some.inj e'
    injection this with this
    subst this
    rw [TpAll.uniq r r']
theorem TpAll.uniq {H : Hp} : ∀ {vs : List V} {ds ds' : List PyData}, TpAll H vs ds → TpAll H vs ds' → ds = ds'
  | _, _, _, .nil, .nil => rfl
  | _, _, _, .cons a r, .cons a' r' => by rw [Tp.uniq a a', TpAll.uniq r r']
end
section
variable {X : Cx} {pins : List (Addr × Obj)} {σ : St} {H : Hp} {s : Shared}
/-- whether the value's data equals d -/
noncomputable def eT (H : Hp) (d : PyData) (u : Value) : Bool := @decide (∃ x d1, absV u = some x ∧ Tp H x d1 ∧ PyData.eqv d1 d = true) (Classical.propDecidable _)
theorem TpAll.getD {ds : List PyData} : ∀ {xs : List V} {us : List Value} {ds : List PyData} {j : Nat}, TpAll H xs ds → Vals xs us → j < us.length → ∃ x d u, xs[j]? = some x ∧ ds[j]? = some d ∧ us[j]? = some u ∧ Tp H x d ∧ RelV x u
  | _, _, _, _, .nil, .nil, h => by simp at h
  | _, _, _, 0, .cons a t, .cons r rr, _ => ⟨_, _, _, rfl, rfl, rfl, a, r⟩
  | _, _, _, j + 1, .cons a t, .cons r rr, h => by
    obtain ⟨x, d, u, h1, h2, h3, h4⟩ := TpAll.getD (ds := ds) (j := j) t rr (by simpa using h)
    exact ⟨x, d, u, by simpa using h1, by simpa using h2, by simpa using h3, h4⟩
end
namespace SA
open PySem.SeqAt PySem.Spec PyProof.Rows
open PySem.AutoSeq1 (wpAny_loadPart')
open PySem.MeetsSeq PySem.MeetsSeq2 PySem.MeetsSeq3
end SA
section
variable {X : Cx}
open PySem.Spec PyProof.Rows
end
end My
set_option Elab.async false
set_option linter.all false
set_option maxRecDepth 100000
set_option maxHeartbeats 1000000
namespace My
open PySem L2 TL
inductive Part where
  | plc (c : Plc)
  | txt (x : Str)
  | num (n : Int)
def partD : Part → PyData
  | .plc c => plcD c
  | .txt x => .str x
  | .num n => .int n
theorem TpAll.len {H : Hp} : ∀ {vs : List V} {ds : List PyData}, TpAll H vs ds → vs.length = ds.length
  | _, _, .nil => rfl
  | _, _, .cons _ r => by rw [List.length_cons, List.length_cons, TpAll.len r]
theorem TpAll.get {H : Hp} : ∀ {vs : List V} {ps : List Part} {i : Nat} {v : V}, TpAll H vs (ps.map partD) → vs[i]? = some v → ∃ p, ps[i]? = some p ∧ Tp H v (partD p)
  | _, [], _, _, .nil, e => by simp at e
  | _, p :: r, 0, _, .cons h _, e => by
    simp at e
    subst e
    exact ⟨p, rfl, h⟩
  | _, p :: r, i + 1, v, .cons _ t, e => by
    obtain ⟨q, h1, h2⟩ := TpAll.get (i := i) (v := v) t (by simpa using e)
    exact ⟨q, by simpa using h1, h2⟩
end My
set_option Elab.async false
namespace My
open PySem L2 TL
structure Bl (mg : Str → Option Value) : Prop where
  isi : mg "isinstance" = none
  tup : mg "tuple" = none
  str : mg "str" = none
  int : mg "int" = none
  len : mg "len" = none
  range : mg "range" = none
  max : mg "max" = none
  min : mg "min" = none
  list : mg "list" = none
  all : mg "all" = none
  zip : mg "zip" = none
  bool : mg "bool" = none
  sorted : mg "sorted" = none
  enum : mg "enumerate" = none
end My
set_option Elab.async false
set_option linter.all false
set_option maxRecDepth 100000
set_option maxHeartbeats 1000000
namespace My
open PySem L2 TL
structure Wd where
  vis : List Int
  hid : List Int
  mem : List Int
def intsD (ns : List Int) : PyData := .tuple (ns.map PyData.int)
def wdD (s : Wd) : PyData := .tuple [intsD s.vis, intsD s.hid, intsD s.mem]
abbrev top2 (o : OwnD) : Int := 2 ^ o.bits.toNat
structure WdOk (o : OwnD) (s : Wd) : Prop where
  vis : s.vis.length = o.names.length
  hid : s.hid.length = o.hidden.toNat
  mem : s.mem.length = o.cells.toNat
  rng : ∀ x ∈ s.vis ++ s.hid ++ s.mem, 0 ≤ x ∧ x < top2 o
inductive Trm where
  | reg (x : Str)
  | num (n : Int)
  | load (t : Trm)
  | op (k : Str) (a b : Trm)
def trmD : Trm → PyData
  | .reg x => .tuple [.str "reg", .str x]
  | .num n => .tuple [.str "num", .int n]
  | .load t => .tuple [.str "load", trmD t]
  | .op k a b => .tuple [.str k, trmD a, trmD b]
def TrmOk (o : OwnD) : Trm → Prop
  | .reg x => x ∈ o.names
  | .num n => 0 ≤ n ∧ n < top2 o
  | .load t => TrmOk o t
  | .op k a b => k ∈ opsL ∧ TrmOk o a ∧ TrmOk o b
def deep : Trm → Nat
  | .reg _ => 1
  | .num _ => 1
  | .load t => deep t + 1
  | .op _ a b => max (deep a) (deep b) + 1
theorem deep_pos : ∀ t, 1 ≤ deep t
  | .reg _ => Nat.le_refl _
  | .num _ => Nat.le_refl _
  | .load t => Nat.le_add_left _ _
  | .op _ a b => Nat.le_add_left _ _
def opW (o : OwnD) (op : Str) (a b : Int) : Int :=
  if op = Str.ofString "add" then (a + b) % (1 * 2 ^ o.bits.toNat) else if op = Str.ofString "sub" then (a - b) % (1 * 2 ^ o.bits.toNat) else if op = Str.ofString "and" then Builtin.bitAnd a b else
  if op = Str.ofString "or" then Builtin.bitOr a b else if op = Str.ofString "xor" then Builtin.bitXor a b else if op = Str.ofString "less" then (if decide (a < b) = true then 1 else 0) else (if decide (a = b) = true then 1 else 0)
/-- the word of a term; none where it traps -/
def worth (o : OwnD) (s : Wd) : Trm → Option Int
  | .reg x => some (s.vis.getD (o.names.idxOf x) 0)
  | .num n => some n
  | .load t => match worth o s t with
    | some w => if w < o.cells then some (s.mem.getD w.toNat 0) else none
    | none => none
  | .op k a b => match worth o s a, worth o s b with
    | some x, some y => some (opW o k x y)
    | _, _ => none
inductive Pln where
  | dos (sets : List (Str × Trm)) (sp : Option (Trm × Trm))
  | ite (t : Trm) (m n : Pln)
def setD (p : Str × Trm) : PyData := .tuple [.str p.1, trmD p.2]
def spD : Option (Trm × Trm) → List PyData
  | none => []
  | some (c, t) => [.tuple [trmD c, trmD t]]
def plnD : Pln → PyData
  | .dos sets sp => .tuple [.str "do", .tuple (sets.map setD), .tuple (spD sp)]
  | .ite t m n => .tuple [.str "if", trmD t, plnD m, plnD n]
def PlnOk (o : OwnD) : Pln → Prop
  | .dos sets sp => (∀ p ∈ sets, p.1 ∈ o.names ∧ TrmOk o p.2 ∧ deep p.2 ≤ 6) ∧ sets.length ≤ 6 ∧ ∀ c t, sp = some (c, t) → TrmOk o c ∧ TrmOk o t ∧ deep c ≤ 6 ∧ deep t ≤ 6
  | .ite t m n => TrmOk o t ∧ deep t ≤ 6 ∧ PlnOk o m ∧ PlnOk o n
def deepP : Pln → Nat
  | .dos _ _ => 1
  | .ite _ m n => max (deepP m) (deepP n) + 1
/-- the registers behind the sets, or none where one traps -/
def setAll (o : OwnD) (s : Wd) : List (Str × Trm) → List Int → Option (List Int)
  | [], v => some v
  | (x, t) :: r, v => match worth o s t with
    | some w => setAll o s r (v.set (o.names.idxOf x) w)
    | none => none
def storeAll (o : OwnD) (s : Wd) : Option (Trm × Trm) → Option (List Int)
  | none => some s.mem
  | some (c, t) => match worth o s c, worth o s t with
    | some x, some y => if x < o.cells then some (s.mem.set x.toNat y) else none
    | _, _ => none
def doMean (o : OwnD) (s : Wd) (sets : List (Str × Trm)) (sp : Option (Trm × Trm)) : PyData :=
  match setAll o s sets s.vis, storeAll o s sp with
  | some v, some m => .tuple [intsD v, intsD m]
  | _, _ => .tuple [.str "trap"]
def meanD (o : OwnD) (s : Wd) : Pln → PyData
  | .dos sets sp => doMean o s sets sp
  | .ite t m n => match worth o s t with
    | some w => if w = 0 then meanD o s n else meanD o s m
    | none => .tuple [.str "trap"]
theorem getD_rng {o : OwnD} {ns : List Int} {j : Nat} (h : ∀ x ∈ ns, 0 ≤ x ∧ x < top2 o) (h0 : 0 < top2 o) : 0 ≤ ns.getD j 0 ∧ ns.getD j 0 < top2 o := by
  rw [List.getD_eq_getElem?_getD]
  cases e : ns[j]? with
  | none => exact ⟨Int.le_refl _, h0⟩
  | some v => exact h v (List.mem_of_getElem? e)
theorem top_pos {o : OwnD} (hO : OwnOk o) : 2 ≤ top2 o ∧ top2 o ≤ 256 := by
  have hb := hO.bits
  have := pow_rng o.bits.toNat (by omega) (by omega)
  rw [Int.one_mul] at this
  exact this
theorem bits_nat {o : OwnD} {a : Int} (h : 0 ≤ a ∧ a < top2 o) : ∃ n : Nat, a = (n : Int) ∧ n < 2 ^ o.bits.toNat := by
  refine ⟨a.toNat, by omega, ?_⟩
  have h2 : ((2 ^ o.bits.toNat : Nat) : Int) = top2 o := by rw [Int.natCast_pow]; rfl
  omega
theorem nat_bits {o : OwnD} {n : Nat} (h : n < 2 ^ o.bits.toNat) : 0 ≤ (n : Int) ∧ (n : Int) < top2 o := by
  have h2 : ((2 ^ o.bits.toNat : Nat) : Int) = top2 o := by rw [Int.natCast_pow]; rfl
  omega
theorem land_nat (a b : Nat) : Builtin.bitAnd (a : Int) (b : Int) = ((a &&& b : Nat) : Int) := rfl
theorem half_split (f : Nat → Nat → Nat) (hd : ∀ a b, f a b / 2 = f (a / 2) (b / 2)) (hm : ∀ a b, f a b % 2 = f (a % 2) (b % 2)) (a b : Nat) : f a b = f (a % 2) (b % 2) + 2 * f (a / 2) (b / 2) := by
  rw [← hd, ← hm]
  omega
theorem and_half (a b : Nat) : a &&& b = (a % 2 &&& b % 2) + 2 * (a / 2 &&& b / 2) := half_split (· &&& ·) (fun a b => Nat.and_div_two) (fun a b => Nat.and_mod_two_pow (n := 1)) a b
theorem or_half (a b : Nat) : a ||| b = (a % 2 ||| b % 2) + 2 * (a / 2 ||| b / 2) := half_split (· ||| ·) (fun a b => Nat.or_div_two) (fun a b => Nat.or_mod_two_pow (n := 1)) a b
theorem xor_half (a b : Nat) : a ^^^ b = (a % 2 ^^^ b % 2) + 2 * (a / 2 ^^^ b / 2) := half_split (· ^^^ ·) (fun a b => Nat.xor_div_two) (fun a b => Nat.xor_mod_two_pow (n := 1)) a b
theorem small2 : ∀ i, i < 2 → ∀ j, j < 2 → (i &&& j) + (i ||| j) = i + j ∧ (i ^^^ j) + 2 * (i &&& j) = i + j := by decide +kernel
theorem and_or_xor : ∀ n a b, a < 2 ^ n → b < 2 ^ n → (a &&& b) + (a ||| b) = a + b ∧ (a ^^^ b) + 2 * (a &&& b) = a + b
  | 0, a, b, ha, hb => by
    have e1 : a = 0 := by simpa using ha
    have e2 : b = 0 := by simpa using hb
    rw [e1, e2]
    decide
  | n + 1, a, b, ha, hb => by
    obtain ⟨h1, h2⟩ := and_or_xor n (a / 2) (b / 2) (by rw [Nat.pow_succ] at ha; omega) (by rw [Nat.pow_succ] at hb; omega)
    obtain ⟨g1, g2⟩ := small2 (a % 2) (Nat.mod_lt _ (by decide)) (b % 2) (Nat.mod_lt _ (by decide))
    have e1 := and_half a b
    have e2 := or_half a b
    have e3 := xor_half a b
    omega
theorem lor_nat {n a b : Nat} (ha : a < 2 ^ n) (hb : b < 2 ^ n) : Builtin.bitOr (a : Int) (b : Int) = ((a ||| b : Nat) : Int) := by
  rw [PyProof.Rows.bitOr_and, land_nat]
  have := (and_or_xor n a b ha hb).1
  omega
theorem xor_nat {n a b : Nat} (ha : a < 2 ^ n) (hb : b < 2 ^ n) : Builtin.bitXor (a : Int) (b : Int) = ((a ^^^ b : Nat) : Int) := by
  rw [PyProof.Rows.bitXor_and, land_nat]
  have := (and_or_xor n a b ha hb).2
  omega
theorem opW_rng {o : OwnD} (hO : OwnOk o) {k : Str} {a b : Int} (ha : 0 ≤ a ∧ a < top2 o) (hb : 0 ≤ b ∧ b < top2 o) : 0 ≤ opW o k a b ∧ opW o k a b < top2 o := by
  obtain ⟨t0, t1⟩ := top_pos hO
  obtain ⟨x, rfl, hx⟩ := bits_nat ha
  obtain ⟨y, rfl, hy⟩ := bits_nat hb
  unfold opW
  rw [Int.one_mul]
  have m1 : ∀ z : Int, 0 ≤ z % top2 o ∧ z % top2 o < top2 o := fun z => ⟨Int.emod_nonneg _ (by omega), Int.emod_lt_of_pos _ (by omega)⟩
  repeat' split
  · exact m1 _
  · exact m1 _
  · rw [land_nat]; exact nat_bits (Nat.and_lt_two_pow _ hy)
  · rw [lor_nat hx hy]; exact nat_bits (Nat.or_lt_two_pow hx hy)
  · rw [xor_nat hx hy]; exact nat_bits (Nat.xor_lt_two_pow hx hy)
  all_goals omega
theorem worth_rng {o : OwnD} (hO : OwnOk o) {s : Wd} (hW : WdOk o s) : ∀ {t : Trm} {w : Int}, TrmOk o t → worth o s t = some w → 0 ≤ w ∧ w < top2 o
  | .reg x, w, _, e => by
    have e : s.vis.getD (o.names.idxOf x) 0 = w := Option.some.inj e
    rw [← e]
    exact getD_rng (fun z hz => hW.rng z (by simp [hz])) (by have := top_pos hO; omega)
  | .num n, w, h, e => by
    have e : n = w := Option.some.inj e
    rw [← e]
    exact h
  | .load t, w, h, e => by
    unfold worth at e
    cases e1 : worth o s t with
    | none => rw [e1] at e; cases e
    | some v =>
      rw [e1] at e
      by_cases z : v < o.cells
      · rw [show (match some v with | some w => if w < o.cells then some (s.mem.getD w.toNat 0) else none | none => (none : Option Int)) = some (s.mem.getD v.toNat 0) from if_pos z] at e
        have e := Option.some.inj e
        rw [← e]
        exact getD_rng (fun z hz => hW.rng z (by simp [hz])) (by have := top_pos hO; omega)
      · rw [show (match some v with | some w => if w < o.cells then some (s.mem.getD w.toNat 0) else none | none => (none : Option Int)) = none from if_neg z] at e
        cases e
  | .op k a b, w, h, e => by
    unfold worth at e
    cases e1 : worth o s a with
    | none => rw [e1] at e; cases e
    | some x =>
      cases e2 : worth o s b with
      | none => rw [e1, e2] at e; cases e
      | some y =>
        rw [e1, e2] at e
        have e : opW o k x y = w := Option.some.inj e
        rw [← e]
        exact opW_rng hO (worth_rng hO hW h.2.1 e1) (worth_rng hO hW h.2.2 e2)
end My
set_option Elab.async false
set_option linter.all false
set_option maxRecDepth 100000
set_option maxHeartbeats 4000000
namespace My
open PySem L2 TL
abbrev sLimit : Stmt := top 4
abbrev sOpW : Stmt := top 5
abbrev sTW : Stmt := top 10
theorem ints_inv {H : Hp} : ∀ {ns : List Int} {vs : List V}, TpAll H vs (ns.map PyData.int) → vs = ns.map V.int
  | [], _, .nil => rfl
  | x :: r, _, .cons (.int _) t => by
    rw [ints_inv t]
    rfl
theorem ints_tp {H : Hp} : ∀ ns : List Int, TpAll H (ns.map V.int) (ns.map PyData.int)
  | [] => .nil
  | x :: r => .cons (.int x) (ints_tp r)
theorem wd_inv {H : Hp} {a : Addr} {s : Wd} (h : Tp H (.ref a) (wdD s)) : ∃ v h' m : Addr, H a = some (.tup [.ref v, .ref h', .ref m]) ∧ H v = some (.tup (s.vis.map V.int)) ∧ H h' = some (.tup (s.hid.map V.int)) ∧ H m = some (.tup (s.mem.map V.int)) := by
  unfold wdD intsD at h
  cases h with
  | tup e r =>
    cases r with | cons a r => cases r with | cons b r => cases r with | cons c r =>
      cases r
      cases a with | tup e1 r1 => cases b with | tup e2 r2 => cases c with | tup e3 r3 =>
        rw [ints_inv r1] at e1
        rw [ints_inv r2] at e2
        rw [ints_inv r3] at e3
        exact ⟨_, _, _, e, e1, e2, e3⟩
theorem int_at {ns : List Int} {j : Nat} (h : j < ns.length) : atI (ns.map V.int) (j : Nat) = some (.int (ns.getD j 0)) := by
  refine atI_nat (j := j) ?_
  rw [List.getElem?_map, List.getElem?_eq_getElem h, List.getD_eq_getElem?_getD, List.getElem?_eq_getElem h]
  rfl
theorem str_idx {xs : List Str} {x : Str} (h : x ∈ xs) : (xs.map V.str)[xs.idxOf x]? = some (.str x) ∧ eqV (.str x) (.str x) = true ∧ ∀ (m : Nat) (z' : V), m < xs.idxOf x → (xs.map V.str)[m]? = some z' → eqV z' (.str x) = false := by
  have l : xs.idxOf x < xs.length := List.idxOf_lt_length_of_mem h
  refine ⟨?_, beq_self_eq_true x, fun m z hm hz => ?_⟩
  · rw [List.getElem?_map, List.getElem?_eq_getElem l, List.getElem_idxOf l]
    rfl
  · rw [List.getElem?_map, List.getElem?_eq_getElem (by omega)] at hz
    have hz : V.str xs[m] = z := Option.some.inj hz
    subst hz
    show (xs[m] == x) = false
    have hm : m < List.findIdx (· == x) xs := hm
    simpa using List.not_of_lt_findIdx hm
theorem at0 {v : V} {xs : List V} : atI (v :: xs) 0 = some v := atI_nat (xs := v :: xs) (j := 0) rfl
theorem ops_ne : ∀ x ∈ opsL, ¬ x = Str.ofString "reg" ∧ ¬ x = Str.ofString "num" ∧ ¬ x = Str.ofString "load" := by
  have h : opsL.all (fun x => decide (¬ x = Str.ofString "reg" ∧ ¬ x = Str.ofString "num" ∧ ¬ x = Str.ofString "load")) = true := by decide +kernel
  exact fun x hx => of_decide_eq_true (List.all_eq_true.mp h x hx)
theorem nr : ¬ Str.ofString "num" = Str.ofString "reg" := by decide +kernel
theorem lr : ¬ Str.ofString "load" = Str.ofString "reg" := by decide +kernel
theorem ln : ¬ Str.ofString "load" = Str.ofString "num" := by decide +kernel
theorem trm_ref {H : Hp} {v : V} {t : Trm} (h : Tp H v (trmD t)) : ∃ a, v = .ref a := by
  cases t <;> (unfold trmD at h; cases h; exact ⟨_, rfl⟩)
def optV : Option Int → V
  | some n => .int n
  | none => .non
section
variable {P : Program} {w : World} {K : PySem.W.Frag} {mg : Str → Option Value} {base : Heap}
def spLimit : Sp := fun vs H Q _ => ∃ (p : Addr) (o : OwnD), vs = [.ref p] ∧ Tp H (.ref p) (ownD o) ∧ OwnOk o ∧ Q (.int (1 * 2 ^ o.bits.toNat)) H
def spOpW : Sp := fun vs H Q _ => ∃ (p : Addr) (o : OwnD) (op : Str) (a b : Int), vs = [.ref p, .str op, .int a, .int b] ∧ Tp H (.ref p) (ownD o) ∧ OwnOk o ∧ Q (.int (opW o op a b)) H
theorem scLimit : FnScope ["machine"] ["machine"] (defScope sLimit) := ⟨rfl, rfl, rfl, by decide +kernel, rfl, by decide +kernel, by decide +kernel⟩
theorem ok_limit {f : Addr} {fd : FuncData} (F : Fun K "word_limit" "word_limit" sLimit f fd) : FnOk P w K mg base CX0 1 f fd ["machine"] spLimit := by
  refine F.ok scLimit (fun vs H Q E h => ?_) (fun cdv A outer s H vs Q E hr h => ?_)
  · obtain ⟨p, o, rfl, _⟩ := h
    rfl
  · obtain ⟨p, o, rfl, hT, hO, q⟩ := h
    refine ⟨_, pss_one (ps_ret (pe_op op_shl pe_int (pe_ix ix_tup (pv 0) pe_int (fun _ _ => rfl)))), ?_⟩
    obtain ⟨qa, hp, hq⟩ := own_inv hT
    have hb := hO.bits
    exact ⟨_, rfl, p, _, _, _, rfl, rfl, SqT.of hp, rfl, _, _, rfl, rfl, ⟨by omega, by omega, by decide⟩, q⟩
theorem scOpW : FnScope ["machine", "op", "one", "other"] ["machine", "op", "one", "other"] (defScope sOpW) := ⟨rfl, rfl, rfl, by decide +kernel, rfl, by decide +kernel, by decide +kernel⟩
theorem ok_opW {f : Addr} {fd : FuncData} (F : Fun K "op_word" "op_word" sOpW f fd) (dL : Df K mg "word_limit" sLimit ["machine"]) (B : Bl mg) : FnOk P w K mg base CX0 2 f fd ["machine", "op", "one", "other"] spOpW := by
  have GL : FnOk P w K mg base CX0 1 dL.f dL.fd ["machine"] spLimit := ok_limit dL.F
  refine F.ok scOpW (fun vs H Q E h => ?_) (fun cdv A outer s H vs Q E hr h => ?_)
  · obtain ⟨p, o, op, a, b, rfl, _⟩ := h
    rfl
  · obtain ⟨p, o, op, a, b, rfl, hT, hO, q⟩ := h
    refine ⟨_, pss_cons (ps_if (pt_cmpR op_eq (pv 1) pe_str (nomark _)) (pss_one (ps_ret (pe_op op_mod (pe_op op_add (pv 2) (pv 3)) (pe_call GL hr rfl dL.m dL.F.kp dL.b .nil pass0 (pa_cons (pv 0) pa_nil))))) pss_nil)
      (pss_cons (ps_if (pt_cmpR op_eq (pv 1) pe_str (nomark _)) (pss_one (ps_ret (pe_op op_mod (pe_op op_sub (pv 2) (pv 3)) (pe_call GL hr rfl dL.m dL.F.kp dL.b .nil pass0 (pa_cons (pv 0) pa_nil))))) pss_nil)
      (pss_cons (ps_if (pt_cmpR op_eq (pv 1) pe_str (nomark _)) (pss_one (ps_ret (pe_op op_and (pv 2) (pv 3)))) pss_nil)
      (pss_cons (ps_if (pt_cmpR op_eq (pv 1) pe_str (nomark _)) (pss_one (ps_ret (pe_op op_or (pv 2) (pv 3)))) pss_nil)
      (pss_cons (ps_if (pt_cmpR op_eq (pv 1) pe_str (nomark _)) (pss_one (ps_ret (pe_op op_xor (pv 2) (pv 3)))) pss_nil)
      (pss_cons (ps_if (pt_cmpR op_eq (pv 1) pe_str (nomark _)) (pss_one (ps_ret (pe_callTy call_int1 (by rfl) B.int (by decide +kernel) (pa_cons (pe_cmpR op_lt (pv 2) (pv 3) (nomark _)) pa_nil)))) pss_nil)
      (pss_one (ps_ret (pe_callTy call_int1 (by rfl) B.int (by decide +kernel) (pa_cons (pe_cmpR op_eq (pv 2) (pv 3) (nomark _)) pa_nil))))))))), ?_⟩
    have hb := hO.bits
    obtain ⟨t0, t1⟩ := pow_rng o.bits.toNat (by omega) (by omega)
    have tpos : (0 : Int) < 1 * 2 ^ o.bits.toNat := by omega
    unfold opW at q
    refine ⟨_, rfl, rfl, _, rfl, ?_⟩
    refine ite2 (fun c => ?_) (fun c => ?_)
    · rw [if_pos (V.str.inj (of_decide_eq_true c))] at q
      exact ⟨_, rfl, _, rfl, _, _, rfl, rfl, _, rfl, p, o, rfl, hT, hO, _, _, rfl, rfl, tpos, q⟩
    rw [if_neg (fun z => c (decide_eq_true (congrArg V.str z)))] at q
    refine ⟨_, rfl, rfl, _, rfl, ?_⟩
    refine ite2 (fun c => ?_) (fun c => ?_)
    · rw [if_pos (V.str.inj (of_decide_eq_true c))] at q
      exact ⟨_, rfl, _, rfl, _, _, rfl, rfl, _, rfl, p, o, rfl, hT, hO, _, _, rfl, rfl, tpos, q⟩
    rw [if_neg (fun z => c (decide_eq_true (congrArg V.str z)))] at q
    refine ⟨_, rfl, rfl, _, rfl, ?_⟩
    refine ite2 (fun c => ?_) (fun c => ?_)
    · rw [if_pos (V.str.inj (of_decide_eq_true c))] at q
      exact ⟨_, rfl, _, rfl, _, _, rfl, rfl, q⟩
    rw [if_neg (fun z => c (decide_eq_true (congrArg V.str z)))] at q
    refine ⟨_, rfl, rfl, _, rfl, ?_⟩
    refine ite2 (fun c => ?_) (fun c => ?_)
    · rw [if_pos (V.str.inj (of_decide_eq_true c))] at q
      exact ⟨_, rfl, _, rfl, _, _, rfl, rfl, q⟩
    rw [if_neg (fun z => c (decide_eq_true (congrArg V.str z)))] at q
    refine ⟨_, rfl, rfl, _, rfl, ?_⟩
    refine ite2 (fun c => ?_) (fun c => ?_)
    · rw [if_pos (V.str.inj (of_decide_eq_true c))] at q
      exact ⟨_, rfl, _, rfl, _, _, rfl, rfl, q⟩
    rw [if_neg (fun z => c (decide_eq_true (congrArg V.str z)))] at q
    refine ⟨_, rfl, rfl, _, rfl, ?_⟩
    refine ite2 (fun c => ?_) (fun c => ?_)
    · rw [if_pos (V.str.inj (of_decide_eq_true c))] at q
      exact ⟨_, rfl, _, rfl, _, _, rfl, rfl, .inr ⟨_, rfl, q⟩⟩
    rw [if_neg (fun z => c (decide_eq_true (congrArg V.str z)))] at q
    refine ⟨_, rfl, _, rfl, rfl, .inr ⟨_, rfl, ?_⟩⟩
    have e : decide (V.int a = V.int b) = decide (a = b) := by
      by_cases z : a = b
      · rw [decide_eq_true z, decide_eq_true (congrArg V.int z)]
      · rw [decide_eq_false z, decide_eq_false (fun y => z (V.int.inj y))]
    rw [e]
    exact q
def spTW (n : Nat) : Sp := fun vs H Q _ => ∃ (p a s : Addr) (o : OwnD) (wd : Wd) (t : Trm), vs = [.ref p, .ref a, .ref s] ∧ Tp H (.ref p) (ownD o) ∧ OwnOk o ∧ Tp H (.ref a) (trmD t) ∧ TrmOk o t ∧ deep t ≤ n ∧ Tp H (.ref s) (wdD wd) ∧ WdOk o wd ∧ ∀ H', Same H H' → Q (optV (worth o wd t)) H'
abbrev NT : List Str := ["machine", "term", "state", "words", "part"]
theorem scTW : FnScope NT ["machine", "term", "state"] (defScope sTW) := ⟨rfl, rfl, rfl, by decide +kernel, rfl, by decide +kernel, by decide +kernel⟩
theorem in_non1 (x : Option Int) : inV .non [optV x] = x.isNone := by cases x <;> rfl
theorem flat_opt (x : Option Int) : flatV (optV x) = true := by cases x <;> rfl
theorem ok_TW0 {f : Addr} {fd : FuncData} : FnOk P w K mg base CX0 2 f fd ["machine", "term", "state"] (spTW 0) := by
  have no : ∀ vs H Q E, ¬ spTW 0 vs H Q E := fun vs H Q E h => by
    obtain ⟨p, a, s, o, wd, t, _, _, _, _, _, h1, _⟩ := h
    have := deep_pos t
    omega
  exact ⟨fun vs H Q E h => absurd h (no vs H Q E), fun A outer s H args us vs Q E _ _ _ _ h => absurd h (no vs H Q E)⟩
theorem ok_TWS (D : Df K mg "term_word" sTW ["machine", "term", "state"]) (dO : Df K mg "op_word" sOpW ["machine", "op", "one", "other"]) (dL : Df K mg "word_limit" sLimit ["machine"]) (B : Bl mg) (n : Nat) (G : FnOk P w K mg base CX0 (n + 2) D.f D.fd ["machine", "term", "state"] (spTW n)) : FnOk P w K mg base CX0 (n + 3) D.f D.fd ["machine", "term", "state"] (spTW (n + 1)) := by
  have GO : FnOk P w K mg base CX0 2 dO.f dO.fd ["machine", "op", "one", "other"] spOpW := ok_opW dO.F dL B
  refine D.F.ok scTW (fun vs H Q E h => ?_) (fun cdv A outer s H vs Q E hr h => ?_)
  · obtain ⟨p, a, s, o, wd, t, rfl, _⟩ := h
    rfl
  · obtain ⟨p, a, st, o, wd, t, rfl, hP, hO, hT, ok, hd, hS, hW, q⟩ := h
    have hr2 : Room 2 _ := hr.mono (by omega)
    refine ⟨_, pss_cons (ps_if (pt_cmpR op_eq (pe_ix ix_tup (pv 1) pe_int (fun _ _ => rfl)) pe_str (nomark _)) (pss_one (ps_ret (pe_ix ix_tup (pe_ix ix_tup (pv 2) pe_int (fun _ _ => rfl)) (pe_bm PySem.F.plainAttrs_tuple PySem.F.slot_tuple_index PySem.F.type_tuple_index mt_indexT (pe_ix ix_tup (pv 0) pe_int (fun _ _ => rfl)) (pa_cons (pe_ix ix_tup (pv 1) pe_int (fun _ _ => rfl)) pa_nil)) (fun _ _ => rfl)))) pss_nil)
      (pss_cons (ps_if (pt_cmpR op_eq (pe_ix ix_tup (pv 1) pe_int (fun _ _ => rfl)) pe_str (nomark _)) (pss_one (ps_ret (pe_ix ix_tup (pv 1) pe_int (fun _ _ => rfl)))) pss_nil)
      (pss_cons (ps_setLc (i := 3) (own := [("part", 4)]) (g := gName 4) (by rfl) scTW.nd rfl rfl (sw_true (by rfl) (by rfl) (by rfl) (by rfl)) (pi_tup (pe_slice sl_tup (pv 1) (po_some pe_int) po_none)) (blkOk_by (own := [("part", 4)]) (N := NT) (sc := defScope sTW) (by decide +kernel))
        (fun _ _ _ _ _ => pg_name (i := 4) scTW.nd rfl (Or.inl rfl)) (fun _ _ _ _ _ => pts_nil) (fun _ _ _ _ _ => pe_call G hr rfl D.m D.F.kp D.b .nil pass0 (pa_cons (pv 0) (pa_cons (pv 4) (pa_cons (pv 2) pa_nil)))))
      (pss_cons (ps_if (pt_cmpR op_in_seq pe_non (pv 3) (by with_unfolding_all rfl)) (pss_one (ps_ret pe_non)) pss_nil)
      (pss_cons (ps_if (pt_cmpR op_eq (pe_ix ix_tup (pv 1) pe_int (fun _ _ => rfl)) pe_str (nomark _)) (pss_one (ps_ret (pe_ifExp (pt_cmpR op_lt (pe_ix ix_list (pv 3) pe_int (fun _ _ => rfl)) (pe_ix ix_tup (pv 0) pe_int (fun _ _ => rfl)) (nomark _)) (pe_ix ix_tup (pe_ix ix_tup (pv 2) pe_int (fun _ _ => rfl)) (pe_ix ix_list (pv 3) pe_int (fun _ _ => rfl)) (fun _ _ => rfl)) pe_non))) pss_nil)
      (pss_one (ps_ret (pe_call GO hr2 rfl dO.m dO.F.kp dO.b .nil pass0 (pa_cons (pv 0) (pa_cons (pe_ix ix_tup (pv 1) pe_int (fun _ _ => rfl)) (pa_cons (pe_ix ix_list (pv 3) pe_int (fun _ _ => rfl)) (pa_cons (pe_ix ix_list (pv 3) pe_int (fun _ _ => rfl)) pa_nil))))))))))), ?read⟩
    case read =>
      obtain ⟨qa, hp, hq⟩ := own_inv hP
      obtain ⟨sv, sh, sm, g0, g1, g2, g3⟩ := wd_inv hS
      have idr : Same H H := fun _ _ z => z
      cases t with
      | reg x =>
        have hT : Tp H (.ref a) (.tuple [.str "reg", .str x]) := hT
        have ok : x ∈ o.names := ok
        have l : o.names.idxOf x < o.names.length := List.idxOf_lt_length_of_mem ok
        obtain ⟨k1, k2, k3⟩ := str_idx ok
        cases hT with | tup ha r => cases r with | cons h0 r => cases h0; cases r with | cons h1 r =>
          cases h1; cases r
          refine ⟨_, rfl, a, _, _, _, rfl, rfl, SqT.of ha, at0, rfl, _, rfl, iteT ?_⟩
          refine ⟨_, rfl, st, _, _, _, rfl, rfl, SqT.of g0, at0, _, rfl, p, _, _, _, rfl, rfl, SqT.of hp, rfl, .inr (.inl ⟨rfl, .inr ⟨_, hq⟩⟩), _, rfl, a, _, _, _, rfl, rfl, SqT.of ha, rfl, qa, _, _, o.names.idxOf x, _, rfl, rfl, SqT.of hq, rfl, flat_strs _, k1, k2, k3, ?_⟩
          exact ⟨sv, _, _, _, rfl, rfl, SqT.of g1, int_at (by rw [hW.vis]; exact l), q H idr⟩
      | num m =>
        have hT : Tp H (.ref a) (.tuple [.str "num", .int m]) := hT
        cases hT with | tup ha r => cases r with | cons h0 r => cases h0; cases r with | cons h1 r =>
          cases h1; cases r
          refine ⟨_, rfl, a, _, _, _, rfl, rfl, SqT.of ha, at0, rfl, _, rfl, ite2 (fun z => absurd (V.str.inj (of_decide_eq_true z)) nr) fun _ => ?_⟩
          refine ⟨_, rfl, a, _, _, _, rfl, rfl, SqT.of ha, at0, rfl, _, rfl, iteT ?_⟩
          exact ⟨_, rfl, a, _, _, _, rfl, rfl, SqT.of ha, rfl, q H idr⟩
      | load t1 =>
        have hT : Tp H (.ref a) (.tuple [.str "load", trmD t1]) := hT
        have hd1 : deep t1 ≤ n := by have : deep t1 + 1 ≤ n + 1 := hd; omega
        have ok : TrmOk o t1 := ok
        cases hT with | tup ha r => cases r with | cons h0 r => cases h0; cases r with | cons h1 r =>
          cases r
          obtain ⟨a1, rfl⟩ := trm_ref h1
          refine seq_cut (fun σ' H' => σ' = [some (.ref p), some (.ref a), some (.ref st), none, none] ∧ H' = H) (fun nx imp => ?_) ?_
          · refine ⟨_, rfl, a, _, _, _, rfl, rfl, SqT.of ha, at0, rfl, _, rfl, ite2 (fun z => absurd (V.str.inj (of_decide_eq_true z)) lr) fun _ => imp _ _ ⟨rfl, rfl⟩⟩
          rintro σ H0 ⟨rfl, eH⟩
          subst eH
          refine seq_cut (fun σ' H' => σ' = [some (.ref p), some (.ref a), some (.ref st), none, none] ∧ H' = H0) (fun nx imp => ?_) ?_
          · refine ⟨_, rfl, a, _, _, _, rfl, rfl, SqT.of ha, at0, rfl, _, rfl, ite2 (fun z => absurd (V.str.inj (of_decide_eq_true z)) ln) fun _ => imp _ _ ⟨rfl, rfl⟩⟩
          rintro σ H1 ⟨rfl, eH⟩
          subst eH
          refine seq_cut (fun σ' H' => ∃ W, σ' = [some (.ref p), some (.ref a), some (.ref st), some (.ref W), none] ∧ H' W = some (.lst [optV (worth o wd t1)]) ∧ Same H1 H') (fun nx imp => ?_) ?_
          · refine ⟨_, rfl, _, rfl, a, _, rfl, SqT.of ha, (by show ¬ (1 = 0 ∧ 2 = 2); decide), fun c hc => ⟨c, rfl, ⟨_, SqT.of upd_same⟩, fun W hW' => ?_⟩⟩
            have sc := same_new hc (.tup [V.ref a1])
            refine lc_tup (K := K) (a := c) (xs := [V.ref a1]) (fun i H2 => H2 W = some (.lst ([optV (worth o wd t1)].take i)) ∧ Same (upd H1 c (.tup [V.ref a1])) H2) ⟨upd_same, same_new hW' _⟩ (fun i H2 _ z => SqT.of (z.2 _ _ upd_same)) ?_ ?_
            · rintro i x H2 hx ⟨w1, s2⟩
              have hi : i < 1 := (List.getElem?_eq_some_iff.mp hx).1
              have e0 : i = 0 := by omega
              subst e0
              have ex : x = V.ref a1 := (Option.some.inj hx).symm
              subst ex
              have k2 := KeepT.of (sc.trans s2)
              refine ⟨rfl, _, rfl, _, rfl, _, rfl, p, a1, st, o, wd, t1, rfl, hP.keep k2, hO, h1.keep k2, ok, hd1, hS.keep k2, hW, fun H3 s3 => ⟨_, s3 _ _ w1, (by show 0 < sizeLine; decide), ?_, ?_⟩⟩
              · rw [upd_same]; rfl
              · intro b u e
                rw [upd_ne (ne_of_none e hW')]
                exact s3 _ _ (s2 _ _ e)
            · rintro H2 ⟨w1, s2⟩
              exact imp _ _ ⟨W, rfl, w1, sc.trans s2⟩
          rintro σ H2 ⟨W, rfl, hw, s2⟩
          refine ⟨_, rfl, W, _, rfl, .inl (SqL.of hw), rfl, (by show (flatV (optV (worth o wd t1)) && true) = true; rw [flat_opt]; rfl), _, rfl, ?_⟩
          have ein : (if false = true then !inV .non [optV (worth o wd t1)] else inV .non [optV (worth o wd t1)]) = (worth o wd t1).isNone := by rw [if_neg (by decide), in_non1]
          cases ew : worth o wd t1 with
          | none =>
            have q1 := q H2 s2
            have e2 : worth o wd (.load t1) = none := by show (match worth o wd t1 with | some w => _ | none => none) = none; rw [ew]
            rw [e2] at q1
            exact iteT q1
          | some v =>
            rw [ew] at hw
            have rg := worth_rng hO hW ok ew
            refine iteF ?_
            refine ⟨_, rfl, a, _, _, _, rfl, rfl, SqT.of (s2 _ _ ha), at0, rfl, _, rfl, iteT ?_⟩
            refine ⟨_, rfl, W, _, _, _, rfl, rfl, SqL.of hw, at0, _, rfl, p, _, _, _, rfl, rfl, SqT.of (s2 _ _ hp), rfl, _, _, rfl, rfl, _, rfl, ?_⟩
            have e2 : worth o wd (.load t1) = if v < o.cells then some (wd.mem.getD v.toNat 0) else none := by show (match worth o wd t1 with | some w => _ | none => none) = _; rw [ew]
            refine ite2 (fun z => ?_) (fun z => ?_)
            · have z : v < o.cells := of_decide_eq_true z
              have q1 := q H2 s2
              rw [e2, if_pos z] at q1
              refine ⟨_, rfl, st, _, _, _, rfl, rfl, SqT.of (s2 _ _ g0), rfl, _, rfl, W, _, _, _, rfl, rfl, SqL.of hw, at0, sm, _, _, _, rfl, rfl, SqT.of (s2 _ _ g3), ?_, q1⟩
              have ee : v = ((v.toNat : Nat) : Int) := by omega
              conv => lhs; rw [ee]
              exact int_at (by rw [hW.mem]; omega)
            · have z : ¬ v < o.cells := fun y => z (decide_eq_true y)
              have q1 := q H2 s2
              rw [e2, if_neg z] at q1
              exact q1
      | op k t1 t2 =>
        have hT : Tp H (.ref a) (.tuple [.str k, trmD t1, trmD t2]) := hT
        have hdd : max (deep t1) (deep t2) + 1 ≤ n + 1 := hd
        obtain ⟨okk, ok1, ok2⟩ : k ∈ opsL ∧ TrmOk o t1 ∧ TrmOk o t2 := ok
        obtain ⟨n1, n2, n3⟩ := ops_ne k okk
        cases hT with | tup ha r => cases r with | cons h0 r => cases h0; cases r with | cons h1 r => cases r with | cons h2 r =>
          cases r
          obtain ⟨a1, rfl⟩ := trm_ref h1
          obtain ⟨a2, rfl⟩ := trm_ref h2
          refine seq_cut (fun σ' H' => σ' = [some (.ref p), some (.ref a), some (.ref st), none, none] ∧ H' = H) (fun nx imp => ?_) ?_
          · refine ⟨_, rfl, a, _, _, _, rfl, rfl, SqT.of ha, at0, rfl, _, rfl, ite2 (fun z => absurd (V.str.inj (of_decide_eq_true z)) n1) fun _ => imp _ _ ⟨rfl, rfl⟩⟩
          rintro σ H0 ⟨rfl, eH⟩
          subst eH
          refine seq_cut (fun σ' H' => σ' = [some (.ref p), some (.ref a), some (.ref st), none, none] ∧ H' = H0) (fun nx imp => ?_) ?_
          · refine ⟨_, rfl, a, _, _, _, rfl, rfl, SqT.of ha, at0, rfl, _, rfl, ite2 (fun z => absurd (V.str.inj (of_decide_eq_true z)) n2) fun _ => imp _ _ ⟨rfl, rfl⟩⟩
          rintro σ H1 ⟨rfl, eH⟩
          subst eH
          refine seq_cut (fun σ' H' => ∃ W, σ' = [some (.ref p), some (.ref a), some (.ref st), some (.ref W), none] ∧ H' W = some (.lst [optV (worth o wd t1), optV (worth o wd t2)]) ∧ Same H1 H') (fun nx imp => ?_) ?_
          · refine ⟨_, rfl, _, rfl, a, _, rfl, SqT.of ha, (by show ¬ (1 = 0 ∧ 3 = 3); decide), fun c hc => ⟨c, rfl, ⟨_, SqT.of upd_same⟩, fun W hW' => ?_⟩⟩
            have sc := same_new hc (.tup [V.ref a1, V.ref a2])
            refine lc_tup (K := K) (a := c) (xs := [V.ref a1, V.ref a2]) (fun i H2 => H2 W = some (.lst ([optV (worth o wd t1), optV (worth o wd t2)].take i)) ∧ Same (upd H1 c (.tup [V.ref a1, V.ref a2])) H2) ⟨upd_same, same_new hW' _⟩ (fun i H2 _ z => SqT.of (z.2 _ _ upd_same)) ?_ ?_
            · rintro i x H2 hx ⟨w1, s2⟩
              have hi : i < 2 := (List.getElem?_eq_some_iff.mp hx).1
              have k2 := KeepT.of (sc.trans s2)
              obtain ⟨b1, tt, ex, tb, okb, dpb, etk⟩ : ∃ (b1 : Addr) (tt : Trm), x = .ref b1 ∧ Tp H1 (.ref b1) (trmD tt) ∧ TrmOk o tt ∧ deep tt ≤ n ∧ [optV (worth o wd t1), optV (worth o wd t2)].take (i + 1) = [optV (worth o wd t1), optV (worth o wd t2)].take i ++ [optV (worth o wd tt)] := by
                match i, hi, hx with
                | 0, _, hx => exact ⟨a1, t1, (Option.some.inj hx).symm, h1, ok1, by omega, rfl⟩
                | 1, _, hx => exact ⟨a2, t2, (Option.some.inj hx).symm, h2, ok2, by omega, rfl⟩
              subst ex
              refine ⟨rfl, _, rfl, _, rfl, _, rfl, p, b1, st, o, wd, tt, rfl, hP.keep k2, hO, tb.keep k2, okb, dpb, hS.keep k2, hW, fun H3 s3 => ⟨_, s3 _ _ w1, ?_, ?_, ?_⟩⟩
              · rw [List.length_take]
                exact small1000 (by omega)
              · rw [upd_same, etk]
              · intro b u e
                rw [upd_ne (ne_of_none e hW')]
                exact s3 _ _ (s2 _ _ e)
            · rintro H2 ⟨w1, s2⟩
              exact imp _ _ ⟨W, rfl, w1, sc.trans s2⟩
          rintro σ H2 ⟨W, rfl, hw, s2⟩
          refine ⟨_, rfl, W, _, rfl, .inl (SqL.of hw), rfl, (by show (flatV (optV (worth o wd t1)) && (flatV (optV (worth o wd t2)) && true)) = true; rw [flat_opt, flat_opt]; rfl), _, rfl, ?_⟩
          have e2 : worth o wd (.op k t1 t2) = match worth o wd t1, worth o wd t2 with | some x, some y => some (opW o k x y) | _, _ => none := rfl
          have q1 := q H2 s2
          rw [e2] at q1
          cases e3 : worth o wd t1 with
          | none =>
            rw [e3] at q1
            cases e4 : worth o wd t2 <;> exact iteT q1
          | some x =>
            cases e4 : worth o wd t2 with
            | none =>
              rw [e3, e4] at q1
              exact iteT q1
            | some y =>
              rw [e3, e4] at q1 hw
              refine iteF ?_
              refine ⟨_, rfl, a, _, _, _, rfl, rfl, SqT.of (s2 _ _ ha), at0, rfl, _, rfl, ite2 (fun z => absurd (V.str.inj (of_decide_eq_true z)) n3) fun _ => ?_⟩
              exact ⟨_, rfl, _, rfl, a, _, _, _, rfl, rfl, SqT.of (s2 _ _ ha), at0, _, rfl, W, _, _, _, rfl, rfl, SqL.of hw, at0, _, rfl, W, _, _, _, rfl, rfl, SqL.of hw, rfl, p, o, k, x, y, rfl, hP.keep (KeepT.of s2), hO, q1⟩
theorem ok_TW (D : Df K mg "term_word" sTW ["machine", "term", "state"]) (dO : Df K mg "op_word" sOpW ["machine", "op", "one", "other"]) (dL : Df K mg "word_limit" sLimit ["machine"]) (B : Bl mg) : ∀ n, FnOk P w K mg base CX0 (n + 2) D.f D.fd ["machine", "term", "state"] (spTW n)
  | 0 => ok_TW0
  | n + 1 => ok_TWS D dO dL B n (ok_TW D dO dL B n)
end
end My
set_option Elab.async false
set_option linter.all false
set_option maxRecDepth 100000
set_option maxHeartbeats 4000000
namespace My
open PySem L2 TL
abbrev sMeant : Stmt := top 8
abbrev sDM : Stmt := top 9
theorem ixN_nat {n j : Nat} (h : j < n) : ixN n (j : Nat) = some j := by
  unfold ixN
  rw [if_pos (by omega), if_pos (by omega)]
  simp
theorem upd_same3 {H H1 : Hp} {V0 : Addr} {u : HO} (s : Same H H1) (h : H V0 = none) : Same H (upd H1 V0 u) := fun b x e => by
  rw [upd_ne (ne_of_none e h)]
  exact s b x e
theorem setAll_len {o : OwnD} {s : Wd} : ∀ (l : List (Str × Trm)) {v r : List Int}, setAll o s l v = some r → r.length = v.length
  | [], v, r, e => by rw [Option.some.inj e]
  | (x, t) :: l, v, r, e => by
    unfold setAll at e
    cases ew : worth o s t with
    | none => rw [ew] at e; cases e
    | some w =>
      rw [ew] at e
      have := setAll_len l e
      rw [this, List.length_set]
theorem setAll_snoc {o : OwnD} {s : Wd} {x : Str} {t : Trm} : ∀ (l : List (Str × Trm)) {v r : List Int}, setAll o s l v = some r → setAll o s (l ++ [(x, t)]) v = match worth o s t with | some w => some (r.set (o.names.idxOf x) w) | none => none
  | [], v, r, e => by
    have e : v = r := Option.some.inj e
    subst e
    show (match worth o s t with | some w => setAll o s [] (v.set (o.names.idxOf x) w) | none => none) = _
    cases worth o s t <;> rfl
  | (y, u) :: l, v, r, e => by
    unfold setAll at e
    show (match worth o s u with | some w => setAll o s (l ++ [(x, t)]) (v.set (o.names.idxOf y) w) | none => none) = _
    cases ew : worth o s u with
    | none => rw [ew] at e; cases e
    | some w =>
      rw [ew] at e
      exact setAll_snoc l e
theorem setAll_none {o : OwnD} {s : Wd} : ∀ {l : List (Str × Trm)} {p : Str × Trm} {v : List Int}, p ∈ l → worth o s p.2 = none → setAll o s l v = none
  | (x, t) :: l, p, v, hp, e => by
    unfold setAll
    cases ew : worth o s t with
    | none => rfl
    | some w =>
      rcases List.mem_cons.mp hp with z | z
      · rw [z] at e
        rw [show worth o s t = none from e] at ew
        cases ew
      · exact setAll_none z e
theorem set_tp {H : Hp} : ∀ {vs : List V} {sets : List (Str × Trm)} {i : Nat} {v : V}, TpAll H vs (sets.map setD) → vs[i]? = some v → ∃ x t a b, sets[i]? = some (x, t) ∧ v = .ref a ∧ H a = some (.tup [.str x, .ref b]) ∧ Tp H (.ref b) (trmD t)
  | _, [], _, _, .nil, e => by simp at e
  | _, (x, t) :: r, 0, _, .cons h _, e => by
    simp at e
    subst e
    have h : Tp H _ (.tuple [.str x, trmD t]) := h
    cases h with | tup ha q => cases q with | cons h0 q => cases h0; cases q with | cons h1 q =>
      cases q
      obtain ⟨b, rfl⟩ := trm_ref h1
      exact ⟨x, t, _, b, rfl, rfl, ha, h1⟩
  | _, p :: r, i + 1, v, .cons _ t, e => by
    obtain ⟨x, tt, a, b, h1, h2⟩ := set_tp (i := i) (v := v) t (by simpa using e)
    exact ⟨x, tt, a, b, by simpa using h1, h2⟩
theorem dos_inv {H : Hp} {a : Addr} {sets : List (Str × Trm)} {sp : Option (Trm × Trm)} (h : Tp H (.ref a) (plnD (.dos sets sp))) : ∃ l1 l2 xs ys, H a = some (.tup [.str "do", .ref l1, .ref l2]) ∧ H l1 = some (.tup xs) ∧ TpAll H xs (sets.map setD) ∧ H l2 = some (.tup ys) ∧ TpAll H ys (spD sp) := by
  have h : Tp H (.ref a) (.tuple [.str "do", .tuple (sets.map setD), .tuple (spD sp)]) := h
  cases h with | tup ha q => cases q with | cons h0 q => cases h0; cases q with | cons h1 q => cases q with | cons h2 q =>
    cases q
    cases h1 with | tup e1 r1 => cases h2 with | tup e2 r2 => exact ⟨_, _, _, _, ha, e1, r1, e2, r2⟩
theorem sp_inv {H : Hp} {ys : List V} {c t : Trm} (h : TpAll H ys (spD (some (c, t)))) : ∃ pr c' t', ys = [.ref pr] ∧ H pr = some (.tup [.ref c', .ref t']) ∧ Tp H (.ref c') (trmD c) ∧ Tp H (.ref t') (trmD t) := by
  have h : TpAll H ys [.tuple [trmD c, trmD t]] := h
  cases h with | cons h0 q =>
    cases q
    cases h0 with | tup e r => cases r with | cons h1 r => cases r with | cons h2 r =>
      cases r
      obtain ⟨c', rfl⟩ := trm_ref h1
      obtain ⟨t', rfl⟩ := trm_ref h2
      exact ⟨_, _, _, rfl, e, h1, h2⟩
def spDM : Sp := fun vs H Q _ => ∃ (p a s : Addr) (o : OwnD) (wd : Wd) (sets : List (Str × Trm)) (sp : Option (Trm × Trm)), vs = [.ref p, .ref a, .ref s] ∧ Tp H (.ref p) (ownD o) ∧ OwnOk o ∧ Tp H (.ref a) (plnD (.dos sets sp)) ∧ PlnOk o (.dos sets sp) ∧ Tp H (.ref s) (wdD wd) ∧ WdOk o wd ∧
  ∀ (r : Addr) (H' : Hp), Same H H' → Tp H' (.ref r) (doMean o wd sets sp) → Q (.ref r) H'
abbrev NO : List Str := ["machine", "meaning", "state", "visible", "memory", "name", "term", "word", "pair", "cell"]
theorem optV_non {x : Option Int} : decide (optV x = V.non) = x.isNone := by cases x <;> rfl
section
variable {P : Program} {w : World} {K : PySem.W.Frag} {mg : Str → Option Value} {base : Heap}
/-- the program's defs -/
structure DfP (K : PySem.W.Frag) (mg : Str → Option Value) where
  limit : Df K mg "word_limit" sLimit ["machine"]
  opW : Df K mg "op_word" sOpW ["machine", "op", "one", "other"]
  tw : Df K mg "term_word" sTW ["machine", "term", "state"]
  dm : Df K mg "do_meant" sDM ["machine", "meaning", "state"]
theorem scDM : FnScope NO ["machine", "meaning", "state"] (defScope sDM) := ⟨rfl, rfl, rfl, by decide +kernel, rfl, by decide +kernel, by decide +kernel⟩
theorem ok_DM {f : Addr} {fd : FuncData} (F : Fun K "do_meant" "do_meant" sDM f fd) (D : DfP K mg) (B : Bl mg) : FnOk P w K mg base CX0 9 f fd ["machine", "meaning", "state"] spDM := by
  have GT : FnOk P w K mg base CX0 8 D.tw.f D.tw.fd ["machine", "term", "state"] (spTW 6) := ok_TW D.tw D.opW D.limit B 6
  refine F.ok scDM (fun vs H Q E h => ?_) (fun cdv A outer s H vs Q E hr h => ?_)
  · obtain ⟨p, a, st, o, wd, sets, sp, rfl, _⟩ := h
    rfl
  · obtain ⟨p, a, st, o, wd, sets, sp, rfl, hP, hO, hT, ok, hS, hW, q⟩ := h
    refine ⟨_, pss_cons (ps_par (i := 3) (j := 4) (by rfl) scDM.nd rfl rfl (by decide) (by rfl) (by rfl) (pa_cons (pe_callTy call_list_of (by rfl) B.list (by decide +kernel) (pa_cons (pe_ix ix_tup (pv 2) pe_int (fun _ _ => rfl)) pa_nil)) (pa_cons (pe_callTy call_list_of (by rfl) B.list (by decide +kernel) (pa_cons (pe_ix ix_tup (pv 2) pe_int (fun _ _ => rfl)) pa_nil)) pa_nil)) (by rfl))
      (pss_cons (ps_for PassesOwn.never rfl (pi_tup (pe_ix ix_tup (pv 1) pe_int (fun _ _ => rfl))) (pg_tup (by rfl) (pgs_cons (pg_name (i := 5) scDM.nd rfl (Or.inl rfl)) (pgs_cons (pg_name (i := 6) scDM.nd rfl (Or.inl rfl)) pgs_nil)))
        (pss_cons (ps_set (i := 7) scDM.nd rfl (Or.inl rfl) (pe_call GT hr rfl D.tw.m D.tw.F.kp D.tw.b .nil pass0 (pa_cons (pv 0) (pa_cons (pv 6) (pa_cons (pv 2) pa_nil)))))
        (pss_cons (ps_if (pt_cmpR op_isN (pv 7) pe_non (nomark _)) (pss_one (ps_ret (pe_tup (pa_cons pe_str pa_nil)))) pss_nil)
        (pss_one (ps_asg (pv 7) (pg_sub (pv 3) (pe_bm PySem.F.plainAttrs_tuple PySem.F.slot_tuple_index PySem.F.type_tuple_index mt_indexT (pe_ix ix_tup (pv 0) pe_int (fun _ _ => rfl)) (pa_cons (pv 5) pa_nil)) set_list))))))
      (pss_cons (ps_for PassesOwn.never rfl (pi_tup (pe_ix ix_tup (pv 1) pe_int (fun _ _ => rfl))) (pg_name (i := 8) scDM.nd rfl (Or.inl rfl))
        (pss_cons (ps_asg (pe_lc (own := [("term", 6)]) (g := gName 6) (by rfl) scDM.nd (pi_tup (pv 8)) (blkOk_by (own := [("term", 6)]) (N := NO) (sc := defScope sDM) (by decide +kernel))
            (fun _ _ _ _ _ => pg_name (i := 6) scDM.nd rfl (Or.inl rfl)) (fun _ _ _ _ _ => pts_nil) (fun _ _ _ _ _ => pe_call GT hr rfl D.tw.m D.tw.F.kp D.tw.b .nil pass0 (pa_cons (pv 0) (pa_cons (pv 6) (pa_cons (pv 2) pa_nil)))))
          (pg_lst (by rfl) (pgs_cons (pg_name (i := 9) scDM.nd rfl (Or.inl rfl)) (pgs_cons (pg_name (i := 7) scDM.nd rfl (Or.inl rfl)) pgs_nil))))
        (pss_cons (ps_if (PW.pt (pw_or (pt_cmpR op_isN (pv 9) pe_non (nomark _)) (pw_or (pt_cmpR op_isN (pv 7) pe_non (nomark _)) (pw_or1 (pt_cmpR op_ge (pv 9) (pe_ix ix_tup (pv 0) pe_int (fun _ _ => rfl)) (nomark _)))))) (pss_one (ps_ret (pe_tup (pa_cons pe_str pa_nil)))) pss_nil)
        (pss_one (ps_asg (pv 7) (pg_sub (pv 4) (pv 9) set_list))))))
      (pss_one (ps_ret (pe_tup (pa_cons (pe_callTy call_tuple_of (by rfl) B.tup (by decide +kernel) (pa_cons (pv 3) pa_nil)) (pa_cons (pe_callTy call_tuple_of (by rfl) B.tup (by decide +kernel) (pa_cons (pv 4) pa_nil)) pa_nil))))))), ?read⟩
    case read =>
      obtain ⟨qa, hp, hq⟩ := own_inv hP
      obtain ⟨sv, sh, sm, g0, g1, g2, g3⟩ := wd_inv hS
      obtain ⟨l1, l2, xs, ys, ha, hl1, tX, hl2, tY⟩ := dos_inv hT
      obtain ⟨okS, lenS, okP⟩ := ok
      have hcl := hO.cells
      have hlx : xs.length = sets.length := by rw [tX.len, List.length_map]
      have trap : ∀ {H1 : Hp}, Same H H1 → doMean o wd sets sp = .tuple [.str "trap"] → ∀ t, H1 t = none → Q (.ref t) (upd H1 t (.tup [V.str "trap"])) := fun {H1} s1 e t ht => by
        refine q t _ (s1.trans (same_new ht _)) ?_
        rw [e]
        exact .tup upd_same (.cons (.str _) .nil)
      refine seq_cut (fun σ' H' => ∃ V0 M0 : Addr, σ' = [some (.ref p), some (.ref a), some (.ref st), some (.ref V0), some (.ref M0), none, none, none, none, none] ∧ Same H H' ∧ H V0 = none ∧ H M0 = none ∧ V0 ≠ M0 ∧ H' V0 = some (.lst (wd.vis.map V.int)) ∧ H' M0 = some (.lst (wd.mem.map V.int))) (fun nx imp => ?_) ?_
      · refine ⟨_, rfl, st, _, _, _, rfl, rfl, SqT.of g0, at0, sv, _, rfl, .inr (SqT.of g1), fun V0 hV => ?_⟩
        have s2 := same_new hV (.lst (wd.vis.map V.int))
        refine ⟨_, rfl, st, _, _, _, rfl, rfl, SqT.of (s2 _ _ g0), rfl, sm, _, rfl, .inr (SqT.of (s2 _ _ g3)), fun M0 hM => ⟨_, _, rfl, ?_⟩⟩
        have s3 := s2.trans (same_new hM (.lst (wd.mem.map V.int)))
        have nVM : V0 ≠ M0 := ne_of_none upd_same hM
        exact imp _ _ ⟨V0, M0, rfl, s3, hV, s2.free hM, nVM, by rw [upd_ne nVM]; exact upd_same, upd_same⟩
      rintro σ H1 ⟨V0, M0, rfl, s1, fV, fM, nVM, eV, eM⟩
      -- the sets
      refine seq_cut (fun σ' H' => ∃ v v5 v6 v7, σ' = [some (.ref p), some (.ref a), some (.ref st), some (.ref V0), some (.ref M0), v5, v6, v7, none, none] ∧ Same H H' ∧ setAll o wd sets wd.vis = some v ∧ H' V0 = some (.lst (v.map V.int)) ∧ H' M0 = some (.lst (wd.mem.map V.int))) (fun nx imp => ?_) ?_
      · refine ⟨_, rfl, a, _, _, _, rfl, rfl, SqT.of (s1 _ _ ha), rfl, l1, rfl, ⟨_, SqT.of (s1 _ _ hl1)⟩, for_tup (K := K) (a := l1) (xs := xs) (fun i σ H2 => ∃ v v5 v6 v7, σ = [some (.ref p), some (.ref a), some (.ref st), some (.ref V0), some (.ref M0), v5, v6, v7, none, none] ∧ Same H H2 ∧ setAll o wd (sets.take i) wd.vis = some v ∧ H2 V0 = some (.lst (v.map V.int)) ∧ H2 M0 = some (.lst (wd.mem.map V.int)))
          ⟨_, none, none, none, rfl, s1, rfl, eV, eM⟩ (fun i σ H2 _ z => by obtain ⟨_, _, _, _, _, z, _⟩ := z; exact SqT.of (z _ _ hl1)) ?_ ?_⟩
        · rintro i x σ H2 hx ⟨v, v5, v6, v7, rfl, s2, eS, e1, e2⟩
          obtain ⟨nm, t, b, c, hset, rfl, hb, tc⟩ := set_tp tX hx
          have hmem := List.mem_of_getElem? hset
          obtain ⟨okn, okt, dpt⟩ := okS _ hmem
          have l : o.names.idxOf nm < o.names.length := List.idxOf_lt_length_of_mem okn
          obtain ⟨k1, k2, k3⟩ := str_idx okn
          have kk := KeepT.of s2
          refine ⟨b, _, rfl, SqT.of (s2 _ _ hb), rfl, _, _, rfl, _, _, rfl, rfl, ?_⟩
          refine ⟨_, rfl, _, rfl, _, rfl, p, c, st, o, wd, t, rfl, hP.keep kk, hO, tc.keep kk, okt, dpt, hS.keep kk, hW, fun H3 s3 => ?_⟩
          have s23 := s2.trans s3
          refine ⟨_, rfl, rfl, _, rfl, ?_⟩
          rw [optV_non]
          cases ew : worth o wd t with
          | none =>
            refine iteT ⟨(by show 1 ≤ sizeLine; decide), trap s23 ?_⟩
            unfold doMean
            rw [setAll_none hmem ew]
          | some w' =>
            refine iteF ?_
            have hl := setAll_len _ eS
            refine ⟨_, rfl, _, rfl, _, rfl, p, _, _, _, rfl, rfl, SqT.of (s23 _ _ hp), rfl, .inr (.inl ⟨rfl, .inr ⟨_, s23 _ _ hq⟩⟩), _, rfl, qa, _, _, o.names.idxOf nm, _, rfl, rfl, SqT.of (s23 _ _ hq), rfl, flat_strs _, k1, k2, k3, ?_⟩
            refine ⟨V0, _, _, o.names.idxOf nm, rfl, rfl, s3 _ _ e1, ixN_nat (by rw [List.length_map, hl, hW.vis]; exact l), ?_⟩
            refine ⟨v.set (o.names.idxOf nm) w', _, _, _, rfl, upd_same3 s23 fV, ?_, ?_, ?_⟩
            · rw [List.take_add_one, hset]
              show setAll o wd (sets.take i ++ [(nm, t)]) wd.vis = _
              rw [setAll_snoc _ eS, ew]
            · rw [upd_same, List.map_set]
              rfl
            · rw [upd_ne nVM.symm]
              exact s3 _ _ e2
        · rintro σ H2 ⟨v, v5, v6, v7, rfl, s2, eS, e1, e2⟩
          rw [hlx, List.take_length] at eS
          exact imp _ _ ⟨v, v5, v6, v7, rfl, s2, eS, e1, e2⟩
      rintro σ H2 ⟨v, v5, v6, v7, rfl, s2, eS, e1, e2⟩
      -- the store
      refine seq_cut (fun σ' H' => ∃ m v6' v7' v8 v9, σ' = [some (.ref p), some (.ref a), some (.ref st), some (.ref V0), some (.ref M0), v5, v6', v7', v8, v9] ∧ Same H H' ∧ storeAll o wd sp = some m ∧ H' V0 = some (.lst (v.map V.int)) ∧ H' M0 = some (.lst (m.map V.int))) (fun nx imp => ?_) ?_
      · cases sp with
        | none =>
          have ey : ys = [] := by cases tY; rfl
          subst ey
          refine ⟨_, rfl, a, _, _, _, rfl, rfl, SqT.of (s2 _ _ ha), rfl, l2, rfl, ⟨_, SqT.of (s2 _ _ hl2)⟩, for_tup (K := K) (a := l2) (xs := []) (fun i σ H3 => σ = [some (.ref p), some (.ref a), some (.ref st), some (.ref V0), some (.ref M0), v5, v6, v7, none, none] ∧ H3 = H2) ⟨rfl, rfl⟩ (fun i σ H3 _ z => by rw [z.2]; exact SqT.of (s2 _ _ hl2)) (fun i x σ H3 hx _ => by simp at hx) ?_⟩
          rintro σ H3 ⟨rfl, eH⟩
          subst eH
          exact imp _ _ ⟨_, _, _, _, _, rfl, s2, rfl, e1, e2⟩
        | some ct =>
          obtain ⟨c, t⟩ := ct
          obtain ⟨okc, okt, dpc, dpt⟩ := okP c t rfl
          obtain ⟨pr, c', t', rfl, hpr, tc, tt⟩ := sp_inv tY
          have eq : storeAll o wd (some (c, t)) = match worth o wd c, worth o wd t with | some x, some y => if x < o.cells then some (wd.mem.set x.toNat y) else none | _, _ => none := rfl
          refine ⟨_, rfl, a, _, _, _, rfl, rfl, SqT.of (s2 _ _ ha), rfl, l2, rfl, ⟨_, SqT.of (s2 _ _ hl2)⟩, for_tup (K := K) (a := l2) (xs := [V.ref pr]) (fun i σ H3 => ∃ m v6' v7' v8 v9, σ = [some (.ref p), some (.ref a), some (.ref st), some (.ref V0), some (.ref M0), v5, v6', v7', v8, v9] ∧ Same H H3 ∧ (i = 0 → m = wd.mem) ∧ (i = 1 → storeAll o wd (some (c, t)) = some m) ∧ H3 V0 = some (.lst (v.map V.int)) ∧ H3 M0 = some (.lst (m.map V.int)))
            ⟨_, _, _, _, _, rfl, s2, fun _ => rfl, fun z => (by cases z), e1, e2⟩ (fun i σ H3 _ z => by obtain ⟨_, _, _, _, _, _, z, _⟩ := z; exact SqT.of (z _ _ hl2)) ?_ ?_⟩
          · rintro i x σ H3 hx ⟨m, v6', v7', v8, v9, rfl, s3, m0, _, e3, e4⟩
            have hi : i < 1 := (List.getElem?_eq_some_iff.mp hx).1
            have ei : i = 0 := by omega
            subst ei
            have ex : x = V.ref pr := (Option.some.inj hx).symm
            subst ex
            have em := m0 rfl
            subst em
            refine seq_cut (fun σ' H' => ∃ v6'', σ' = [some (.ref p), some (.ref a), some (.ref st), some (.ref V0), some (.ref M0), v5, v6'', some (optV (worth o wd t)), some (.ref pr), some (optV (worth o wd c))] ∧ Same H3 H') (fun nx2 imp2 => ?_) ?_
            · refine ⟨_, rfl, pr, rfl, ⟨_, SqT.of (s3 _ _ hpr)⟩, fun W hW' => ?_⟩
              refine lc_tup (K := K) (a := pr) (xs := [V.ref c', V.ref t']) (fun i H4 => H4 W = some (.lst ([optV (worth o wd c), optV (worth o wd t)].take i)) ∧ Same H3 H4) ⟨upd_same, same_new hW' _⟩ (fun i H4 _ z => SqT.of (z.2 _ _ (s3 _ _ hpr))) ?_ ?_
              · rintro j x H4 hx ⟨w1, s4⟩
                have hj : j < 2 := (List.getElem?_eq_some_iff.mp hx).1
                have k2 := KeepT.of (s3.trans s4)
                obtain ⟨b1, tq, ex, tb, okb, dpb, etk⟩ : ∃ (b1 : Addr) (tq : Trm), x = .ref b1 ∧ Tp H (.ref b1) (trmD tq) ∧ TrmOk o tq ∧ deep tq ≤ 6 ∧ [optV (worth o wd c), optV (worth o wd t)].take (j + 1) = [optV (worth o wd c), optV (worth o wd t)].take j ++ [optV (worth o wd tq)] := by
                  match j, hj, hx with
                  | 0, _, hx => exact ⟨c', c, (Option.some.inj hx).symm, tc, okc, dpc, rfl⟩
                  | 1, _, hx => exact ⟨t', t, (Option.some.inj hx).symm, tt, okt, dpt, rfl⟩
                subst ex
                refine ⟨rfl, _, rfl, _, rfl, _, rfl, p, b1, st, o, wd, tq, rfl, hP.keep k2, hO, tb.keep k2, okb, dpb, hS.keep k2, hW, fun H5 s5 => ⟨_, s5 _ _ w1, ?_, ?_, ?_⟩⟩
                · rw [List.length_take]
                  exact small1000 (by omega)
                · rw [upd_same, etk]
                · exact upd_same3 (s4.trans s5) hW'
              · rintro H4 ⟨w1, s4⟩
                have w1 : H4 W = some (.lst [optV (worth o wd c), optV (worth o wd t)]) := w1
                exact ⟨W, _, rfl, SqL.of w1, rfl, _, _, rfl, _, _, rfl, rfl, imp2 _ _ ⟨_, rfl, s4⟩⟩
            rintro σ H4 ⟨v6'', rfl, s4⟩
            have s34 := s3.trans s4
            refine ⟨_, rfl, rfl, _, rfl, ?_⟩
            rw [optV_non]
            cases fc : worth o wd c with
            | none =>
              refine iteT (iteT ⟨(by show 1 ≤ sizeLine; decide), trap s34 ?_⟩)
              unfold doMean
              rw [eS, eq, fc]
            | some x =>
              refine iteF ⟨_, rfl, rfl, _, rfl, ?_⟩
              rw [optV_non]
              cases ft : worth o wd t with
              | none =>
                refine iteT (iteT ⟨(by show 1 ≤ sizeLine; decide), trap s34 ?_⟩)
                unfold doMean
                rw [eS, eq, fc, ft]
              | some y =>
                have rgx := worth_rng hO hW okc fc
                refine iteF ⟨_, rfl, _, rfl, p, _, _, _, rfl, rfl, SqT.of (s34 _ _ hp), rfl, _, _, rfl, rfl, _, rfl, ?_⟩
                refine ite2 (fun z => ?_) (fun z => ?_)
                · have z : o.cells ≤ x := of_decide_eq_true z
                  refine ⟨(by show 1 ≤ sizeLine; decide), trap s34 ?_⟩
                  unfold doMean
                  rw [eS, eq, fc, ft]
                  show (match (some v : Option (List Int)), (if x < o.cells then some (wd.mem.set x.toNat y) else none) with | some v, some m => PyData.tuple [intsD v, intsD m] | _, _ => .tuple [.str "trap"]) = _
                  rw [if_neg (show ¬ x < o.cells by omega)]
                · have z : ¬ o.cells ≤ x := fun y => z (decide_eq_true y)
                  have ee : x = ((x.toNat : Nat) : Int) := by omega
                  refine ⟨_, rfl, _, rfl, _, rfl, M0, _, _, x.toNat, rfl, rfl, s4 _ _ e4, ?_, ?_⟩
                  · conv => lhs; rw [ee]
                    exact ixN_nat (by rw [List.length_map, hW.mem]; omega)
                  · refine ⟨wd.mem.set x.toNat y, _, _, _, _, rfl, upd_same3 s34 fM, fun z => (by cases z), fun _ => ?_, ?_, ?_⟩
                    · rw [eq, fc, ft]
                      show (if x < o.cells then some (wd.mem.set x.toNat y) else none) = _
                      rw [if_pos (show x < o.cells by omega)]
                    · rw [upd_ne nVM]
                      exact s4 _ _ e3
                    · rw [upd_same, List.map_set]
                      rfl
          · rintro σ H3 ⟨m, v6', v7', v8, v9, rfl, s3, _, m1, e3, e4⟩
            exact imp _ _ ⟨m, _, _, _, _, rfl, s3, m1 rfl, e3, e4⟩
      rintro σ H3 ⟨m, v6', v7', v8, v9, rfl, s3, eM2, e3, e4⟩
      refine ⟨_, rfl, V0, _, rfl, .inl ⟨SqL.of e3, fun t1 ht1 => ?_⟩⟩
      have u1 := same_new ht1 (.tup (v.map V.int))
      refine ⟨_, rfl, M0, _, rfl, .inl ⟨SqL.of (u1 _ _ e4), fun t2 ht2 => ⟨(by show 2 ≤ sizeLine; decide), fun t3 ht3 => ?_⟩⟩⟩
      have u2 := same_new ht2 (.tup (m.map V.int))
      have u3 := same_new ht3 (.tup [V.ref t1, V.ref t2])
      refine q t3 _ (s3.trans (u1.trans (u2.trans u3))) ?_
      unfold doMean
      rw [eS, eM2]
      exact .tup upd_same (.cons (.tup (u3 _ _ (u2 _ _ upd_same)) (ints_tp _)) (.cons (.tup (u3 _ _ upd_same) (ints_tp _)) .nil))
def spMeant : Sp := fun vs H Q _ => ∃ (p a s : Addr) (o : OwnD) (wd : Wd) (pl : Pln), vs = [.ref p, .ref a, .ref s] ∧ Tp H (.ref p) (ownD o) ∧ OwnOk o ∧ Tp H (.ref a) (plnD pl) ∧ PlnOk o pl ∧ Tp H (.ref s) (wdD wd) ∧ WdOk o wd ∧
  ∀ (r : Addr) (H' : Hp), Same H H' → Tp H' (.ref r) (meanD o wd pl) → Q (.ref r) H'
abbrev NE : List Str := ["machine", "meaning", "state", "word"]
theorem scMeant : FnScope NE ["machine", "meaning", "state"] (defScope sMeant) := ⟨rfl, rfl, rfl, by decide +kernel, rfl, by decide +kernel, by decide +kernel⟩
theorem do_if : ¬ Str.ofString "do" = Str.ofString "if" := by decide +kernel
theorem ite_inv {H : Hp} {a : Addr} {t : Trm} {m n : Pln} (h : Tp H (.ref a) (plnD (.ite t m n))) : ∃ b c d, H a = some (.tup [.str "if", .ref b, .ref c, .ref d]) ∧ Tp H (.ref b) (trmD t) ∧ Tp H (.ref c) (plnD m) ∧ Tp H (.ref d) (plnD n) := by
  have h : Tp H (.ref a) (.tuple [.str "if", trmD t, plnD m, plnD n]) := h
  have pr : ∀ {v : V} {pl : Pln}, Tp H v (plnD pl) → ∃ b, v = .ref b := fun {v pl} h => by
    cases pl <;> (unfold plnD at h; cases h; exact ⟨_, rfl⟩)
  cases h with | tup ha q => cases q with | cons h0 q => cases h0; cases q with | cons h1 q => cases q with | cons h2 q => cases q with | cons h3 q =>
    cases q
    obtain ⟨b, rfl⟩ := trm_ref h1
    obtain ⟨c, rfl⟩ := pr h2
    obtain ⟨d, rfl⟩ := pr h3
    exact ⟨b, c, d, ha, h1, h2, h3⟩
theorem ok_meant {f : Addr} {fd : FuncData} (F : Fun K "meant" "meant" sMeant f fd) (D : DfP K mg) (B : Bl mg) : FnOk P w K mg base CX0 10 f fd ["machine", "meaning", "state"] spMeant := by
  have GT : FnOk P w K mg base CX0 8 D.tw.f D.tw.fd ["machine", "term", "state"] (spTW 6) := ok_TW D.tw D.opW D.limit B 6
  have GD : FnOk P w K mg base CX0 9 D.dm.f D.dm.fd ["machine", "meaning", "state"] spDM := ok_DM D.dm.F D B
  refine F.ok scMeant (fun vs H Q E h => ?_) (fun cdv A outer s H vs Q E hr h => ?_)
  · obtain ⟨p, a, st, o, wd, pl, rfl, _⟩ := h
    rfl
  · obtain ⟨p, a, st, o, wd, pl, rfl, hP, hO, hT, ok, hS, hW, q⟩ := h
    have hr8 : Room 8 _ := hr.mono (by decide)
    refine ⟨_, pss_cons (ps_while PassesOwn.never (pt_cmpR op_eq (pe_ix ix_tup (pv 1) pe_int (fun _ _ => rfl)) pe_str (nomark _))
        (pss_cons (ps_set (i := 3) scMeant.nd rfl (Or.inl rfl) (pe_call GT hr8 rfl D.tw.m D.tw.F.kp D.tw.b .nil pass0 (pa_cons (pv 0) (pa_cons (pe_ix ix_tup (pv 1) pe_int (fun _ _ => rfl)) (pa_cons (pv 2) pa_nil)))))
        (pss_cons (ps_if (pt_cmpR op_isN (pv 3) pe_non (nomark _)) (pss_one (ps_ret (pe_tup (pa_cons pe_str pa_nil)))) pss_nil)
        (pss_one (ps_set (i := 1) scMeant.nd rfl (Or.inl rfl) (pe_ifExp (pt_cmpR op_ne (pv 3) pe_int (nomark _)) (pe_ix ix_tup (pv 1) pe_int (fun _ _ => rfl)) (pe_ix ix_tup (pv 1) pe_int (fun _ _ => rfl))))))))
      (pss_one (ps_ret (pe_call GD hr rfl D.dm.m D.dm.F.kp D.dm.b .nil pass0 (pa_cons (pv 0) (pa_cons (pv 1) (pa_cons (pv 2) pa_nil)))))), ?read⟩
    case read =>
      refine ⟨fun m σ H1 => ∃ (b : Addr) (pl' : Pln) (v3 : Option V), m = deepP pl' ∧ σ = [some (.ref p), some (.ref b), some (.ref st), v3] ∧ Same H H1 ∧ Tp H1 (.ref b) (plnD pl') ∧ PlnOk o pl' ∧ meanD o wd pl' = meanD o wd pl, ⟨deepP pl, a, pl, none, rfl, rfl, (fun _ _ z => z), hT, ok, rfl⟩, ?_⟩
      rintro m σ H1 ⟨b, pl', v3, rfl, rfl, s1, hT1, ok1, em⟩
      cases pl' with
      | dos sets sp =>
        obtain ⟨l1, l2, xs, ys, ha, _⟩ := dos_inv hT1
        refine ⟨_, rfl, b, _, _, _, rfl, rfl, SqT.of ha, at0, rfl, _, rfl, ite2 (fun z => absurd (V.str.inj (of_decide_eq_true z)) do_if) fun _ => ?_⟩
        refine ⟨_, rfl, _, rfl, _, rfl, p, b, st, o, wd, sets, sp, rfl, hP.keep (KeepT.of s1), hO, hT1, ok1, hS.keep (KeepT.of s1), hW, fun r H2 s2 T2 => q r H2 (s1.trans s2) ?_⟩
        rw [← em]
        exact T2
      | ite t m n =>
        obtain ⟨okt, dpt, okm, okn⟩ := ok1
        obtain ⟨bt, c, d, hb, tt, tm, tn⟩ := ite_inv hT1
        refine ⟨_, rfl, b, _, _, _, rfl, rfl, SqT.of hb, at0, rfl, _, rfl, iteT ?_⟩
        refine ⟨fun σ' H' => ∃ (b : Addr) (pl' : Pln) (v3 : Option V), deepP pl' < deepP (.ite t m n) ∧ σ' = [some (.ref p), some (.ref b), some (.ref st), v3] ∧ Same H H' ∧ Tp H' (.ref b) (plnD pl') ∧ PlnOk o pl' ∧ meanD o wd pl' = meanD o wd pl, fun σ' H' z => ?_, ?_⟩
        · obtain ⟨b, pl', v3, z1, z2⟩ := z
          exact ⟨_, z1, b, pl', v3, rfl, z2⟩
        have kk := KeepT.of s1
        refine ⟨_, rfl, _, rfl, b, _, _, _, rfl, rfl, SqT.of hb, rfl, _, rfl, p, bt, st, o, wd, t, rfl, hP.keep kk, hO, tt, okt, dpt, hS.keep kk, hW, fun H2 s2 => ?_⟩
        have s12 := s1.trans s2
        have eq : meanD o wd (.ite t m n) = match worth o wd t with | some w => if w = 0 then meanD o wd n else meanD o wd m | none => .tuple [.str "trap"] := rfl
        refine ⟨_, rfl, rfl, _, rfl, ?_⟩
        rw [optV_non]
        cases ew : worth o wd t with
        | none =>
          refine iteT ⟨(by show 1 ≤ sizeLine; decide), fun r hr' => q r _ (s12.trans (same_new hr' _)) ?_⟩
          rw [← em, eq, ew]
          exact .tup upd_same (.cons (.str _) .nil)
        | some w' =>
          refine iteF ?_
          refine ⟨_, rfl, rfl, _, rfl, ?_⟩
          refine iteB (fun z => ?_) (fun z => ?_)
          · have z : (!decide (V.int w' = V.int 0)) = true := z
            have z : ¬ w' = 0 := fun y => by
              rw [y] at z
              simp at z
            refine ⟨_, rfl, b, _, _, _, rfl, rfl, SqT.of (s2 _ _ hb), rfl, c, m, _, ?_, rfl, s12, tm.keep (KeepT.of s2), okm, ?_⟩
            · show deepP m < max (deepP m) (deepP n) + 1
              omega
            · rw [← em, eq, ew]
              show _ = if w' = 0 then _ else _
              rw [if_neg z]
          · have z : (!decide (V.int w' = V.int 0)) = false := z
            have z : w' = 0 := by
              have z : decide (V.int w' = V.int 0) = true := by simpa using z
              exact V.int.inj (of_decide_eq_true z)
            refine ⟨_, rfl, b, _, _, _, rfl, rfl, SqT.of (s2 _ _ hb), rfl, d, n, _, ?_, rfl, s12, tn.keep (KeepT.of s2), okn, ?_⟩
            · show deepP n < max (deepP m) (deepP n) + 1
              omega
            · rw [← em, eq, ew]
              show _ = if w' = 0 then _ else _
              rw [if_pos z]
end
end My
set_option Elab.async false
set_option linter.all false
set_option maxRecDepth 100000
set_option maxHeartbeats 4000000
namespace My
open PySem L2 TL
mutual
/-- no tuple within has more than a hundred items -/
def narrow : PyData → Bool
  | .tuple ds => decide (ds.length ≤ 300) && narrowAll ds
  | .none => true | .bool _ => true | .int _ => true | .str _ => true | .list _ => true | .dict _ => true
def narrowAll : List PyData → Bool
  | [] => true
  | d :: r => narrow d && narrowAll r
end
theorem narrow_tup {ds : List PyData} (h : narrow (.tuple ds) = true) : ds.length ≤ 300 ∧ narrowAll ds = true := by
  have h : (decide (ds.length ≤ 300) && narrowAll ds) = true := by
    rw [narrow] at h
    exact h
  rw [Bool.and_eq_true] at h
  exact ⟨of_decide_eq_true h.1, h.2⟩
theorem narrow_mem : ∀ {ds : List PyData} {i : Nat} {d : PyData}, narrowAll ds = true → ds[i]? = some d → narrow d = true
  | [], _, _, _, h => by simp at h
  | x :: r, i, d, hn, h => by
    rw [narrowAll, Bool.and_eq_true] at hn
    cases i with
    | zero =>
      simp at h
      subst h
      exact hn.1
    | succ i => exact narrow_mem (ds := r) (i := i) hn.2 (by simpa using h)
/-- two things that read as the same data are told the same -/
def spSame (n : Nat) : Sp := fun vs H Q _ => ∃ (x y : V) (d : PyData), vs = [x, y] ∧ Tp H x d ∧ Tp H y d ∧ PyData.depth d < n ∧ narrow d = true ∧ ∀ H', Same H H' → Q (.bl true) H'
theorem depth_mem : ∀ {ds : List PyData} {i : Nat} {d : PyData}, ds[i]? = some d → PyData.depth d ≤ PyData.depthAll ds
  | [], _, _, h => by simp at h
  | x :: r, 0, d, h => by
    simp at h
    subst h
    exact Nat.le_max_left _ _
  | x :: r, i + 1, d, h => by
    have := depth_mem (ds := r) (i := i) (d := d) (by simpa using h)
    exact Nat.le_trans this (Nat.le_max_right _ _)
theorem TpAll.at2 {H : Hp} : ∀ {vs : List V} {ds : List PyData} {i : Nat} {v : V}, TpAll H vs ds → vs[i]? = some v → ∃ d, ds[i]? = some d ∧ Tp H v d
  | _, _, _, _, .nil, e => by simp at e
  | _, _, 0, _, .cons h _, e => by simp at e; subst e; exact ⟨_, rfl, h⟩
  | _, _, i + 1, v, .cons _ t, e => by
    obtain ⟨d, h1, h2⟩ := TpAll.at2 (i := i) (v := v) t (by simpa using e)
    exact ⟨d, by simpa using h1, h2⟩
theorem lay_ints : ∀ ns : List Int, PyData.canLayAll0 (ns.map PyData.int) = true ∧ PyData.depthAll (ns.map PyData.int) = 0
  | [] => ⟨rfl, rfl⟩
  | n :: r => by
    obtain ⟨h1, h2⟩ := lay_ints r
    refine ⟨?_, ?_⟩
    · show (true && PyData.canLayAll0 (r.map PyData.int)) = true
      rw [h1]; rfl
    · show max 0 (PyData.depthAll (r.map PyData.int)) = 0
      rw [h2]; rfl
theorem lay_wd (w : Wd) : PyData.canLay0 (wdD w) = true ∧ PyData.depth (wdD w) = 2 := by
  refine ⟨?_, ?_⟩
  · show (PyData.canLayAll0 (w.vis.map PyData.int) && (PyData.canLayAll0 (w.hid.map PyData.int) && (PyData.canLayAll0 (w.mem.map PyData.int) && true))) = true
    rw [(lay_ints w.vis).1, (lay_ints w.hid).1, (lay_ints w.mem).1]; rfl
  · show max (PyData.depthAll (w.vis.map PyData.int) + 1) (max (PyData.depthAll (w.hid.map PyData.int) + 1) (max (PyData.depthAll (w.mem.map PyData.int) + 1) 0)) + 1 = 2
    rw [(lay_ints w.vis).2, (lay_ints w.hid).2, (lay_ints w.mem).2]; rfl
theorem ok_trap : PyData.strOk (Str.ofString "trap") = true := by decide +kernel
theorem shaped_of {d : PyData} (h1 : PyData.canLay0 d = true) (h2 : PyData.depth d ≤ 60) : SeqAt.shaped d = true := by
  unfold SeqAt.shaped
  rw [h1, decide_eq_true (show PyData.depth d ≤ 64 by omega)]
  rfl
theorem shaped_list {ds : List PyData} (h : ∀ d ∈ ds, PyData.canLay0 d = true ∧ PyData.depth d ≤ 2) : SeqAt.shaped (.list ds) = true := by
  have go : ∀ ds : List PyData, (∀ d ∈ ds, PyData.canLay0 d = true ∧ PyData.depth d ≤ 2) → PyData.canLayAll0 ds = true ∧ PyData.depthAll ds ≤ 2 := by
    intro ds
    induction ds with
    | nil => intro _; exact ⟨rfl, by decide⟩
    | cons c r ih =>
      intro h
      obtain ⟨h1, h2⟩ := h c List.mem_cons_self
      obtain ⟨i1, i2⟩ := ih fun d hd => h d (List.mem_cons_of_mem _ hd)
      refine ⟨?_, ?_⟩
      · show (PyData.canLay0 c && PyData.canLayAll0 r) = true
        rw [h1, i1]; rfl
      · show max (PyData.depth c) (PyData.depthAll r) ≤ 2
        omega
  obtain ⟨h1, h2⟩ := go ds h
  refine shaped_of h1 ?_
  show PyData.depthAll ds + 1 ≤ 60
  omega
theorem shaped_ints (ns : List Int) : SeqAt.shaped (.list (ns.map PyData.int)) = true := shaped_list fun d hd => by
  obtain ⟨n, _, rfl⟩ := List.mem_map.mp hd
  exact ⟨rfl, Nat.zero_le _⟩
theorem shaped_tints (ns : List Int) : SeqAt.shaped (intsD ns) = true := by
  refine shaped_of (d := intsD ns) (lay_ints ns).1 ?_
  show PyData.depthAll (ns.map PyData.int) + 1 ≤ 60
  rw [(lay_ints ns).2]
  decide
end My
set_option Elab.async false
set_option linter.all false
set_option maxRecDepth 100000
set_option maxHeartbeats 4000000
namespace My
open PySem L2 TL
abbrev sSame : Stmt := top 27
abbrev NS : List Str := ["found", "due", "one", "other"]
def spSm (n : Nat) : Sp := fun vs H Q E => (vs = [.non, .non] ∧ Q (.bl true) H) ∨ spSame n vs H Q E
theorem kII {K : PySem.W.Frag} : PySem.W.kitOne K (.type "int") (.type "int") = some true := by rfl
theorem kIB {K : PySem.W.Frag} : PySem.W.kitOne K (.type "int") (.type "bool") = some false := by rfl
theorem kSI {K : PySem.W.Frag} : PySem.W.kitOne K (.type "str") (.type "int") = some false := by rfl
theorem kSS {K : PySem.W.Frag} : PySem.W.kitOne K (.type "str") (.type "str") = some true := by rfl
theorem kTI {K : PySem.W.Frag} : PySem.W.kitOne K (.type "tuple") (.type "int") = some false := by rfl
theorem kTS {K : PySem.W.Frag} : PySem.W.kitOne K (.type "tuple") (.type "str") = some false := by rfl
theorem kTT {K : PySem.W.Frag} : PySem.W.kitOne K (.type "tuple") (.type "tuple") = some true := by rfl
theorem kTL {K : PySem.W.Frag} : PySem.W.kitOne K (.type "tuple") (.type "list") = some false := by rfl
section
variable {P : Program} {w : World} {K : PySem.W.Frag} {mg : Str → Option Value} {base : Heap}
theorem scSame : FnScope NS ["found", "due"] (defScope sSame) := ⟨rfl, rfl, rfl, by decide +kernel, rfl, by decide +kernel, by decide +kernel⟩
theorem ok_smS (D : Df K mg "_law_same" sSame ["found", "due"]) (B : Bl mg) (n : Nat) (G : FnOk P w K mg base CX0 n D.f D.fd ["found", "due"] (spSame n)) : FnOk P w K mg base CX0 (n + 1) D.f D.fd ["found", "due"] (spSm (n + 1)) := by
  refine D.F.ok scSame (fun vs H Q E h => ?_) (fun cdv A outer s H vs Q E hr h => ?_)
  · rcases h with ⟨rfl, _⟩ | ⟨x, y, d, rfl, _⟩
    · rfl
    · rfl
  · refine ⟨_, pss_cons (ps_if (pt_cmpR op_isN (pv 1) pe_non (nomark _)) (pss_one (ps_ret (pe_cmpR op_isN (pv 0) pe_non (nomark _)))) pss_nil) (pss_cons (ps_if (pt_val (pe_callB call_isi (by rfl) B.isi (by decide +kernel) (pa_cons (pv 1) (pa_cons (pe_bltn (v := .ty "int") (by rfl) B.int (by decide +kernel) rfl) pa_nil)))) (pss_one (ps_ret (pe_and (pe_callB call_isi (by rfl) B.isi (by decide +kernel) (pa_cons (pv 0) (pa_cons (pe_bltn (v := .ty "int") (by rfl) B.int (by decide +kernel) rfl) pa_nil))) (pe_and (pe_not (pe_callB call_isi (by rfl) B.isi (by decide +kernel) (pa_cons (pv 0) (pa_cons (pe_bltn (v := .ty "bool") (by rfl) B.bool (by decide +kernel) rfl) pa_nil)))) (pe_one (pe_cmpR op_eq (pv 0) (pv 1) (nomark _))))))) pss_nil) (pss_cons (ps_if (pt_val (pe_callB call_isi (by rfl) B.isi (by decide +kernel) (pa_cons (pv 1) (pa_cons (pe_bltn (v := .ty "str") (by rfl) B.str (by decide +kernel) rfl) pa_nil)))) (pss_one (ps_ret (pe_and (pe_callB call_isi (by rfl) B.isi (by decide +kernel) (pa_cons (pv 0) (pa_cons (pe_bltn (v := .ty "str") (by rfl) B.str (by decide +kernel) rfl) pa_nil))) (pe_one (pe_cmpR op_eq (pv 0) (pv 1) (nomark _)))))) pss_nil) (pss_cons (ps_if (PW.pt (pw_or (pt_cmpR op_ne (pe_callB call_isi (by rfl) B.isi (by decide +kernel) (pa_cons (pv 1) (pa_cons (pe_bltn (v := .ty "tuple") (by rfl) B.tup (by decide +kernel) rfl) pa_nil))) (pe_callB call_isi (by rfl) B.isi (by decide +kernel) (pa_cons (pv 0) (pa_cons (pe_bltn (v := .ty "tuple") (by rfl) B.tup (by decide +kernel) rfl) pa_nil))) (nomark _)) (pw_or1 (pt_cmpR op_ne (pe_callB call_isi (by rfl) B.isi (by decide +kernel) (pa_cons (pv 1) (pa_cons (pe_bltn (v := .ty "list") (by rfl) B.list (by decide +kernel) rfl) pa_nil))) (pe_callB call_isi (by rfl) B.isi (by decide +kernel) (pa_cons (pv 0) (pa_cons (pe_bltn (v := .ty "list") (by rfl) B.list (by decide +kernel) rfl) pa_nil))) (nomark _))))) (pss_one (ps_ret pe_bl)) pss_nil) (pss_one (ps_ret (pe_and (pe_cmpR op_eq (pe_callB call_len_seq (by rfl) B.len PySem.boot_len (pa_cons (pv 0) pa_nil)) (pe_callB call_len_seq (by rfl) B.len PySem.boot_len (pa_cons (pv 1) pa_nil)) (nomark _)) (pe_one (pe_callB (cr_all rfl) (by rfl) B.all (by decide +kernel) (pa_cons (pe_lc (own := [("one", 2), ("other", 3)]) (g := gTup K 2 (gCons (gName 2) (gCons (gName 3) gNil))) (by rfl) scSame.nd (pi_zipT (by rfl) B.zip (pa_cons (pv 0) (pa_cons (pv 1) pa_nil))) (blkOk_by (own := [("one", 2), ("other", 3)]) (N := NS) (sc := defScope sSame) (by decide +kernel)) (fun _ _ _ _ _ => pg_tup (by rfl) (pgs_cons (pg_name (i := 2) scSame.nd rfl (Or.inl rfl)) (pgs_cons (pg_name (i := 3) scSame.nd rfl (Or.inl rfl)) pgs_nil))) (fun _ _ _ _ _ => pts_nil) (fun _ _ _ _ _ => pe_call G hr rfl D.m D.F.kp D.b .nil pass0 (pa_cons (pv 2) (pa_cons (pv 3) pa_nil)))) pa_nil))))))))), ?read⟩
    case read =>
      rcases h with ⟨rfl, q⟩ | ⟨x, y, d, rfl, hx, hy, hdp, hnr, q⟩
      · refine ⟨_, rfl, rfl, _, rfl, iteT ?_⟩
        exact ⟨_, rfl, rfl, q⟩
      cases hx with
      | int i =>
        cases hy
        refine ⟨_, rfl, rfl, _, rfl, iteB (fun z => absurd (of_decide_eq_true z) (by simp)) fun _ => ?_⟩
        refine ⟨_, rfl, _, _, _, true, rfl, .int _, kII, _, rfl, iteT ?_⟩
        refine ⟨_, rfl, _, _, _, true, rfl, .int _, kII, _, rfl, iteT ?_⟩
        refine ⟨_, rfl, _, _, _, false, rfl, .int _, kIB, _, rfl, _, rfl, iteT ?_⟩
        refine ⟨_, rfl, _, rfl, rfl, ?_⟩
        have z := q _ (Same.refl H)
        rw [← decide_eq_true (rfl : V.int i = V.int i)] at z
        exact z
      | str i =>
        cases hy
        refine ⟨_, rfl, rfl, _, rfl, iteB (fun z => absurd (of_decide_eq_true z) (by simp)) fun _ => ?_⟩
        refine ⟨_, rfl, _, _, _, false, rfl, .str _, kSI, _, rfl, iteF ?_⟩
        refine ⟨_, rfl, _, _, _, true, rfl, .str _, kSS, _, rfl, iteT ?_⟩
        refine ⟨_, rfl, _, _, _, true, rfl, .str _, kSS, _, rfl, iteT ?_⟩
        refine ⟨_, rfl, _, rfl, rfl, ?_⟩
        have z := q _ (Same.refl H)
        rw [← decide_eq_true (rfl : V.str i = V.str i)] at z
        exact z
      | tup ha hxa =>
        cases hy with
        | tup hb hya =>
          rename_i a xs ds b ys
          have l1 : xs.length = ds.length := hxa.len
          have l2 : ys.length = ds.length := hya.len
          have hdp : PyData.depthAll ds + 1 < n + 1 := hdp
          obtain ⟨hn1, hn2⟩ := narrow_tup hnr
          refine ⟨_, rfl, rfl, _, rfl, iteB (fun z => absurd (of_decide_eq_true z) (by simp)) fun _ => ?_⟩
          refine ⟨_, rfl, _, _, _, false, rfl, .tup hb, kTI, _, rfl, iteF ?_⟩
          refine ⟨_, rfl, _, _, _, false, rfl, .tup hb, kTS, _, rfl, iteF ?_⟩
          refine ⟨_, rfl, _, _, _, true, rfl, .tup hb, kTT, _, rfl, _, _, _, true, rfl, .tup ha, kTT, rfl, _, rfl, ?_⟩
          refine iteB (fun z => absurd z (by simp)) (fun _ => ?_)
          refine ⟨_, rfl, _, _, _, false, rfl, .tup hb, kTL, _, rfl, _, _, _, false, rfl, .tup ha, kTL, rfl, _, rfl, ?_⟩
          refine iteB (fun z => absurd z (by simp)) (fun _ => ?_)
          refine ⟨_, rfl, a, _, rfl, .inr (SqT.of ha), _, rfl, b, _, rfl, .inr (SqT.of hb), rfl, _, rfl, ?_⟩
          refine ite2 (fun _ => ?_) (fun z => absurd (decide_eq_true (by rw [l1, l2])) z)
          refine ⟨_, rfl, _, rfl, a, b, xs, ys, rfl, SqT.of ha, SqT.of hb, fun D hD => ?_⟩
          refine lc_zipT (K := K) (a := a) (b := b) (xs := xs) (ys := ys) (by omega) (fun i H3 => H3 D = some (.lst ((List.replicate i true).map V.bl)) ∧ Same H H3) ⟨by rw [upd_same]; rfl, same_new hD _⟩ (fun i H3 _ z => ⟨SqT.of (z.2 _ _ ha), SqT.of (z.2 _ _ hb)⟩) ?_ ?_
          · rintro i x y H3 T ex ey ⟨hD3, s3⟩ hT
            have hi : i < ds.length := by have := (List.getElem?_eq_some_iff.mp ex).1; omega
            obtain ⟨d, hd, tx⟩ := hxa.at2 ex
            obtain ⟨d', hd', ty⟩ := hya.at2 ey
            rw [hd] at hd'
            cases hd'
            have dm := depth_mem hd
            have s4 := s3.trans (same_new hT (.tup [x, y]))
            refine ⟨T, _, rfl, SqT.of upd_same, rfl, _, _, rfl, _, _, rfl, rfl, rfl, _, rfl, _, rfl, _, _, d, rfl, tx.keep (KeepT.of s4), ty.keep (KeepT.of s4), by omega, narrow_mem hn2 hd, fun H5 s5 => ?_⟩
            have s3' := (same_new hT (.tup [x, y])).trans s5
            refine ⟨_, s3' _ _ hD3, ?_, ?_, ?_⟩
            · rw [List.length_map, List.length_replicate]
              exact small1000 (by omega)
            · rw [upd_same, List.replicate_succ', List.map_append]
              try rfl
            · intro c o e
              rw [upd_ne (ne_of_none e hD)]
              exact s3' _ _ (s3 _ _ e)
          · rintro H3 ⟨hD3, s3⟩
            refine ⟨D, List.replicate xs.length true, rfl, SqL.of hD3, ?_⟩
            have z := q H3 s3
            have e : (List.replicate xs.length true).all id = true := List.all_eq_true.mpr fun c hc => (List.mem_replicate.mp hc).2
            rw [← e] at z
            exact z
theorem ok_same0 {f : Addr} {fd : FuncData} : FnOk P w K mg base CX0 0 f fd ["found", "due"] (spSame 0) := by
  have no : ∀ vs H Q E, ¬ spSame 0 vs H Q E := fun vs H Q E h => by
    obtain ⟨x, y, d, _, _, _, h1, _⟩ := h
    omega
  exact ⟨fun vs H Q E h => absurd h (no vs H Q E), fun A outer s H args us vs Q E _ _ _ _ h => absurd h (no vs H Q E)⟩
theorem ok_same (D : Df K mg "_law_same" sSame ["found", "due"]) (B : Bl mg) : ∀ n : Nat, FnOk P w K mg base CX0 n D.f D.fd ["found", "due"] (spSame n)
  | 0 => ok_same0
  | n + 1 => by
    have G := ok_smS (w := w) D B n (ok_same D B n)
    exact ⟨fun vs H Q E h => G.len vs H Q E (.inr h), fun A outer s H args us vs Q E h1 h2 h3 h4 h => G.run A outer s H args us vs Q E h1 h2 h3 h4 (.inr h)⟩
theorem ok_sm (D : Df K mg "_law_same" sSame ["found", "due"]) (B : Bl mg) (n : Nat) : FnOk P w K mg base CX0 (n + 1) D.f D.fd ["found", "due"] (spSm (n + 1)) := ok_smS D B n (ok_same D B n)
end
end My
set_option Elab.async false
set_option linter.all false
set_option maxRecDepth 100000
set_option maxHeartbeats 4000000
namespace L2
open PySem PySem.Spec PyProof.Rows
open Sem (wp)
/-- every object's dict is as it was -/
def DK (h h' : Heap) : Prop := ∀ b o, h.get? b = some o → ∃ o', h'.get? b = some o' ∧ o'.dict = o.dict
theorem DK.refl (h : Heap) : DK h h := fun _ o e => ⟨o, e, rfl⟩
theorem DK.trans {h h1 h2 : Heap} (x : DK h h1) (y : DK h1 h2) : DK h h2 := fun b o e => by
  obtain ⟨o1, e1, d1⟩ := x b o e
  obtain ⟨o2, e2, d2⟩ := y b o1 e1
  exact ⟨o2, e2, d2.trans d1⟩
theorem DK.upd {h : Heap} {a : Addr} {f : Obj → Obj} (hd : ∀ o, (f o).dict = o.dict) (hr : ∀ o, o.isFreed = false → (f o).isFreed = false) : DK h (h.update a f) := fun b o e => by
  by_cases q : b = a
  · subst q
    exact ⟨f o, Heap.get?_update_self f e (hr o (Heap.get?_some_iff.mp e).2), hd o⟩
  · exact ⟨o, (Heap.get?_update_other h f (Ne.symm q)).trans e, rfl⟩
theorem mapF_dict (g : Array Value → Array Value) (o : Obj) : (o.mapFields g).dict = o.dict := by
  obtain ⟨c, d, x, s⟩ := o
  cases x <;> rfl
theorem mapF_freed (g : Array Value → Array Value) (o : Obj) (h : o.isFreed = false) : (o.mapFields g).isFreed = false := by
  obtain ⟨c, d, x, s⟩ := o
  cases x <;> first | rfl | exact h
structure KpD {α : Type} (t : Sem α) : Prop where
  out : ∀ (M : Model) (Γ : PySem.Ctx) (P : α → Pos → Shared → Prop) (Ee : Value → Pos → Shared → Prop) (p : Pos) (s : Shared), wp M Γ t P Ee p s → wp M Γ t (fun a p' s' => P a p' s' ∧ DK s.heap s'.heap) Ee p s
namespace KpD
variable {α β : Type}
theorem pure (a : α) : KpD (Pure.pure a : Sem α) := ⟨fun M Γ P Ee p s h => by
  rw [Sem.wp_pure'] at h ⊢
  exact ⟨h, DK.refl _⟩⟩
theorem unsupported (w : String) : KpD (PySem.unsupported w : Sem α) := ⟨fun M Γ P Ee p s h => h.elim⟩
theorem bind {m : Sem α} {f : α → Sem β} (hm : KpD m) (hf : ∀ a, KpD (f a)) : KpD (m >>= f) := ⟨fun M Γ P Ee p s h => by
  rw [Sem.wp_bind'] at h ⊢
  exact Sem.wp_mono M Γ m (fun a p' s' h' => Sem.wp_mono M Γ (f a) (fun b p2 s2 h2 => ⟨h2.1, h'.2.trans h2.2⟩) (fun _ _ _ x => x) p' s' ((hf a).out M Γ P Ee p' s' h'.1)) (fun _ _ _ x => x) p s (hm.out M Γ _ Ee p s h)⟩
theorem ite {c : Prop} [Decidable c] {t u : Sem α} (ht : KpD t) (hu : KpD u) : KpD (if c then t else u) := by split <;> assumption
theorem load (a : Addr) : KpD (PySem.load a) := ⟨fun M Γ P Ee p s h => by
  obtain ⟨o, ho, h⟩ := h
  exact ⟨o, ho, h, DK.refl _⟩⟩
theorem stack : KpD PySem.stack := ⟨fun M Γ P Ee p s h => by
  unfold PySem.stack at h ⊢
  rw [Sem.wp_stack] at h ⊢
  exact ⟨h, DK.refl _⟩⟩
theorem update (a : Addr) (f : Obj → Obj) (hd : ∀ o, (f o).dict = o.dict) (hr : ∀ o, o.isFreed = false → (f o).isFreed = false) : KpD (PySem.update a f) := ⟨fun M Γ P Ee p s h => by
  obtain ⟨z, h⟩ := h
  exact ⟨z, h, DK.upd hd hr⟩⟩
theorem alloc (o : Obj) : KpD (PySem.alloc o) := ⟨fun M Γ P Ee p s h => ⟨h, fun b o e => ⟨o, Heap.get?_push_of_some _ e, rfl⟩⟩⟩
theorem field (v : Value) (i : Nat) : KpD (PySem.field v i) := ⟨fun M Γ P Ee p s h => by
  rw [wp_field_iff] at h ⊢
  obtain ⟨a, o, vs, x, e1, e2, e3, e4, h⟩ := h
  exact ⟨a, o, vs, x, e1, e2, e3, e4, h, DK.refl _⟩⟩
theorem setField (v : Value) (i : Nat) (x : Value) : KpD (PySem.setField v i x) := ⟨fun M Γ P Ee p s h => by
  rw [wp_setField_iff] at h ⊢
  obtain ⟨a, o, vs, e1, e2, e3, e4, h⟩ := h
  exact ⟨a, o, vs, e1, e2, e3, e4, h, DK.upd (mapF_dict _) (mapF_freed _)⟩⟩
end KpD
theorem kpd_import (env : Env) (outer : List Env) : KpD (behindIsImport env outer) := by
  unfold behindIsImport
  (repeat' with_reducible first | assumption | exact KpD.pure _ | exact KpD.unsupported _ | exact KpD.field _ _ | exact KpD.setField _ _ _ | exact KpD.load _ | exact KpD.stack | exact KpD.alloc _ | apply KpD.ite | apply KpD.bind | intro _ | split)
theorem kpd_under : KpD underTheClaimsCaller := by
  unfold underTheClaimsCaller
  (repeat' with_reducible first | assumption | exact KpD.pure _ | exact KpD.unsupported _ | exact KpD.field _ _ | exact KpD.setField _ _ _ | exact KpD.load _ | exact KpD.stack | exact KpD.alloc _ | apply KpD.ite | apply KpD.bind | intro _ | split)
theorem kpd_back (env : Env) (i : Bool) (l : List Env) : KpD (keptBack env i l) := by
  have := kpd_under
  cases l <;> unfold keptBack <;> (repeat' with_reducible first | assumption | exact KpD.pure _ | exact KpD.unsupported _ | exact KpD.field _ _ | exact KpD.setField _ _ _ | exact KpD.load _ | exact KpD.stack | exact KpD.alloc _ | apply KpD.ite | apply KpD.bind | intro _ | split)
theorem kpd_ready : ∀ l : List Env, KpD (readyFrames l)
  | [] => KpD.pure _
  | env :: outer => by
    have ih := kpd_ready outer
    have h1 := kpd_import env outer
    have h2 := fun i => kpd_back env i outer
    unfold readyFrames
    (repeat' with_reducible first | assumption | exact KpD.pure _ | exact KpD.unsupported _ | exact KpD.field _ _ | exact KpD.setField _ _ _ | exact KpD.load _ | exact KpD.stack | exact KpD.alloc _ | apply KpD.ite | apply KpD.bind | intro _ | split)
    all_goals first | exact h2 _ | exact KpD.update _ _ (fun _ => rfl) (fun o h => by obtain ⟨c, d, x, sl⟩ := o; cases x <;> first | rfl | exact h) | skip
theorem kpd_frame (l : List Env) : KpD (frameObject l) := by
  cases l with
  | nil => exact KpD.pure _
  | cons env outer =>
    have := kpd_ready (env :: outer)
    unfold frameObject
    (repeat' with_reducible first | assumption | exact KpD.pure _ | exact KpD.unsupported _ | exact KpD.field _ _ | exact KpD.setField _ _ _ | exact KpD.load _ | exact KpD.stack | exact KpD.alloc _ | apply KpD.ite | apply KpD.bind | intro _ | split)
theorem kpd_envs : KpD frameEnvs := by
  unfold frameEnvs
  (repeat' with_reducible first | assumption | exact KpD.pure _ | exact KpD.unsupported _ | exact KpD.field _ _ | exact KpD.setField _ _ _ | exact KpD.load _ | exact KpD.stack | exact KpD.alloc _ | apply KpD.ite | apply KpD.bind | intro _ | split)
theorem kpd_frameOf (env : Env) : KpD (PySem.frameOf env) := by
  have h1 := kpd_envs
  have h2 := kpd_frame
  unfold PySem.frameOf
  (repeat' with_reducible first | assumption | exact KpD.pure _ | exact KpD.unsupported _ | exact KpD.field _ _ | exact KpD.setField _ _ _ | exact KpD.load _ | exact KpD.stack | exact KpD.alloc _ | apply KpD.ite | apply KpD.bind | intro _ | split)
  all_goals first | exact h2 _ | skip
theorem kpd_place (f : Addr) (b : Bool) : KpD (entryPlaceOf f b) := by
  unfold entryPlaceOf
  (repeat' with_reducible first | assumption | exact KpD.pure _ | exact KpD.unsupported _ | exact KpD.field _ _ | exact KpD.setField _ _ _ | exact KpD.load _ | exact KpD.stack | exact KpD.alloc _ | apply KpD.ite | apply KpD.bind | intro _ | split)
theorem kpd_entry (a b c d e : Value) (pl : List Value) : KpD (EntryCells.newEntry a b c d e pl) := by
  unfold EntryCells.newEntry newFields newObj newObjAsIs
  (repeat' with_reducible first | assumption | exact KpD.pure _ | exact KpD.unsupported _ | exact KpD.field _ _ | exact KpD.setField _ _ _ | exact KpD.load _ | exact KpD.stack | exact KpD.alloc _ | apply KpD.ite | apply KpD.bind | intro _ | split)
theorem kpd_note (e : Value) (env : Env) : KpD (noteFrame e env) := by
  have h1 := kpd_frameOf env
  have h2 := kpd_place
  have h3 := kpd_entry
  unfold noteFrame
  (repeat' with_reducible first | assumption | exact KpD.pure _ | exact KpD.unsupported _ | exact KpD.field _ _ | exact KpD.setField _ _ _ | exact KpD.load _ | exact KpD.stack | exact KpD.alloc _ | apply KpD.ite | apply KpD.bind | intro _ | split)
  all_goals first | exact h2 _ _ | exact h3 _ _ _ _ _ _ | skip
theorem kpd_flight (e : Value) (f : Option Addr) : KpD (setFlight e f) := by
  unfold setFlight
  (repeat' with_reducible first | assumption | exact KpD.pure _ | exact KpD.unsupported _ | exact KpD.field _ _ | exact KpD.setField _ _ _ | exact KpD.load _ | exact KpD.stack | exact KpD.alloc _ | apply KpD.ite | apply KpD.bind | intro _ | split)
theorem kpd_leaving (env : Env) (e : Value) : KpD (leaving env e) := (kpd_note e env).bind fun _ => kpd_flight e none
theorem KpD.any {α : Type} {t : Sem α} (k : KpD t) {M : Model} {A : Around} {Q : α → Shared → Prop} {E : Value → Shared → Prop} {s : Shared} (h : wpAny M A t Q E s) : wpAny M A t (fun a s' => Q a s' ∧ DK s.heap s'.heap) E s :=
  fun Γ p hA => k.out M Γ (fun a _ s' => Q a s') (fun e _ s' => E e s') p s (h Γ p hA)
end L2
set_option Elab.async false
set_option linter.all false
set_option maxRecDepth 100000
set_option maxHeartbeats 4000000
namespace L2
open PySem PySem.W PySem.Spec PyProof.Rows
section
variable {P : Program} {w : World} {H H' H1 : Hp} {h h' h1 h2 : Heap} {a : Addr} {o : HO}
theorem ObjOk.there (x : ObjOk P w H h a o) : ∃ u, h.get? a = some u := by
  cases o with
  | lst xs => obtain ⟨_, _, _, _, e⟩ := x; exact ⟨_, e⟩
  | tup xs => obtain ⟨_, _, _, _, e, _⟩ := x; exact ⟨_, e⟩
  | dK kvs => obtain ⟨_, _, _, _, o, _, _, e, _⟩ := x; exact ⟨_, e⟩
  | dT kvs => obtain ⟨_, _, _, _, o, _, _, e, _⟩ := x; exact ⟨_, e⟩
  | set S n => obtain ⟨o, _, _, _, e, _⟩ := x; exact ⟨_, e⟩
  | ins C dx fs => obtain ⟨_, _, _, e, _⟩ := x; exact ⟨_, e⟩
  | own y => exact x
  | xd fs => obtain ⟨_, ⟨_, _, _, e, _⟩, _⟩ := x; exact ⟨_, e⟩
  | rng lo hi => obtain ⟨_, _, _, e⟩ := x; exact ⟨_, e⟩
  | frz ob u => obtain ⟨e, _⟩ := x; exact ⟨_, e⟩
  | tbl ps => exact ⟨_, (show h.get? a = some _ from x)⟩
  | met f y => exact ⟨_, (show h.get? a = some _ from x)⟩
  | ext φ => obtain ⟨_, e, _⟩ := x; exact e
theorem HOk.there (x : HOk P w H h) (n : H a ≠ none) : ∃ u, h.get? a = some u := by
  cases q : H a with
  | none => exact absurd q n
  | some o => exact (x a o q).there
/-- all that is tracked is kept -/
theorem HOk.tracked (x : HOk P w H h) (k : ∀ b u, H b ≠ none → h.get? b = some u → h'.get? b = some u) : HOk P w H h' := fun a o e =>
  (x a o e).stay (fun b u hb q => k b u (by
    rcases hb with z | z
    · rw [z, e]; exact fun z => nomatch z
    · rw [z]; exact fun z => nomatch z) q) (fun _ z => z) (fun _ _ z => z)
theorem Un.fly {fs ex : List Addr} (u : Un fs ex H H1 h h1) (kp : ∀ b o, (∃ v, h.get? b = some v) → h1.get? b = some o → b ∉ fs → h2.get? b = some o)
    (sl : ∀ b o, b ∈ fs → h1.get? b = some o → ∃ sl, h2.get? b = some { o with slots := sl }) : Un fs ex H H1 h h2 where
  keep := fun b o q n hb hx => kp b o ⟨o, q⟩ (u.keep b o q n hb hx) hb
  slot := fun b o q n hb hx => by
    obtain ⟨s1, e1⟩ := u.slot b o q n hb hx
    obtain ⟨s2, e2⟩ := sl b _ hb e1
    exact ⟨s2, e2⟩
  free := u.free
  there := fun b o q hx => by
    obtain ⟨o', e1⟩ := u.there b o q hx
    by_cases hb : b ∈ fs
    · obtain ⟨s2, e2⟩ := sl b _ hb e1
      exact ⟨_, e2⟩
    · exact ⟨o', kp b o' ⟨o, q⟩ e1 hb⟩
  tups := u.tups
  frzs := u.frzs
  tbls := u.tbls
end
/-- over the frames l flies the exception x of the class cls; what H tracks, and what stood in h0, frames aside, stands in a heap B that no leaving touches -/
structure FlyX (l : List Env) (h0 : Heap) (H : Hp) (x : Addr) (cls : Value) (h : Heap) : Prop where
  ex : ∃ (B : Heap) (t : Addr), Heap.FlyingW B l x cls (.ref t) h ∧ ∀ b o, h.get? b = some o → b ∉ frs l → (H b ≠ none ∨ ∃ u, h0.get? b = some u) → B.get? b = some o
  dn : ∀ o, h.get? x = some o → o.dict = none
/-- how an exception lies behind a call -/
def CXE (P : Program) (w : World) : CXT := fun outer H s E e s' => ∃ (x : Addr) (cls : Value) (H1 : Hp), e = .ref x ∧ s'.os = s.os ∧ GB s.gens.size s'.gens ∧ Un (frs outer) [] H H1 s.heap s'.heap ∧ HOk P w H1 s'.heap ∧
  FlyX outer s.heap H1 x cls s'.heap ∧ E cls none H1
section
variable {X : Cx} {pins : List (Addr × Obj)} {σ : St} {H : Hp} {s : Shared}
theorem Inv.fsStk (I : Inv X pins σ H s) (hs : X.stack = X.env :: X.outer) : ∀ b ∈ X.fs, b ∈ frs X.stack := fun b hb => by
  rw [hs]
  unfold frs
  rw [List.filterMap_cons]
  split
  · exact hb
  · exact List.mem_cons_of_mem _ hb
/-- an exception has left this frame -/
theorem fly_out {B : Heap} {x t : Addr} {cls : Value} {h'' : Heap} {E : XK} (I : Inv X pins σ H s) (hstk : X.stack = X.env :: X.outer) (hex : X.ex = [])
    (F : Heap.FlyingW B X.outer x cls (.ref t) h'') (U : s.heap.UpToSlots h'')
    (C : ∀ b o, s.heap.get? b = some o → b ∉ frs X.stack → (H b ≠ none ∨ ∃ u, X.s_0.heap.get? b = some u) → B.get? b = some o) (dn : ∀ o, h''.get? x = some o → o.dict = none) (hE : E cls none H) :
    CXE X.prog X.w X.outer X.H_0 X.s_0 E (.ref x) { s with heap := h'' } := by
  have hL0 : X.s_0.heap.get? X.env.locals = none := Heap.get?_none_of_le I.ok.above
  have kp : ∀ b o, s.heap.get? b = some o → b ∉ X.fs → b ≠ X.env.locals → (H b ≠ none ∨ ∃ u, X.s_0.heap.get? b = some u) → B.get? b = some o := fun b o e n1 n2 z =>
    C b o e (fun m => (List.mem_cons.mp (I.stkSub b m)).elim n2 n1) z
  have nT : ∀ b, H b ≠ none → b ∉ X.fs ∧ b ≠ X.env.locals := fun b n => ⟨fun m => n (I.stkFree b (I.fsStk hstk b m)), fun z => n (z ▸ I.free)⟩
  have nO : ∀ b, (∃ u, X.s_0.heap.get? b = some u) → b ≠ X.env.locals := fun b ⟨u, hu⟩ z => by rw [z, hL0] at hu; cases hu
  have ub : Un X.fs [] X.H_0 H X.s_0.heap s.heap := hex ▸ I.base
  refine ⟨x, cls, H, rfl, I.os, I.bare, ub.fly (fun b o z e n => F.1 b o (kp b o e n (nO b z) (.inr z))) (fun b o hb e => ?_), I.hok.tracked (fun b u n e => F.1 b u (kp b u e (nT b n).1 (nT b n).2 (.inl n))), ⟨⟨B, t, F, fun b o e n z => ?_⟩, dn⟩, hE⟩
  · obtain ⟨_, o', e', nf⟩ := I.funs.mem hb
    rw [e] at e'; cases e'
    exact U b o e nf
  · have nl : b ≠ X.env.locals := z.elim (fun n => (nT b n).2) (nO b)
    obtain ⟨u, hu⟩ : ∃ u, s.heap.get? b = some u := z.elim (fun n => I.hok.there n) fun ⟨u, hu⟩ => ub.there b u hu (fun z => nomatch z)
    have hB := kp b u hu n nl z
    have q := F.1 b u hB
    have e' : h''.get? b = some o := e
    rw [e'] at q; cases q
    exact hB
end
section
variable {P : Program} {w : World} {K : PySem.W.Frag} {mg : Str → Option Value} {base : Heap} {N : List Str} {qual : Str} {scope : Scope} {f : Addr} {cd : Value} {A : Around} {outer : List Env} {s0 s : Shared} {H0 H : Hp} {E E' : XK} {pins : List (Addr × Obj)} {σ : St}
/-- a new exception, raised in a def's body -/
theorem raise_xe {x : Addr} {cls : Value} {vs : List Value} {h' : Heap} (I : Inv (cxOf (CXE P w) P w K mg base N qual scope f cd A outer s0 H0 E) pins σ H s) (hx : Heap.MadeExcOf s.heap h' x cls vs) (hE : E cls none H) :
    (cxOf (CXE P w) P w K mg base N qual scope f cd A outer s0 H0 E).xe (.ref x) { s with heap := h' } := by
  show wpAny (model P w) (A.deeper (envOfC qual scope s0.heap.objs.size f cd)) (leaving (envOfC qual scope s0.heap.objs.size f cd) (.ref x)) _ _ _
  have hin : ∀ env ∈ (envOfC qual scope s0.heap.objs.size f cd :: outer), ∀ b, env.frame = some b → b ∈ frs (envOfC qual scope s0.heap.objs.size f cd :: outer) := fun env he b hb => List.mem_filterMap.mpr ⟨env, he, hb⟩
  refine wpAny_mono ((kpd_leaving _ _).any (wpAny_leaves_madeW (Q := fun _ s'' => ∃ h'' t, s'' = { s with heap := h'' } ∧ Heap.FlyingW (hideAll s.heap (frs (envOfC qual scope s0.heap.objs.size f cd :: outer))) outer x cls (.ref t) h'' ∧ h'.UpToSlots h'')
    (base := hideAll s.heap (frs (envOfC qual scope s0.heap.objs.size f cd :: outer))) (h := s.heap) (outer := outer) I.ok.frames rfl (fun b o q => of_hideAll _ q) (funFrames_hide I.stack hin) hx fun h'' t F T tn U => ⟨h'', t, rfl, F, U⟩)) (fun _ s'' ⟨⟨h'', t, e, F, U⟩, dk⟩ => ?_) fun _ _ z => z
  subst e
  refine fly_out (s := { s with heap := h' }) (I.kept (t' := s.toks) hx.keeps) rfl rfl F U (fun b o e n z => ?_) (fun o e => ?_) hE
  · have e : h'.get? b = some o := e
    obtain ⟨u, hu⟩ : ∃ u, s.heap.get? b = some u := z.elim (fun n => I.hok.there n) fun ⟨u, hu⟩ => I.base.there b u hu (fun z => nomatch z)
    have q := hx.keeps b u hu
    rw [e] at q; cases q
    exact hideAll_get _ hu n
  · obtain ⟨t2, e2, _⟩ := hx.there
    obtain ⟨o', e3, e4⟩ := dk x _ e2
    have e3 : h''.get? x = some o' := e3
    rw [e] at e3; cases e3
    exact e4
end
end L2
set_option Elab.async false
set_option linter.all false
set_option maxRecDepth 100000
set_option maxHeartbeats 4000000
namespace L2
open PySem PySem.W PySem.Spec PyProof.Rows
/-- an exception object that stands in the heap -/
def ExcO (x : Addr) (cls : Value) : HO := .ext fun h => ∃ o, h.get? x = some o ∧ o.cls = cls ∧ o.dict = none ∧ ∃ vs, o.data = .fields vs
section
variable {X : Cx} {pins : List (Addr × Obj)} {σ : St} {H H1 : Hp} {s s' : Shared}
theorem Cx.Ok.re {X : Cx} (ok : X.Ok) (A : Around) (hA : A.frames = X.A.frames) (c : Bool) (hc : c = true → A.handled = none) (pn : List (Addr × Obj)) (xe : Value → Shared → Prop) :
    ({ X with A := A, calm := c, pn := pn, xe := xe } : Cx).Ok :=
  ⟨ok.mod, ok.kind, ok.glob, ok.blt, ok.above, ok.inj, ok.has, ok.cab, hc, hA.trans ok.frames, ok.stk, ok.exf, ok.bs, ok.bsz, ok.noex, ok.exfs, ok.funs, ok.frf⟩
theorem Cx.Ok.ex {X : Cx} {A : Around} {c : Bool} {pn : List (Addr × Obj)} {xe : Value → Shared → Prop} (ok : ({ X with A := A, calm := c, pn := pn, xe := xe } : Cx).Ok) (hd : X.calm = true → X.A.handled = none) (hf : X.A.frames = some X.stack) : X.Ok :=
  ⟨ok.mod, ok.kind, ok.glob, ok.blt, ok.above, ok.inj, ok.has, ok.cab, hd, hf, ok.stk, ok.exf, ok.bs, ok.bsz, ok.noex, ok.exfs, ok.funs, ok.frf⟩
theorem Inv.re {A : Around} {c : Bool} {pn pins' : List (Addr × Obj)} {xe : Value → Shared → Prop} (I : Inv X pins σ H s) (hA : A.frames = X.A.frames) (hc : c = true → A.handled = none) (hp : ∀ p ∈ pn ++ pins', p ∈ X.pn ++ pins) :
    Inv { X with A := A, calm := c, pn := pn, xe := xe } pins' σ H s := ⟨I.ok.re A hA c hc pn xe, I.os, I.bare, I.base, I.loc, I.cell, I.free, I.freeC, fun p h => I.pin p (hp p h), I.hok, I.len⟩
theorem Inv.ex {A : Around} {c : Bool} {pn pins' : List (Addr × Obj)} {xe : Value → Shared → Prop} (I : Inv { X with A := A, calm := c, pn := pn, xe := xe } pins' σ H s) (ok : X.Ok) (hp : ∀ p ∈ X.pn ++ pins, p ∈ pn ++ pins') :
    Inv X pins σ H s := ⟨ok, I.os, I.bare, I.base, I.loc, I.cell, I.free, I.freeC, fun p h => I.pin p (hp p h), I.hok, I.len⟩
/-- an exception of a callee has landed in this frame -/
theorem fly_in {x t : Addr} {cls : Value} {B h5 : Heap} (I : Inv X pins σ H s) (os : s'.os = s.os) (gb : GB s.gens.size s'.gens) (un : Un (frs X.stack) [] H H1 s.heap s'.heap) (hok : HOk X.prog X.w H1 s'.heap)
    (F : Heap.FlyingW B X.stack x cls (.ref t) s'.heap) (C : ∀ b o, s'.heap.get? b = some o → b ∉ frs X.stack → (H1 b ≠ none ∨ ∃ u, s.heap.get? b = some u) → B.get? b = some o)
    (F5 : Heap.FlyingW B X.stack x cls (.ref t) h5) (U : s'.heap.UpToSlots h5) (dn : ∀ o, h5.get? x = some o → o.dict = none) :
    Inv X pins σ H1 { s' with heap := h5 } ∧ H1 x = none ∧ Inv X pins σ (upd H1 x (ExcO x cls)) { s' with heap := h5 } := by
  have I1 : Inv X pins σ H1 s' := I.call' (ch := []) os un hok gb (fun b hb => nomatch hb)
  have nF : ∀ b, H1 b ≠ none → b ∉ frs X.stack := fun b n m => n (I1.stkFree b m)
  have hok5 : HOk X.prog X.w H1 h5 := hok.tracked fun b u n e => F5.1 b u (C b u e (nF b n) (.inl n))
  have un5 : Un (frs X.stack) [] H H1 s.heap h5 := un.fly (fun b o z e n => F5.1 b o (C b o e n (.inr z))) fun b o hb e => by
    obtain ⟨_, o', e', nf⟩ := F.2.2.1.mem hb
    rw [e] at e'; cases e'
    exact U b o e nf
  have hx : H1 x = none := by
    cases q : H1 x with
    | none => rfl
    | some o =>
      have n : H1 x ≠ none := by rw [q]; exact fun z => nomatch z
      obtain ⟨u, hu⟩ := hok.there n
      have := C x u hu (nF x n) (.inl n)
      rw [F.2.1] at this; cases this
  have xF : x ∉ frs X.stack := fun m => by
    obtain ⟨_, o', e', nf⟩ := F.2.2.1.mem m
    obtain ⟨oe, vs, e1, _, e2, _⟩ := F.first
    rw [e1] at e'; cases e'
    exact nf _ e2
  have xN : ∀ o, s.heap.get? x = some o → False := fun o e => by
    obtain ⟨oe, vs, e1, _, e2, _⟩ := F.first
    have := C x oe e1 xF (.inr ⟨o, e⟩)
    rw [F.2.1] at this; cases this
  have nx : ∀ b u, H1 b = some u → b ≠ x := fun b u e z => by rw [z, hx] at e; cases e
  refine ⟨I.call' (s' := { s' with heap := h5 }) (ch := []) os un5 hok5 gb (fun b hb => nomatch hb), hx, I.call' (s' := { s' with heap := h5 }) (ch := []) os ?_ ?_ gb (fun b hb => nomatch hb)⟩
  · exact ⟨un5.keep, un5.slot, fun b o q n he => by rw [upd_ne (fun z => xN o (by rw [← z]; exact q))]; exact un5.free b o q n he, un5.there, fun b xs q => by rw [upd_ne (nx _ _ (un5.tups b xs q))]; exact un5.tups b xs q,
      fun b o u q => by rw [upd_ne (nx _ _ (un5.frzs b o u q))]; exact un5.frzs b o u q, fun b ps q => by
        obtain ⟨m, e⟩ := un5.tbls b ps q
        exact ⟨m, by rw [upd_ne (nx _ _ e)]; exact e⟩⟩
  · intro b o e
    by_cases hb : b = x
    · subst hb
      rw [upd_same] at e; cases e
      obtain ⟨oe, vs, e1, e2, e3, _⟩ := F5.first
      exact ⟨⟨oe, e1, e2, dn _ e1, _, e3⟩, ⟨oe, e1⟩, fun ha hb ⟨o, q1, q2⟩ k => ⟨o, k o q1, q2⟩⟩
    · rw [upd_ne hb] at e
      exact (hok5 b o e).stay (fun _ _ _ q => q) (fun c q => by rw [upd_ne (nx _ _ q)]; exact q) fun c xs q => by rw [upd_ne (nx _ _ q)]; exact q
/-- behind a suite of an except clause with a name: the name is gone -/
theorem name_gone {M : Model} {A : Around} {E : Value → Shared → Prop} {i : Nat} {n : Str} {pos : Pos} {Q : Unit → Shared → Prop} (I : Inv X pins σ H s) (hN : X.N.Nodup) (hi : X.N[i]? = some n) (hk : X.env.scope.names.lookup n = some .local)
    (h : ∀ s', Inv X pins (σ.set i none) H s' → Q () s') : wpAny M A (do bindName X.env n .none; unbindBehindTheSuite X.env n pos) Q E s := by
  obtain ⟨m, hn, hl⟩ := id I.loc
  have hcls : (X.env.scope.kind == .class || (X.env.scope.kind == .module && X.env.locals != X.env.globals)) = false := by rw [I.ok.kind]; rfl
  have cne := I.cne
  refine wpAny_nameGoes_keeps hk hn hcls fun h' v hn' hs => ?_
  refine h _ ⟨I.ok, I.os, I.bare, ⟨fun b o e n hb hx => ?_, fun b o e n hb hx => ?_, I.base.free, fun b o e hx => ?_, I.base.tups, I.base.frzs, I.base.tbls⟩, ⟨_, hn', fun j y v' e1 e2 e3 => ?_⟩, fun y c e => ?_, I.free, I.freeC, fun p hp => ?_, fun b ob e => ?_, by simpa using I.len⟩
  · exact (hs.2 b (Nat.ne_of_lt (Nat.lt_of_lt_of_le (Heap.lt_size e) I.ok.above))).trans (I.base.keep b o e n hb hx)
  · obtain ⟨sl, e1⟩ := I.base.slot b o e n hb hx
    exact ⟨sl, (hs.2 b (Nat.ne_of_lt (Nat.lt_of_lt_of_le (Heap.lt_size e) I.ok.above))).trans e1⟩
  · obtain ⟨o', e1⟩ := I.base.there b o e hx
    exact ⟨o', (hs.2 b (Nat.ne_of_lt (Nat.lt_of_lt_of_le (Heap.lt_size e) I.ok.above))).trans e1⟩
  · by_cases hj : j = i
    · subst hj
      have hiσ : j < σ.length := by rw [I.len]; exact (List.getElem?_eq_some_iff.mp hi).1
      rw [List.getElem?_set_self hiσ] at e2
      cases e2
    · rw [List.getElem?_set_ne (Ne.symm hj)] at e2
      obtain ⟨u', r', q⟩ := hl j y v' e1 e2 e3
      refine ⟨u', r', ?_⟩
      rcases q with ⟨k, e⟩ | ⟨k, c, e, z⟩
      · refine .inl ⟨k, ?_⟩
        have : y ≠ n := fun e => hj (nodup_ix hN e1 (e ▸ hi))
        simp [this, e]
      · exact .inr ⟨k, c, e, z.sameBut hs (cne y c e)⟩
  · obtain ⟨w', z⟩ := I.cell y c e
    exact ⟨w', z.sameBut hs (cne y c e)⟩
  · obtain ⟨e, n, ne, nf, d⟩ := I.pin p hp
    exact ⟨(hs.2 p.1 ne).trans e, n, ne, nf, d⟩
  · refine (I.hok b ob e).stay (fun c w' hc q => (hs.2 c ?_).trans q) (fun _ q => q) fun _ _ q => q
    rintro rfl
    rcases hc with z | z
    · rw [← z, I.free] at e; cases e
    · rw [I.free] at z; cases z
end
/-- try: body; except C as n: suite. T: how the callee's exception lies where it comes -/
def tTry (K : PySem.W.Frag) (C : Value) (i : Nat) (tb : TS) (T : St → XK) (th : TS) : TS := fun D σ H => tb D σ H ∧ ∀ σ1 cls H1, T σ1 cls none H1 → exmOne K cls C = some true ∧ ∀ x, H1 x = none →
  th { nx := fun σ' H' => D.nx (σ'.set i none) H', rt := D.rt, bk := fun σ' H' => D.bk (σ'.set i none) H', ct := fun σ' H' => D.ct (σ'.set i none) H' } (σ1.set i (some (.ref x))) (upd H1 x (ExcO x cls))
section
variable {X : Cx}
/-- what a callee's exception reaches -/
def Reaches (CX : CXT) (X : Cx) (T : St → XK) : Prop := ∀ (pins : List (Addr × Obj)) (σ : St) (H : Hp) (s : Shared) (e : Value) (s' : Shared), Inv X pins σ H s → CX X.stack H s (T σ) e s' → X.xe e s'
theorem ps_try {c n : Str} {C : Value} {i : Nat} {b0 : Stmt} {suite body : List Stmt} {np hp pos : Pos} {tb th : TS} {T : St → XK}
    (hc : X.calm = true) (hstk : X.stack = X.env :: X.outer) (hfr : X.env.frame = some X.env.locals) (hg : Gl X c) (hm : X.mg c = some C) (hN : X.N.Nodup) (hi : X.N[i]? = some n) (hk : X.env.scope.names.lookup n = some .local)
    (hb : ∀ pn xe, Reaches (CXE X.prog X.w) { X with pn := pn, xe := xe } T → PSs { X with pn := pn, xe := xe } body tb)
    (hs : ∀ x : Addr, PSs { X with A := X.A.mark (some (.ref x)), calm := false, pn := X.pn, xe := fun _ _ => False } (b0 :: suite) th)
    (hd : (c == ("__debug__" : Str)) = false := by decide) :
    PS X (.Try body [.ExceptHandler (some (.Name c np)) (some n) (b0 :: suite) hp] [] [] pos) (tTry X.K C i tb T th) := by
  intro pins s σ H D I ⟨h1, h2⟩
  let XE : Value → Shared → Prop := fun e s' => ∃ (σ1 : St) (H1 : Hp) (s1 : Shared), Inv X pins σ1 H1 s1 ∧ CXE X.prog X.w X.stack H1 s1 (T σ1) e s'
  have hok : X.Ok := I.ok
  have rch : Reaches (CXE X.prog X.w) { X with pn := X.pn ++ pins, xe := XE } T := fun p2 σ1 H1 s1 e s' I1 q =>
    ⟨σ1, H1, s1, Inv.ex (A := X.A) (c := X.calm) I1 hok (fun p hp => List.mem_append_left _ hp), q⟩
  have I0 : Inv { X with pn := X.pn ++ pins, xe := XE } [] σ H s := I.re rfl hok.hd fun p hp => by simpa using hp
  have back : ∀ {σ' H' s'}, Inv { X with pn := X.pn ++ pins, xe := XE } [] σ' H' s' → Inv X pins σ' H' s' := fun J => Inv.ex (A := X.A) (c := X.calm) J hok fun p hp => by simpa using hp
  refine wpAny_Try_except (wpAny_mono (hb _ _ rch s σ H D I0 h1) (fun f s1 q => ?_) fun e s1 q => ?_)
  · cases f with
    | next => obtain ⟨σ', H', J, q⟩ := q; exact wpAny_execs_nil ⟨σ', H', back J, q⟩
    | brk => obtain ⟨σ', H', J, q⟩ := q; exact ⟨σ', H', back J, q⟩
    | cont => obtain ⟨σ', H', J, q⟩ := q; exact ⟨σ', H', back J, q⟩
    | ret u => obtain ⟨v, σ', H', J, r, q⟩ := q; exact ⟨v, σ', H', back J, r, q⟩
  · obtain ⟨σ1, H0, s0, J0, x, cls, H1, rfl, os, gb, un, hok1, ⟨⟨B, t, F, C0⟩, dn0⟩, hT⟩ := q
    obtain ⟨m1, m2⟩ := h2 σ1 cls H1 hT
    have F0 : Heap.FlyingW B (X.env :: X.outer) x cls (.ref t) s1.heap := hstk ▸ F
    have kd : ∀ {ha hb : Heap} {o : Obj}, DK ha hb → ha.get? x = some o → o.dict = none → ∀ o', hb.get? x = some o' → o'.dict = none := fun dk e d o' e' => by
      obtain ⟨o2, e2, d2⟩ := dk x _ e
      rw [e'] at e2; cases e2
      exact d2.trans d
    refine wpAny_mono ((kpd_note _ _).any (wpAny_looks_onW (Q := fun _ s4 => ∃ h4, s4 = { s1 with heap := h4 } ∧ Heap.HeldW B (X.env :: X.outer) x cls (.ref t) X.env.locals h4 ∧ s1.heap.UpToSlots h4) (hok.frames.trans (congrArg some hstk)) hfr F0 fun h4 a b => ⟨h4, rfl, a, b⟩)) (fun _ s4 ⟨⟨h4, ee4, hh4, U4⟩, dk4⟩ => ?_) fun _ _ z => z
    subst ee4
    refine wpAny_mono ((kpd_flight _ _).any (wpAny_landsW (Q := fun _ s5 => ∃ h5, s5 = { s1 with heap := h5 } ∧ Heap.FlyingW B (X.env :: X.outer) x cls (.ref t) h5 ∧ h4.UpToSlots h5) hh4 fun h5 a b => ⟨h5, rfl, a, b⟩)) (fun _ s5 ⟨⟨h5, ee5, F5, U5⟩, dk5⟩ => ?_) fun _ _ z => z
    subst ee5
    obtain ⟨oe0, ws0, hoe0, _⟩ := F.first
    have dk05 : DK s1.heap h5 := dk4.trans dk5
    have dn5 := kd dk05 hoe0 (dn0 _ hoe0)
    have F5 : Heap.FlyingW B X.stack x cls (.ref t) h5 := hstk ▸ F5
    have U05 : s1.heap.UpToSlots h5 := U4.trans U5
    obtain ⟨J5, _, _⟩ := fly_in J0 os gb un hok1 F C0 F5 U05 dn5
    have J5m : Inv { X with A := X.A.mark (some (.ref x)), calm := false, pn := X.pn, xe := fun _ _ => False } pins σ1 H1 { s1 with heap := h5 } := J5.re rfl (fun z => nomatch z) fun p hp => hp
    obtain ⟨oe, ws, hoe, hcl, _⟩ := F5.first
    refine wpAny_handleBy_cons (codeAny_handlers_test (ld_glob J5m hg hm ?_ hd)) (by intro q; cases q)
    have LT : Looks (model X.prog X.w) h5 (typeOf (.ref x)) cls := hcl ▸ (Looks.ld hoe).andThen .now
    refine (exm_one (M := model X.prog X.w) J5.kIn LT m1).here ?_
    show codeAny _ _ _ _ _
    refine codeAny_handlers_suite_as ?_
    refine wpAny_mono ((kpd_flight _ _).any (lands_againW (Q := fun _ s6 => ∃ h6, s6 = { s1 with heap := h6 } ∧ Heap.FlyingW B X.stack x cls (.ref t) h6 ∧ h5.UpToSlots h6) F5 fun h6 a b => ⟨h6, rfl, a, b⟩)) (fun _ s6 ⟨⟨h6, ee6, F6, U6⟩, dk6⟩ => ?_) fun _ _ z => z
    subst ee6
    obtain ⟨J6, hx, J6x⟩ := fly_in J0 os gb un hok1 F C0 F6 (U05.trans U6) (kd (dk05.trans dk6) hoe0 (dn0 _ hoe0))
    have J6m : Inv { X with A := X.A.mark (some (.ref x)), calm := false, pn := X.pn, xe := fun _ _ => False } pins σ1 (upd H1 x (ExcO x cls)) { s1 with heap := h6 } := J6x.re rfl (fun z => nomatch z) fun p hp => hp
    refine store_ok (X := { X with A := X.A.mark (some (.ref x)), calm := false, pn := X.pn, xe := fun _ _ => False }) (x := n) (i := i) J6m hN hi (.inl hk) (v := .ref x) rfl (fun s7 J7 => ?_) (.inr hk)
    refine wpAny_mono (hs x s7 _ _ _ J7 (m2 x hx)) (fun f s8 q => ?_) fun _ _ z => z.elim
    have goes : ∀ {σ' H'} {Q : Unit → Shared → Prop}, Inv { X with A := X.A.mark (some (.ref x)), calm := false, pn := X.pn, xe := fun _ _ => False } pins σ' H' s8 → (∀ s9, Inv X pins (σ'.set i none) H' s9 → Q () s9) →
        wpAny (model X.prog X.w) X.A (do bindName X.env n .none; unbindBehindTheSuite X.env n hp) Q X.xe s8 := fun J h => name_gone (Inv.ex J hok fun p hp => hp) hN hi hk h
    show wpAny (model X.prog X.w) X.A (do bindName X.env n .none; unbindBehindTheSuite X.env n hp) _ _ _
    cases f with
    | next => obtain ⟨σ', H', J, q⟩ := q; exact goes J fun s9 J9 => ⟨_, H', J9, q⟩
    | brk => obtain ⟨σ', H', J, q⟩ := q; exact goes J fun s9 J9 => ⟨_, H', J9, q⟩
    | cont => obtain ⟨σ', H', J, q⟩ := q; exact goes J fun s9 J9 => ⟨_, H', J9, q⟩
    | ret u => obtain ⟨v, σ', H', J, r, q⟩ := q; exact goes J fun s9 J9 => ⟨v, _, H', J9, r, q⟩
end
end L2
set_option Elab.async false
set_option linter.all false
set_option maxRecDepth 100000
set_option maxHeartbeats 4000000
namespace L2
open PySem PySem.W PySem.Spec PyProof.Rows
/-- an own class of errors (pass), read off the kept heap -/
theorem own_cls {K : PySem.W.Frag} {h : Heap} {mg : Str → Option Value} {x : Str} {C : Addr} {bmB : List Value} {newId : String} (X : K.In h) (hm : mg x = some (.ref C)) (q : excIn K C bmB newId = true) : OwnCls x C bmB newId mg h := by
  refine ⟨hm, ?_⟩
  unfold excIn at q
  split at q
  · rename_i dd cd sl ho
    split at q
    · rename_i C' bm k0 k1 k2 k3 n k5 hmro hs
      simp only [Bool.and_eq_true, beq_iff_eq, Bool.not_eq_true'] at q
      obtain ⟨⟨⟨⟨⟨e1, e2⟩, hdel⟩, ht⟩, hok⟩, hni⟩ := q
      subst e1 e2
      obtain ⟨nm, bs, mro, ns, qn, hd, sn, sub, ab, col, del⟩ := cd
      dsimp only at hmro hdel hok hni
      subst hmro hdel
      have hsl : sl = #[k0, k1, k2, k3, some (.builtin n), k5] := by
        obtain ⟨l⟩ := sl
        simp only at hs
        rw [hs]
      subst hsl
      exact ⟨bm, ns, nm, qn, bs, hd, sn, sub, ab, col, dd, k0, k1, k2, k3, k5, _, X _ _ ho, .of_isNs (isNs_of_in X hok), nsMap_none_of_in X hok hni, tail_of_in X ht⟩
    · cases q
  · cases q
/-- raise C(e, ..), C an own class -/
def tRaise (E : XK) (cls : Value) (ta : TA) : TS := fun _ σ H => ta σ H fun vs H1 => vs.length ≤ sizeLine ∧ E cls none H1
section
variable {X : Cx}
theorem ps_raise {x : Str} {C : Addr} {e0 : Expr} {rest : List Expr} {ta : TA} {np cpos pos : Pos} {B newId initId : String} {bm : List Value} {E : XK} (FB : ExcBaseFacts B newId initId bm) (hc : X.calm = true) (hg : Gl X x) (hm : X.mg x = some (.ref C))
    (q : excIn X.K C bm newId = true) (ha : PA X (e0 :: rest) ta)
    (hx : ∀ (pins : List (Addr × Obj)) (σ : St) (H : Hp) (s : Shared) (h' : Heap) (e : Addr) (vs : List Value), Inv X pins σ H s → Heap.MadeExcOf s.heap h' e (.ref C) vs → E (.ref C) none H → X.xe (.ref e) { s with heap := h' })
    (hd : (x == ("__debug__" : Str)) = false := by decide) (he : starEach (e0 :: rest) X.env = (false, eval e0 X.env) :: starEach rest X.env := by rfl) (hplain : (backTo cpos (starEach rest X.env)).any (·.1) = false := by rfl) :
    PS X (.Raise (some (.Call (.Name x np) (e0 :: rest) [] cpos)) none pos) (tRaise E (.ref C) ta) := by
  intro pins s σ H D I h
  obtain ⟨tl, Nn, nm, qn, bs, hdct, sn, sub, ab, col, dd, k0, k1, k2, k3, k5, mN, hC, hN, hni, T⟩ := (own_cls (mg := X.mg) I.mod.kin hm q).obj
  refine wpAny_Raise_call_subT (C := C) (nm := nm) (q := qn) (N := Nn) (bs := bs) (bm := tl) (hdct := hdct) (sn := sn) (sub := sub) (ab := ab) (col := col) (dd := dd) (k0 := k0) (k1 := k1) (k2 := k2) (k3 := k3) (k5 := k5)
    FB (mN := mN) (T.hasType FB.hasBase) (I.ok.hd hc) (by rw [he]; show (false || (backTo cpos (starEach rest X.env)).any (·.1)) = false; rw [hplain]; rfl) hni (ld_glob I hg hm ⟨rfl, ?_⟩ hd)
  have h1 := ha cpos s σ H _ I h
  rw [he] at h1 ⊢
  exact Calls.evalArgs_plain (wpAny_mono h1 (fun vs s2 ⟨xs, H1, I1, r, z, q⟩ => ⟨rfl, by rw [← r.length]; exact z, I1.bk _ _ hC, hN.keeps I1.bk, T.keeps I1.bk, fun h' e hm => hx pins σ H1 s2 h' e vs I1 hm q⟩) fun _ _ y => y)
/-- a call whose exception reaches what this body wants -/
def tCallX (sp : Sp) (dvs : List V) (E : St → XK) (t : TA) : TE := fun σ H Q => t σ H fun vs H1 => sp (vs ++ dvs) H1 Q (E σ)
variable {CX : CXT} {k : Nat} {f : Addr} {fd : FuncData} {ps : List Str} {sp sp' : Sp} {dvs : List V} {ds : List Value} {E : St → XK} {x : Str} {p pos : Pos} {e : Expr} {es : List Expr} {t : TA}
theorem pe_callX (F : FnOk X.prog X.w X.K X.mg X.base CX k f fd ps sp) (hr : Room k X.A) (hg : Gl X x) (hm : X.mg x = some (.ref f)) (hk : PySem.W.keepIn X.K (.ref f) = true) (hb : Binds X.K fd ps ds) (hd : Vals dvs ds) (hx : Reaches CX X E)
    (ha : PA X (e :: es) t) (hdb : (x == ("__debug__" : Str)) = false := by decide) (he : starEach (e :: es) X.env = (false, eval e X.env) :: starEach es X.env := by rfl) (hpl : (backTo pos (starEach es X.env)).any (·.1) = false := by rfl) :
    PE X (.Call (.Name x p) (e :: es) [] pos) (tCallX sp dvs E t) := by
  intro pins s σ H Q I h
  refine wpAny_Call_Name_kw (ld_glob I hg hm ?_ hdb)
  refine PySem.W.callWith_K (h₀ := X.base) I.ok.mod.kin hk (thn (ha pos s σ H _ I h) fun us s1 ⟨vs, H1, I1, r, q⟩ => ⟨I1.kIn, ?_⟩) he hpl
  have r2 : Vals (vs ++ dvs) (us ++ ds) := r.append hd
  have hl : (us ++ ds).length = ps.length := by rw [← r2.length]; exact F.len _ _ _ _ q
  refine wpAny_call (codeAny_mono (F.run X.A X.stack s1 H1 ⟨us, []⟩ (us ++ ds) (vs ++ dvs) Q (E σ) hr I1.env0 (hb s1 us I1.kIn hl) r2 q) fun r s' hq => ?_)
  cases r with
  | error e => exact hx pins σ H1 s1 e s' I1 hq
  | ok fl =>
    cases fl with
    | ret u => exact I1.after hq
    | next => exact False.elim hq
    | brk => exact False.elim hq
    | cont => exact False.elim hq
end
section
variable {P : Program} {w : World} {K : PySem.W.Frag} {mg : Str → Option Value} {base : Heap}
/-- a def that may raise: its body as a term of rules, what it wants of exceptions is E -/
theorem Fun.okE {x qual : Str} {st : Stmt} {f : Addr} {fd : FuncData} {N ps : List Str} {k : Nat} {sp : Sp} (F : Fun K x qual st f fd) (S : FnScope N ps (defScope st)) (len : ∀ vs H Q E, sp vs H Q E → vs.length = ps.length)
    (hbody : ∀ (cdv : Value) (A : Around) (outer : List Env) (s : Shared) (H : Hp) (vs : List V) (Q : VK) (E : XK), Room k (A.deeper (envOfC qual (defScope st) s.heap.objs.size f cdv)) → sp vs H Q E →
      ∃ t, PSs (cxOf (CXE P w) P w K mg base N qual (defScope st) f cdv A outer s H E) (defBody st) t ∧ t { nx := fun _ H' => Q .non H', rt := Q } (start N vs) H) : FnOk P w K mg base (CXE P w) (k + 1) f fd ps sp := by
  obtain ⟨oc, od, kV, doc, pm, an, cdv, ct, osl, rfl, lk, hcd⟩ := F.ex
  exact fn_of lk hcd S len fun A outer s H vs Q E hr hsp => hbody cdv A outer s H vs Q E hr hsp
variable {k : Nat} {f : Addr} {fd : FuncData} {ps : List Str} {sp sp' : Sp}
/-- a def that raises nothing, where an exception might be -/
theorem FnOk.lift {CX : CXT} (F : FnOk P w K mg base CX0 k f fd ps sp) : FnOk P w K mg base CX k f fd ps sp :=
  ⟨F.len, fun A outer s H args us vs Q E hr he hb hv hs => codeAny_mono (F.run A outer s H args us vs Q E hr he hb hv hs) fun r s' q => by
    cases r with
    | error e => exact False.elim q
    | ok fl =>
      cases fl with
      | ret u => exact q
      | next => exact False.elim q
      | brk => exact False.elim q
      | cont => exact False.elim q⟩
/-- two promises of one def -/
theorem FnOk.or {CX : CXT} (F : FnOk P w K mg base CX k f fd ps sp) (G : FnOk P w K mg base CX k f fd ps sp') : FnOk P w K mg base CX k f fd ps (fun vs H Q E => sp vs H Q E ∨ sp' vs H Q E) :=
  ⟨fun vs H Q E q => q.elim (F.len vs H Q E) (G.len vs H Q E), fun A outer s H args us vs Q E hr he hb hv hs => hs.elim (F.run A outer s H args us vs Q E hr he hb hv) (G.run A outer s H args us vs Q E hr he hb hv)⟩
end
end L2
set_option Elab.async false
set_option linter.all false
set_option maxRecDepth 100000
set_option maxHeartbeats 4000000
namespace L2
open PySem PySem.W PySem.Spec PyProof.Rows
/-- what is asked of an own class of errors, read off the kept heap -/
structure ExcC (K : PySem.W.Frag) (D : Addr) : Prop where
  g : findIn K (.ref D) "__getattribute__" = some (some (.builtin "BaseException.__getattribute__"))
  h : findIn K (.ref D) "__getattr__" = some none
  c : hasDictIn K D = true
  a : findIn K (.ref D) "__class__" = some (some (.builtin "object.__class__"))
  m : mroIn K D (.type "object") = some true
  b : mroIn K D (.type "BaseException") = some true
section
variable {prog : Program} {w : World} {A : Around} {E : Value → Shared → Prop} {h : Heap} {g : Array GenState} {d : Drawn} {t : Nat} {os : OsState} {x D : Addr} {o : Obj} {K : PySem.W.Frag}
theorem exc_check {M : Model} {nameV : Value} {Q : Unit → Shared → Prop} (X : K.In h) (I : InstAt h x o D none) (C : ExcC K D) (hq : Q () ⟨h, g, d, t, os⟩) :
    wpAny M A (checkBuiltinCall "BaseException.__getattribute__" ⟨[.ref x, nameV], []⟩) Q E ⟨h, g, d, t, os⟩ := by
  have hk : builtinKind "BaseException.__getattribute__" = some .slot := by decide +kernel
  have hsplit : splitId "BaseException.__getattribute__" = some ("BaseException", "__getattribute__") := by decide +kernel
  have L0 := I.type (M := M)
  have L1 := looks_mroIn (M := M) X C.b
  have LI : Looks M h (isInstance (.ref x) (.type "BaseException")) true := L0.andThen L1
  have ha := PySem.F.args_bexc_ga (.ref x) nameV
  simp only [checkBuiltinCall, hk, hsplit]
  refine wpAny_bind ?_
  refine LI.at ?_
  repeat (any_goals (first | assumption | wp_step))
theorem exc_entry {tk : Tok} {Q : Fin → Shared → Prop} (X : K.In h) (I : InstAt h x o D none) (C : ExcC K D) (hq : Q (.done (.ret (.ref D))) ⟨h, g, d, t, os⟩) :
    wpAny (model prog w) A (Builtin.«object.__getattribute__» ⟨[.ref x, .str "__class__" tk], []⟩) Q E ⟨h, g, d, t, os⟩ := by
  have hT5 : (⟨h, g, d, t, os⟩ : Shared).TypeIs (.builtin "object.__class__") "getset_descriptor" := PySem.F.typeOf_object_class
  have f5 := PySem.F.typeOf_object_class
  have f6 := PySem.F.slot_gs_get.lookup
  have f7 := PySem.F.slot_gs_set.lookup
  have L0 := I.type (M := model prog w)
  have L1 := looks_findIn (M := model prog w) X C.a
  repeat (any_goals (first | assumption | with_reducible refine L0.at ?_ | with_reducible refine L1.at ?_ | wp_step))
  refine class_get (s := ⟨h, g, d, t, os⟩) (ox := o) (od := none) X I C.m ?_
  repeat (any_goals (first | assumption | wp_step))
theorem exc_by {tk : Tok} {Q : Value → Shared → Prop} (X : K.In h) (I : InstAt h x o D none) (C : ExcC K D) (hq : Q (.ref D) ⟨h, g, d, t, os⟩) :
    wpAny (model prog w) A (getAttrBy (.ref x) (.str "__class__" tk) false) Q E ⟨h, g, d, t, os⟩ := by
  have f3 := PySem.F.excAttr_ValueError.ga.bind (.ref x)
  have hx2 : (Value.builtin "BaseException.__getattribute__" == Value.builtin "object.__getattribute__") = false := by decide +kernel
  have hx1 : (onTheHeap (Value.ref D) && Value.builtin "BaseException.__getattribute__" == Value.builtin "object.__getattribute__") = false := by rw [hx2]; rfl
  have L0 := I.type (M := model prog w)
  have L1 := looks_findIn (M := model prog w) X C.g
  have L2 := looks_findIn (M := model prog w) X C.h
  repeat (any_goals (first | assumption | with_reducible refine L0.at ?_ | with_reducible refine L1.at ?_ | with_reducible refine L2.at ?_ | wp_step))
  refine codeAny_call_builtin PySem.F.excAttr_ValueError.ga.plain PySem.F.entry_bexc_ga (exc_check X I C (exc_entry X I C ?_))
  repeat (any_goals (first | assumption | wp_step))
theorem exc_class {Q : Option Value → Shared → Prop} (X : K.In h) (I : InstAt h x o D none) (C : ExcC K D) (hq : Q (some (.ref D)) ⟨h, g, d, t + 1, os⟩) :
    wpAny (model prog w) A (getAttr? (.ref x) "__class__") Q E ⟨h, g, d, t, os⟩ := by
  unfold getAttr? getAttrBy?
  repeat (any_goals (first | assumption | with_reducible apply exc_by X I C | wp_step))
end
end L2
set_option Elab.async false
set_option linter.all false
set_option maxRecDepth 100000
set_option maxHeartbeats 4000000
namespace L2
open PySem PySem.W PySem.Spec PyProof.Rows
def ExcAt (x D : Addr) (h : Heap) : Prop := ∃ o, h.get? x = some o ∧ o.cls = .ref D ∧ o.dict = none ∧ ∃ vs, o.data = .fields vs
theorem ExcAt.inst {x D : Addr} {h : Heap} (e : ExcAt x D h) : ∃ ox, InstAt h x ox D none := by
  obtain ⟨o, h1, h2, h3, vs, h4⟩ := e
  refine ⟨o, h1, h2, ?_, ?_⟩
  · unfold notCls
    rw [h4]
  · rw [h3]
    trivial
theorem kitx_exc {K : PySem.W.Frag} {x D : Addr} (C : ExcC K D) : KitX K (.ref x) (.ref D) (ExcAt x D) where
  ty := fun _ _ _ e => by
    obtain ⟨ox, I⟩ := e.inst
    exact I.type
  it := fun _ _ X _ => by
    obtain ⟨cdD, hcD, _⟩ := any_some C.c
    unfold clsIn at hcD
    split at hcD
    · rename_i c' d' cd' sl' ho
      intro A' Q' E' s' k q
      unfold isType loadHead
      exact wpAny_bind (wpAny_loadPart (k _ _ (X _ _ ho)) (wpAny_pure q))
    · cases hcD
  ne := fun h tp dd its n sl X htp => by
    obtain ⟨cdD, hcD, _⟩ := any_some C.c
    refine Bool.eq_false_iff.mpr fun q => ?_
    have e : D = tp := Value.ref.inj (beq_iff_eq.mp q)
    subst e
    unfold clsIn at hcD
    split at hcD
    · rename_i c' d' cd' sl' ho
      have z := (X _ _ ho).symm.trans htp
      cases z
    · cases hcD
  ca := fun {prog w A E Q s} X e k => by
    obtain ⟨ox, I⟩ := e.inst
    obtain ⟨h, g, d, t, os⟩ := s
    exact exc_class X I C k
section
variable {X : Cx}
end
end L2
set_option Elab.async false
set_option linter.all false
set_option maxRecDepth 100000
set_option maxHeartbeats 4000000
namespace My
open PySem L2 TL
/-- the k last figures of n, the last first -/
def le (B : Nat) : Nat → Nat → List Nat
  | 0, _ => []
  | k + 1, n => (n % B) :: le B k (n / B)
theorem le_len (B : Nat) : ∀ k n, (le B k n).length = k
  | 0, _ => rfl
  | k + 1, n => by show (le B k (n / B)).length + 1 = _; rw [le_len B k]
theorem le_lt {B : Nat} (h : 0 < B) : ∀ k n, ∀ x ∈ le B k n, x < B
  | 0, _, x, hx => nomatch hx
  | k + 1, n, x, hx => by
    rcases List.mem_cons.mp hx with e | e
    · rw [e]; exact Nat.mod_lt _ h
    · exact le_lt h k _ x e
theorem le_snoc (B : Nat) : ∀ k n, le B (k + 1) n = le B k n ++ [n / B ^ k % B]
  | 0, n => by show [n % B] = [n / B ^ 0 % B]; rw [Nat.pow_zero, Nat.div_one]
  | k + 1, n => by
    show (n % B) :: le B (k + 1) (n / B) = (n % B) :: (le B k (n / B) ++ _)
    rw [le_snoc B k (n / B), Nat.div_div_eq_div_mul, Nat.pow_succ, Nat.mul_comm (B ^ k)]
/-- the number of words, the first the greatest figure -/
def vl (B : Nat) : List Nat → Nat
  | [] => 0
  | w :: ws => w * B ^ ws.length + vl B ws
theorem vl_snoc (B : Nat) : ∀ ws w, vl B (ws ++ [w]) = vl B ws * B + w
  | [], w => by simp [vl]
  | x :: ws, w => by
    show x * B ^ (ws ++ [w]).length + vl B (ws ++ [w]) = (x * B ^ ws.length + vl B ws) * B + w
    rw [vl_snoc B ws w, List.length_append, List.length_singleton, Nat.pow_succ, Nat.add_mul, Nat.mul_assoc]
    omega
theorem vl_lt {B : Nat} : ∀ ws : List Nat, (∀ x ∈ ws, x < B) → vl B ws < B ^ ws.length
  | [], _ => by simp [vl]
  | w :: ws, h => by
    have h1 := h w List.mem_cons_self
    have h2 := vl_lt ws fun x hx => h x (List.mem_cons_of_mem _ hx)
    show w * B ^ ws.length + vl B ws < B ^ (ws.length + 1)
    have h3 : (w + 1) * B ^ ws.length ≤ B * B ^ ws.length := Nat.mul_le_mul_right _ h1
    rw [Nat.add_mul, Nat.one_mul] at h3
    rw [Nat.pow_succ, Nat.mul_comm (B ^ ws.length)]
    omega
theorem vl_le {B : Nat} : ∀ {ws us : List Nat}, ws.length = us.length → (∀ i : Nat, ws.getD i 0 ≤ us.getD i 0) → vl B ws ≤ vl B us
  | [], [], _, _ => Nat.le_refl _
  | [], _ :: _, h, _ => by cases h
  | _ :: _, [], h, _ => by cases h
  | w :: ws, u :: us, h, g => by
    have h : ws.length = us.length := Nat.succ.inj h
    have h1 : w ≤ u := g 0
    have h2 := vl_le (B := B) h fun i => by have := g (i + 1); simpa using this
    show w * B ^ ws.length + vl B ws ≤ u * B ^ us.length + vl B us
    rw [h]
    exact Nat.add_le_add (Nat.mul_le_mul_right _ h1) h2
theorem le_vl {B : Nat} (hB : 0 < B) : ∀ (k : Nat) (n : Nat), n < B ^ k → vl B (le B k n).reverse = n
  | 0, n, h => by
    have : n = 0 := by simpa using h
    rw [this]; rfl
  | k + 1, n, h => by
    show vl B ((n % B) :: le B k (n / B)).reverse = n
    rw [List.reverse_cons, vl_snoc, le_vl hB k (n / B) (by rw [Nat.pow_succ] at h; exact Nat.div_lt_of_lt_mul (by rw [Nat.mul_comm]; exact h)), Nat.mul_comm]
    exact Nat.div_add_mod n B
theorem vl_le_inv {B : Nat} (hB : 0 < B) : ∀ (rs : List Nat), (∀ x ∈ rs, x < B) → le B rs.length (vl B rs.reverse) = rs
  | [], _ => rfl
  | w :: ws, h => by
    have h1 := h w List.mem_cons_self
    have ih := vl_le_inv hB ws fun x hx => h x (List.mem_cons_of_mem _ hx)
    rw [List.reverse_cons, vl_snoc]
    show (vl B ws.reverse * B + w) % B :: le B ws.length ((vl B ws.reverse * B + w) / B) = _
    have e1 : (vl B ws.reverse * B + w) % B = w := by rw [Nat.mul_comm, Nat.mul_add_mod, Nat.mod_eq_of_lt h1]
    have e2 : (vl B ws.reverse * B + w) / B = vl B ws.reverse := by rw [Nat.mul_comm, Nat.mul_add_div hB, Nat.div_eq_of_lt h1, Nat.add_zero]
    rw [e1, e2, ih]
abbrev tN (o : OwnD) : Nat := 2 ^ o.bits.toNat
abbrev allN (o : OwnD) : Nat := o.names.length + o.cells.toNat
def wsOf (o : OwnD) (n : Nat) : List Int := (le (tN o) (allN o) n).reverse.map fun (x : Nat) => (x : Int)
def stOf (o : OwnD) (n : Nat) : Wd := ⟨(wsOf o n).take o.names.length, List.replicate o.hidden.toNat 0, (wsOf o n).drop o.names.length⟩
theorem allN_eq (o : OwnD) : allN o = o.names.length + o.cells.toNat := rfl
theorem top2_eq (o : OwnD) : top2 o = 2 ^ o.bits.toNat := rfl
theorem wsOf_len (o : OwnD) (n : Nat) : (wsOf o n).length = allN o := by unfold wsOf; rw [List.length_map, List.length_reverse, le_len]
theorem tN_pos (o : OwnD) : 0 < tN o := Nat.pow_pos (by decide)
theorem tN_top (o : OwnD) : ((tN o : Nat) : Int) = top2 o := by rw [Int.natCast_pow]; rfl
theorem stOf_ok {o : OwnD} (hO : OwnOk o) (n : Nat) : WdOk o (stOf o n) := by
  have h1 := hO.hidden
  have h2 := hO.cells
  have lt := tN_top o
  have hp := tN_pos o
  have eA := allN_eq o
  refine ⟨?_, ?_, ?_, fun x hx => ?_⟩
  · show ((wsOf o n).take o.names.length).length = _
    rw [List.length_take, wsOf_len]
    omega
  · show (List.replicate o.hidden.toNat (0 : Int)).length = _
    rw [List.length_replicate]
  · show ((wsOf o n).drop o.names.length).length = _
    rw [List.length_drop, wsOf_len]
    omega
  · have ws : ∀ x ∈ wsOf o n, 0 ≤ x ∧ x < top2 o := fun x hx => by
      obtain ⟨y, hy, e⟩ := List.mem_map.mp hx
      have := le_lt hp _ _ y (List.mem_reverse.mp hy)
      omega
    rcases List.mem_append.mp hx with hx | hx
    · rcases List.mem_append.mp hx with hx | hx
      · exact ws x (List.mem_of_mem_take hx)
      · rw [(List.mem_replicate.mp hx).2]
        omega
    · exact ws x (List.mem_of_mem_drop hx)
theorem stOf_flat (o : OwnD) (n : Nat) : (stOf o n).vis ++ (stOf o n).mem = wsOf o n := List.take_append_drop _ _
/-- what is done is otherwise at the state of this number -/
def difAt (o : OwnD) (pl : Pln) (n : Nat) : Prop := ¬ meanD o (stOf o n) pl = .tuple [intsD (stOf o n).vis, intsD (stOf o n).mem]
def termAt (o : OwnD) (at_ : Nat) : Trm := if at_ < o.names.length then .reg (o.names.getD at_ (Str.ofString "")) else .load (.num ((at_ : Int) - o.names.length))
def planOf (o : OwnD) (to : Nat) (word : Int) : List (Nat × Int) → Pln
  | [] => .dos [(o.names.getD to (Str.ofString ""), .num word)] none
  | c :: cs => .ite (.op (Str.ofString "same") (termAt o c.1) (.num c.2)) (planOf o to word cs) (.dos [] none)
theorem getD_mem {ns : List Str} {i : Nat} (h : i < ns.length) : ns.getD i (Str.ofString "") ∈ ns := by
  rw [List.getD_eq_getElem?_getD, List.getElem?_eq_getElem h]
  exact List.getElem_mem h
theorem idx_getD {ns : List Str} (nd : ns.Nodup) {i : Nat} (h : i < ns.length) : ns.idxOf (ns.getD i (Str.ofString "")) = i := by
  rw [List.getD_eq_getElem?_getD, List.getElem?_eq_getElem h]
  exact nd.idxOf_getElem i h
theorem termAt_ok {o : OwnD} (hO : OwnOk o) {i : Nat} (h : i < allN o) : TrmOk o (termAt o i) ∧ deep (termAt o i) ≤ 2 := by
  unfold termAt
  have h2 := hO.cells
  have eA := allN_eq o
  have eT := top2_eq o
  by_cases c : i < o.names.length
  · rw [if_pos c]
    exact ⟨getD_mem c, by show 1 ≤ 2; decide⟩
  · rw [if_neg c]
    exact ⟨⟨by omega, by omega⟩, by show 2 ≤ 2; decide⟩
theorem worth_at {o : OwnD} (hO : OwnOk o) {s : Wd} (hs : WdOk o s) {i : Nat} (h : i < allN o) : worth o s (termAt o i) = some ((s.vis ++ s.mem).getD i 0) := by
  unfold termAt
  have h2 := hO.cells
  have eA := allN_eq o
  have eT := top2_eq o
  obtain ⟨m, nm, _, _⟩ := hO.names
  by_cases c : i < o.names.length
  · rw [if_pos c]
    show some (s.vis.getD (o.names.idxOf _) 0) = _
    rw [idx_getD nm.nd c, List.getD_eq_getElem?_getD, List.getD_eq_getElem?_getD, List.getElem?_append_left (by rw [hs.vis]; exact c)]
  · rw [if_neg c]
    have e : worth o s (.load (.num ((i : Int) - o.names.length))) = if ((i : Int) - o.names.length) < o.cells then some (s.mem.getD ((i : Int) - o.names.length).toNat 0) else none := rfl
    rw [e, if_pos (by omega), List.getD_eq_getElem?_getD, List.getD_eq_getElem?_getD, List.getElem?_append_right (by rw [hs.vis]; omega), hs.vis]
    have : ((i : Int) - o.names.length).toNat = i - o.names.length := by omega
    rw [this]
theorem planOf_ok {o : OwnD} (hO : OwnOk o) {to : Nat} {word : Int} (h1 : to < o.names.length) (h2 : 0 ≤ word ∧ word < top2 o) : ∀ {cs : List (Nat × Int)}, (∀ c ∈ cs, c.1 < allN o ∧ 0 ≤ c.2 ∧ c.2 < top2 o) → PlnOk o (planOf o to word cs)
  | [], _ => ⟨fun p hp => by rw [List.mem_singleton.mp hp]; exact ⟨getD_mem h1, h2, (by show 1 ≤ 6; decide)⟩, (by show 1 ≤ 6; decide), fun c t e => nomatch e⟩
  | c :: cs, h => by
    obtain ⟨a, b⟩ := h c List.mem_cons_self
    obtain ⟨t1, t2⟩ := termAt_ok hO a
    refine ⟨⟨by decide, t1, b⟩, ?_, planOf_ok hO h1 h2 fun c hc => h c (List.mem_cons_of_mem _ hc), ⟨fun p hp => (nomatch hp), Nat.zero_le _, fun c t e => nomatch e⟩⟩
    show max (deep (termAt o c.1)) 1 + 1 ≤ 6
    omega
theorem opW_same {o : OwnD} {a b : Int} : opW o (Str.ofString "same") a b = if a = b then 1 else 0 := by
  unfold opW
  rw [if_neg (by decide), if_neg (by decide), if_neg (by decide), if_neg (by decide), if_neg (by decide), if_neg (by decide)]
  by_cases h : a = b
  · rw [decide_eq_true h, if_pos rfl, if_pos h]
  · rw [decide_eq_false h, if_neg Bool.false_ne_true, if_neg h]
theorem meanD_plan {o : OwnD} (hO : OwnOk o) {s : Wd} (hs : WdOk o s) {to : Nat} {word : Int} (h1 : to < o.names.length) : ∀ {cs : List (Nat × Int)}, (∀ c ∈ cs, c.1 < allN o) →
    meanD o s (planOf o to word cs) = if ∀ c ∈ cs, (s.vis ++ s.mem).getD c.1 0 = c.2 then .tuple [intsD (s.vis.set to word), intsD s.mem] else .tuple [intsD s.vis, intsD s.mem]
  | [], _ => by
    obtain ⟨m, nm, _, _⟩ := hO.names
    rw [if_pos fun c hc => nomatch hc]
    show PyData.tuple [intsD (s.vis.set (o.names.idxOf _) word), intsD s.mem] = _
    rw [idx_getD nm.nd h1]
  | c :: cs, h => by
    have ih := meanD_plan hO hs (word := word) h1 (cs := cs) fun c hc => h c (List.mem_cons_of_mem _ hc)
    have ew : worth o s (.op (Str.ofString "same") (termAt o c.1) (.num c.2)) = some (if (s.vis ++ s.mem).getD c.1 0 = c.2 then 1 else 0) := by
      show (match worth o s (termAt o c.1), worth o s (.num c.2) with | some x, some y => some (opW o (Str.ofString "same") x y) | _, _ => none) = _
      rw [worth_at hO hs (h c List.mem_cons_self)]
      show some (opW o (Str.ofString "same") _ _) = _
      rw [opW_same]
    have em : meanD o s (planOf o to word (c :: cs)) = match worth o s (.op (Str.ofString "same") (termAt o c.1) (.num c.2)) with
      | some w => if w = 0 then meanD o s (.dos [] none) else meanD o s (planOf o to word cs)
      | none => .tuple [.str "trap"] := rfl
    rw [em, ew]
    show (if (if (s.vis ++ s.mem).getD c.1 0 = c.2 then (1 : Int) else 0) = 0 then meanD o s (.dos [] none) else meanD o s (planOf o to word cs)) = _
    by_cases hc : (s.vis ++ s.mem).getD c.1 0 = c.2
    · rw [if_pos hc, if_neg (by decide), ih]
      by_cases ha : ∀ d ∈ cs, (s.vis ++ s.mem).getD d.1 0 = d.2
      · rw [if_pos ha, if_pos (fun d hd => (List.mem_cons.mp hd).elim (fun z => by rw [z]; exact hc) fun z => ha d z)]
      · rw [if_neg ha, if_neg fun z => ha fun d hd => z d (List.mem_cons_of_mem _ hd)]
    · rw [if_neg hc, if_pos rfl, if_neg fun z => hc (z c List.mem_cons_self)]
      rfl
theorem intsD_inj {a b : List Int} (h : intsD a = intsD b) : a = b := by
  unfold intsD at h
  have h : a.map PyData.int = b.map PyData.int := by injection h
  exact List.map_inj_right (fun _ _ e => by injection e) |>.mp h
theorem dif_iff {o : OwnD} (hO : OwnOk o) {to : Nat} {word : Int} (h1 : to < o.names.length) {cs : List (Nat × Int)} (hc : ∀ c ∈ cs, c.1 < allN o) (n : Nat) :
    difAt o (planOf o to word cs) n ↔ (∀ c ∈ cs, (wsOf o n).getD c.1 0 = c.2) ∧ ¬ (wsOf o n).getD to 0 = word := by
  have hs := stOf_ok hO n
  unfold difAt
  rw [meanD_plan hO hs h1 hc, stOf_flat]
  have hv : (wsOf o n).getD to 0 = (stOf o n).vis.getD to 0 := by
    rw [← stOf_flat o n, List.getD_eq_getElem?_getD, List.getD_eq_getElem?_getD, List.getElem?_append_left (by rw [hs.vis]; exact h1)]
  by_cases ha : ∀ c ∈ cs, (wsOf o n).getD c.1 0 = c.2
  · rw [if_pos ha, hv]
    have hl : to < (stOf o n).vis.length := by rw [hs.vis]; exact h1
    constructor
    · intro h
      refine ⟨ha, fun e => h ?_⟩
      have : (stOf o n).vis.set to word = (stOf o n).vis := by
        rw [← e, List.getD_eq_getElem?_getD, List.getElem?_eq_getElem hl]
        exact List.set_getElem_self hl
      rw [this]
    · rintro ⟨_, h⟩ e
      injection e with e
      injection e with e
      have := intsD_inj e
      apply h
      rw [← this, List.getD_eq_getElem?_getD, List.getElem?_set_self hl]
      rfl
  · rw [if_neg ha]
    exact ⟨fun h => absurd rfl h, fun h => absurd h.1 ha⟩
/-- the words due: those of the places, 0 at all others, 1 at the register set where 0 is what it is set to -/
structure DueW (o : OwnD) (to : Nat) (word : Int) (cs : List (Nat × Int)) (W : List Int) : Prop where
  len : W.length = allN o
  rng : ∀ x ∈ W, 0 ≤ x ∧ x < top2 o
  at_ : ∀ c ∈ cs, W.getD c.1 0 = c.2
  ot : ∀ i, (∀ c ∈ cs, c.1 ≠ i) → W.getD i 0 = if i = to then (if word = 0 then 1 else 0) else 0
theorem getD_map_nat (l : List Nat) (i : Nat) : (l.map fun (x : Nat) => (x : Int)).getD i 0 = ((l.getD i 0 : Nat) : Int) := by
  rw [List.getD_eq_getElem?_getD, List.getD_eq_getElem?_getD, List.getElem?_map]
  cases l[i]? <;> rfl
theorem wsOf_nat {o : OwnD} {W : List Int} (h : W.length = allN o) (r : ∀ x ∈ W, 0 ≤ x ∧ x < top2 o) : ∃ n, n < tN o ^ allN o ∧ wsOf o n = W := by
  have lt := tN_top o
  have nat : ∃ l : List Nat, (∀ x ∈ l, x < tN o) ∧ l.map (fun (x : Nat) => (x : Int)) = W := by
    clear h
    induction W with
    | nil => exact ⟨[], fun x hx => (nomatch hx), rfl⟩
    | cons w W ih =>
      obtain ⟨l, h1, h2⟩ := ih fun x hx => r x (List.mem_cons_of_mem _ hx)
      have hw := r w List.mem_cons_self
      refine ⟨w.toNat :: l, fun x hx => ?_, by rw [List.map_cons, h2, show ((w.toNat : Nat) : Int) = w by omega]⟩
      rcases List.mem_cons.mp hx with z | z
      · rw [z]; omega
      · exact h1 x z
  obtain ⟨l, h1, h2⟩ := nat
  have hl : l.length = allN o := by rw [← h, ← h2, List.length_map]
  refine ⟨vl (tN o) l, by rw [← hl]; exact vl_lt l h1, ?_⟩
  unfold wsOf
  have := vl_le_inv (tN_pos o) l.reverse (fun x hx => h1 x (List.mem_reverse.mp hx))
  rw [List.reverse_reverse, List.length_reverse, hl] at this
  rw [this, List.reverse_reverse, h2]
theorem due_none {o : OwnD} (hO : OwnOk o) {to : Nat} {word : Int} (h1 : to < o.names.length) {cs : List (Nat × Int)} (hc : ∀ c ∈ cs, c.1 < allN o) {W : List Int} (D : DueW o to word cs W) (e : W.getD to 0 = word) (n : Nat) : ¬ difAt o (planOf o to word cs) n := by
  rw [dif_iff hO h1 hc]
  rintro ⟨ha, hn⟩
  by_cases hp : ∃ c ∈ cs, c.1 = to
  · obtain ⟨c, hc, rfl⟩ := hp
    exact hn ((ha c hc).trans ((D.at_ c hc).symm.trans e))
  · have := D.ot to fun c hc z => hp ⟨c, hc, z⟩
    rw [if_pos rfl, e] at this
    by_cases z : word = 0
    · rw [if_pos z] at this; omega
    · rw [if_neg z] at this; exact z this
theorem due_some {o : OwnD} (hO : OwnOk o) {to : Nat} {word : Int} (h1 : to < o.names.length) {cs : List (Nat × Int)} (hc : ∀ c ∈ cs, c.1 < allN o) {W : List Int} (D : DueW o to word cs W) (e : ¬ W.getD to 0 = word) : ∃ n, n < tN o ^ allN o ∧ wsOf o n = W ∧ difAt o (planOf o to word cs) n ∧ ∀ m, m < tN o ^ allN o → difAt o (planOf o to word cs) m → n ≤ m := by
  obtain ⟨n, hn, eW⟩ := wsOf_nat D.len D.rng
  refine ⟨n, hn, eW, (dif_iff hO h1 hc n).mpr ⟨by rw [eW]; exact D.at_, by rw [eW]; exact e⟩, fun m hm hd => ?_⟩
  obtain ⟨ha, hb⟩ := (dif_iff hO h1 hc m).mp hd
  have ev : ∀ k, k < tN o ^ allN o → vl (tN o) (le (tN o) (allN o) k).reverse = k := fun k hk => le_vl (tN_pos o) _ k hk
  rw [← ev n hn, ← ev m hm]
  refine vl_le (by rw [List.length_reverse, List.length_reverse, le_len, le_len]) fun i => ?_
  have g : ∀ k, (((le (tN o) (allN o) k).reverse.getD i 0 : Nat) : Int) = (wsOf o k).getD i 0 := fun k => by unfold wsOf; rw [getD_map_nat]
  have gm := g m
  have gn := g n
  rw [eW] at gn
  by_cases hp : ∃ c ∈ cs, c.1 = i
  · obtain ⟨c, hcc, rfl⟩ := hp
    rw [D.at_ c hcc] at gn
    rw [ha c hcc] at gm
    omega
  · have hi := D.ot i fun c hcc z => hp ⟨c, hcc, z⟩
    rw [hi] at gn
    by_cases ht : i = to
    · subst ht
      rw [if_pos rfl] at gn
      by_cases z : word = 0
      · rw [if_pos z] at gn
        rw [z] at hb
        omega
      · rw [if_neg z] at gn
        omega
    · rw [if_neg ht] at gn
      omega
end My
set_option Elab.async false
set_option linter.all false
set_option maxRecDepth 100000
set_option maxHeartbeats 4000000
namespace My
open PySem L2 TL
abbrev sRD : Stmt := top 12
abbrev sStray : Stmt := top 14
abbrev sRun : Stmt := top 17
abbrev sDiffers : Stmt := top 21
abbrev sStateOf : Stmt := top 22
abbrev sVisB : Stmt := top 23
def noneD : PyData := .tuple [.tuple [.tuple [], .tuple [.str "end"]]]
def spStray0 : Sp := fun vs H Q _ => ∃ (x y : V) (r : Addr), vs = [x, y, .ref r] ∧ H r = some (.tup []) ∧ Q .non H
def spRD0 : Sp := fun vs H Q _ => ∃ (x : V) (s r : Addr) (wd : Wd), vs = [x, .ref s, .ref r] ∧ Tp H (.ref s) (wdD wd) ∧ H r = some (.tup []) ∧ wd.vis.length ≤ 1000 ∧ wd.hid.length ≤ 1000 ∧ wd.mem.length ≤ 1000 ∧ ∀ (a : Addr) (H' : Hp), Same H H' → Tp H' (.ref a) (wdD wd) → Q (.ref a) H'
def spRun0 : Sp := fun vs H Q _ => ∃ (x : V) (s g : Addr) (wd : Wd), vs = [x, .ref g, .ref s] ∧ Tp H (.ref s) (wdD wd) ∧ Tp H (.ref g) noneD ∧ wd.vis.length ≤ 1000 ∧ wd.hid.length ≤ 1000 ∧ wd.mem.length ≤ 1000 ∧ ∀ (a : Addr) (H' : Hp), Same H H' → Tp H' (.ref a) (wdD wd) → Q (.ref a) H'
def spVisB : Sp := fun vs H Q _ => ∃ (x : V) (s g : Addr) (wd : Wd), vs = [x, .ref g, .ref s] ∧ Tp H (.ref s) (wdD wd) ∧ Tp H (.ref g) noneD ∧ wd.vis.length ≤ 1000 ∧ wd.hid.length ≤ 1000 ∧ wd.mem.length ≤ 1000 ∧ ∀ (a : Addr) (H' : Hp), Same H H' → Tp H' (.ref a) (.tuple [intsD wd.vis, intsD wd.mem]) → Q (.ref a) H'
def spStateOf : Sp := fun vs H Q _ => ∃ (p : Addr) (o : OwnD) (n : Nat), vs = [.ref p, .int n] ∧ Tp H (.ref p) (ownD o) ∧ OwnOk o ∧ allN o ≤ 1000 ∧ n < 2 ^ 60 ∧ ∀ (a : Addr) (H' : Hp), Same H H' → Tp H' (.ref a) (wdD (stOf o n)) → Q (.ref a) H'
abbrev NSt0 : List Str := ["machine", "state", "orders", "order", "cell"]
abbrev NRd0 : List Str := ["machine", "state", "orders", "stray", "visible", "hidden", "memory", "order", "word", "kind", "which"]
abbrev NRn0 : List Str := ["machine", "program", "state", "at", "orders", "onward"]
abbrev NVb : List Str := ["machine", "program", "state", "last"]
abbrev NSo : List Str := ["machine", "number", "words", "step", "many"]
section
variable {P : Program} {w : World} {K : PySem.W.Frag} {mg : Str → Option Value} {base : Heap}
theorem scStray0 : FnScope NSt0 ["machine", "state", "orders"] (defScope sStray) := ⟨rfl, rfl, rfl, by decide +kernel, rfl, by decide +kernel, by decide +kernel⟩
theorem ok_stray0 {f : Addr} {fd : FuncData} (F : Fun K "stray_cell" "stray_cell" sStray f fd) : FnOk P w K mg base CX0 1 f fd ["machine", "state", "orders"] spStray0 := by
  refine F.ok scStray0 (fun vs H Q E h => ?_) (fun cdv A outer s H vs Q E hr h => ?_)
  · obtain ⟨x, y, r, rfl, _⟩ := h
    rfl
  · obtain ⟨x, y, r, rfl, hR, q⟩ := h
    refine ⟨_, pss_cons (ps_for PassesOwn.never rfl (pi_tup (pv 2)) (pg_name (i := 3) scStray0.nd rfl (Or.inl rfl)) (pss_one ps_never)) (pss_one (ps_ret pe_non)), ?_⟩
    refine ⟨_, rfl, r, rfl, ⟨_, SqT.of hR⟩, for_tup (K := K) (a := r) (xs := []) (fun i σ H1 => σ = [some x, some y, some (.ref r), none, none] ∧ H1 = H) ⟨rfl, rfl⟩ (fun i σ H1 _ z => by rw [z.2]; exact SqT.of hR) (fun i x σ H1 hx => by simp at hx) ?_⟩
    rintro σ H1 ⟨rfl, rfl⟩
    exact q
theorem scRD0 : FnScope NRd0 ["machine", "state", "orders"] (defScope sRD) := ⟨rfl, rfl, rfl, by decide +kernel, rfl, by decide +kernel, by decide +kernel⟩
theorem ok_RD0 {f : Addr} {fd : FuncData} (F : Fun K "row_done" "row_done" sRD f fd) (dS : Df K mg "stray_cell" sStray ["machine", "state", "orders"]) (B : Bl mg) : FnOk P w K mg base CX0 2 f fd ["machine", "state", "orders"] spRD0 := by
  have GS : FnOk P w K mg base CX0 1 dS.f dS.fd ["machine", "state", "orders"] spStray0 := ok_stray0 dS.F
  refine F.ok scRD0 (fun vs H Q E h => ?_) (fun cdv A outer s H vs Q E hr h => ?_)
  · obtain ⟨x, st, r, wd, rfl, _⟩ := h
    rfl
  · obtain ⟨x, st, r, wd, rfl, hS, hR, l1, l2, l3, q⟩ := h
    refine ⟨_, pss_cons (ps_set (i := 3) scRD0.nd rfl (Or.inl rfl) (pe_call GS hr rfl dS.m dS.F.kp dS.b .nil pass0 (pa_cons (pv 0) (pa_cons (pv 1) (pa_cons (pv 2) pa_nil)))))
      (pss_cons (ps_if (pt_cmp (pc_notN (pv 3))) (pss_one ps_never) pss_nil)
      (pss_cons (ps_par3 (i := 4) (j := 5) (k := 6) (by rfl) scRD0.nd rfl rfl rfl (by decide) (by decide) (by decide) (by rfl) (by rfl) (by rfl)
        (pa_cons (pe_callTy call_list_of (by rfl) B.list (by decide +kernel) (pa_cons (pe_ix ix_tup (pv 1) pe_int (fun _ _ => rfl)) pa_nil)) (pa_cons (pe_callTy call_list_of (by rfl) B.list (by decide +kernel) (pa_cons (pe_ix ix_tup (pv 1) pe_int (fun _ _ => rfl)) pa_nil)) (pa_cons (pe_callTy call_list_of (by rfl) B.list (by decide +kernel) (pa_cons (pe_ix ix_tup (pv 1) pe_int (fun _ _ => rfl)) pa_nil)) pa_nil))) (by rfl))
      (pss_cons (ps_for PassesOwn.never rfl (pi_tup (pv 2)) (pg_name (i := 7) scRD0.nd rfl (Or.inl rfl)) pss_never)
      (pss_one (ps_ret (pe_tup (pa_cons (pe_callTy call_tuple_of (by rfl) B.tup (by decide +kernel) (pa_cons (pv 4) pa_nil)) (pa_cons (pe_callTy call_tuple_of (by rfl) B.tup (by decide +kernel) (pa_cons (pv 5) pa_nil)) (pa_cons (pe_callTy call_tuple_of (by rfl) B.tup (by decide +kernel) (pa_cons (pv 6) pa_nil)) pa_nil))))))))), ?read⟩
    case read =>
      obtain ⟨sv, sh, sm, g0, g1, g2, g3⟩ := wd_inv hS
      refine ⟨_, rfl, _, rfl, _, rfl, x, .ref st, r, rfl, hR, ?_⟩
      refine ⟨_, rfl, _, rfl, iteF ?_⟩
      refine ⟨_, rfl, st, _, _, _, rfl, rfl, SqT.of g0, at0, sv, _, rfl, .inr (SqT.of g1), fun V0 hV => ?_⟩
      have s1 := same_new hV (.lst (wd.vis.map V.int))
      refine ⟨_, rfl, st, _, _, _, rfl, rfl, SqT.of (s1 _ _ g0), rfl, sh, _, rfl, .inr (SqT.of (s1 _ _ g2)), fun D0 hD => ?_⟩
      have s2 := s1.trans (same_new hD (.lst (wd.hid.map V.int)))
      refine ⟨_, rfl, st, _, _, _, rfl, rfl, SqT.of (s2 _ _ g0), rfl, sm, _, rfl, .inr (SqT.of (s2 _ _ g3)), fun M0 hM => ⟨_, _, _, rfl, ?_⟩⟩
      have s3 := s2.trans (same_new hM (.lst (wd.mem.map V.int)))
      have nVD : V0 ≠ D0 := ne_of_none upd_same hD
      have eV0 : (upd (upd H V0 (.lst (wd.vis.map V.int))) D0 (.lst (wd.hid.map V.int))) V0 = some (.lst (wd.vis.map V.int)) := by rw [upd_ne nVD]; exact upd_same
      have nVM : V0 ≠ M0 := ne_of_none eV0 hM
      have nDM : D0 ≠ M0 := ne_of_none upd_same hM
      generalize eH : upd (upd (upd H V0 (.lst (wd.vis.map V.int))) D0 (.lst (wd.hid.map V.int))) M0 (.lst (wd.mem.map V.int)) = H3 at s3
      have e1 : H3 V0 = some (.lst (wd.vis.map V.int)) := by rw [← eH, upd_ne nVM]; exact eV0
      have e2 : H3 D0 = some (.lst (wd.hid.map V.int)) := by rw [← eH, upd_ne nDM]; exact upd_same
      have e3 : H3 M0 = some (.lst (wd.mem.map V.int)) := by rw [← eH]; exact upd_same
      refine ⟨_, rfl, r, rfl, ⟨_, SqT.of (s3 _ _ hR)⟩, for_tup (K := K) (a := r) (xs := []) (fun i σ H1 => σ = [some x, some (.ref st), some (.ref r), some .non, some (.ref V0), some (.ref D0), some (.ref M0), none, none, none, none] ∧ H1 = H3) ⟨rfl, rfl⟩ (fun i σ H1 _ z => by rw [z.2]; exact SqT.of (s3 _ _ hR)) (fun i x σ H1 hx => by simp at hx) ?_⟩
      rintro σ H4 ⟨rfl, rfl⟩
      refine ⟨_, rfl, V0, _, rfl, .inl ⟨SqL.of e1, fun t1 ht1 => ?_⟩⟩
      have u1 := same_new ht1 (.tup (wd.vis.map V.int))
      refine ⟨_, rfl, D0, _, rfl, .inl ⟨SqL.of (u1 _ _ e2), fun t2 ht2 => ?_⟩⟩
      have u2 := same_new ht2 (.tup (wd.hid.map V.int))
      refine ⟨_, rfl, M0, _, rfl, .inl ⟨SqL.of (u2 _ _ (u1 _ _ e3)), fun t3 ht3 => ⟨(by show 3 ≤ sizeLine; decide), fun t4 ht4 => ?_⟩⟩⟩
      have u3 := same_new ht3 (.tup (wd.mem.map V.int))
      have u4 := same_new ht4 (.tup [V.ref t1, V.ref t2, V.ref t3])
      refine q t4 _ (s3.trans (u1.trans (u2.trans (u3.trans u4)))) ?_
      exact .tup upd_same (.cons (.tup (u4 _ _ (u3 _ _ (u2 _ _ upd_same))) (ints_tp _)) (.cons (.tup (u4 _ _ (u3 _ _ upd_same)) (ints_tp _)) (.cons (.tup (u4 _ _ upd_same) (ints_tp _)) .nil)))
theorem none_inv {H : Hp} {g : Addr} (h : Tp H (.ref g) noneD) : ∃ r t b, H g = some (.tup [.ref r]) ∧ H r = some (.tup [.ref t, .ref b]) ∧ H t = some (.tup []) ∧ H b = some (.tup [.str "end"]) := by
  unfold noneD at h
  cases h with | tup e0 q => cases q with | cons h1 q =>
    cases q
    cases h1 with | tup e1 q => cases q with | cons h2 q => cases q with | cons h3 q =>
      cases q
      cases h2 with | tup e2 q2 =>
        cases q2
        cases h3 with | tup e3 q3 => cases q3 with | cons h4 q3 =>
          cases q3
          cases h4
          exact ⟨_, _, _, e0, e1, e2, e3⟩
theorem scRun0 : FnScope NRn0 ["machine", "program", "state"] (defScope sRun) := ⟨rfl, rfl, rfl, by decide +kernel, rfl, by decide +kernel, by decide +kernel⟩
theorem ok_run0 {f : Addr} {fd : FuncData} (F : Fun K "run" "run" sRun f fd) (dR : Df K mg "row_done" sRD ["machine", "state", "orders"]) (dS : Df K mg "stray_cell" sStray ["machine", "state", "orders"]) (B : Bl mg) : FnOk P w K mg base CX0 3 f fd ["machine", "program", "state"] spRun0 := by
  have GR : FnOk P w K mg base CX0 2 dR.f dR.fd ["machine", "state", "orders"] spRD0 := ok_RD0 dR.F dS B
  refine F.ok scRun0 (fun vs H Q E h => ?_) (fun cdv A outer s H vs Q E hr h => ?_)
  · obtain ⟨x, st, g, wd, rfl, _⟩ := h
    rfl
  · obtain ⟨x, st, g, wd, rfl, hS, hG, l1, l2, l3, q⟩ := h
    refine ⟨_, pss_cons (ps_set (i := 3) scRun0.nd rfl (Or.inl rfl) pe_int) (pss_one (ps_while PassesOwn.never (pt_val pe_bl) (pss_cons (ps_asg (pe_ix ix_tup (pv 1) (pv 3) (fun _ _ => rfl)) (pg_tup (by rfl) (pgs_cons (pg_name (i := 4) scRun0.nd rfl (Or.inl rfl)) (pgs_cons (pg_name (i := 5) scRun0.nd rfl (Or.inl rfl)) pgs_nil)))) (pss_cons (ps_set (i := 2) scRun0.nd rfl (Or.inl rfl) (pe_call GR hr rfl dR.m dR.F.kp dR.b .nil pass0 (pa_cons (pv 0) (pa_cons (pv 2) (pa_cons (pv 4) pa_nil))))) (pss_cons (ps_if (PW.pt (pw_or (pt_cmpR (op_eqD hr.units) (pe_ix ix_tup (pv 2) pe_int (fun _ _ => rfl)) pe_str (nomark _)) (pw_or1 (pt_cmpR op_eq (pe_ix ix_tup (pv 5) pe_int (fun _ _ => rfl)) pe_str (nomark _))))) (pss_one (ps_ret (pv 2))) pss_nil) (pss_one ps_never)))))), ?read⟩
    case read =>
      obtain ⟨r, t, b, g0, g1, g2, g3⟩ := none_inv hG
      refine while_by (fun σ H' => σ = [some x, some (.ref g), some (.ref st), some (.int 0), none, none] ∧ H' = H) (fun σ _ => 0) ⟨rfl, rfl⟩ ?_ (fun σ H' Q1 Q2 hq hc => by obtain ⟨c, e, z⟩ := hc; exact ⟨c, e, hq _ _ z⟩)
      rintro σ H1 ⟨rfl, rfl⟩
      refine ⟨true, rfl, iteT ?_⟩
      refine ⟨_, rfl, _, rfl, g, _, _, _, rfl, rfl, SqT.of g0, at0, r, _, rfl, SqT.of g1, rfl, _, _, rfl, _, _, rfl, rfl, ?_⟩
      refine ⟨_, rfl, _, rfl, _, rfl, x, st, t, wd, rfl, hS, g2, l1, l2, l3, fun a H2 s2 T2 => ?_⟩
      obtain ⟨sv, sh, sm, k0, k1, k2, k3⟩ := wd_inv T2
      refine ⟨_, rfl, a, _, _, _, rfl, rfl, SqT.of k0, at0, intsD wd.vis, .str "trap", (Tp.tup k1 (ints_tp _)).dp, .str _, shaped_tints _, shaped_of ok_trap (by show 0 ≤ 60; decide), _, rfl, iteF ?_⟩
      refine ⟨_, rfl, b, _, _, _, rfl, rfl, SqT.of (s2 _ _ g3), at0, rfl, _, rfl, ite2 (fun _ => ⟨_, rfl, q a H2 s2 T2⟩) (fun z => absurd (decide_eq_true rfl) z)⟩
theorem scVisB : FnScope NVb ["machine", "program", "state"] (defScope sVisB) := ⟨rfl, rfl, rfl, by decide +kernel, rfl, by decide +kernel, by decide +kernel⟩
theorem ok_visB {f : Addr} {fd : FuncData} (F : Fun K "visible_behind" "visible_behind" sVisB f fd) (dN : Df K mg "run" sRun ["machine", "program", "state"]) (dR : Df K mg "row_done" sRD ["machine", "state", "orders"]) (dS : Df K mg "stray_cell" sStray ["machine", "state", "orders"]) (B : Bl mg) : FnOk P w K mg base CX0 4 f fd ["machine", "program", "state"] spVisB := by
  have GN : FnOk P w K mg base CX0 3 dN.f dN.fd ["machine", "program", "state"] spRun0 := ok_run0 dN.F dR dS B
  refine F.ok scVisB (fun vs H Q E h => ?_) (fun cdv A outer s H vs Q E hr h => ?_)
  · obtain ⟨x, st, g, wd, rfl, _⟩ := h
    rfl
  · obtain ⟨x, st, g, wd, rfl, hS, hG, l1, l2, l3, q⟩ := h
    refine ⟨_, pss_cons (ps_set (i := 3) scVisB.nd rfl (Or.inl rfl) (pe_call GN hr rfl dN.m dN.F.kp dN.b .nil pass0 (pa_cons (pv 0) (pa_cons (pv 1) (pa_cons (pv 2) pa_nil)))))
      (pss_one (ps_ret (pe_ifExp (pt_cmpR (op_eqD hr.units) (pe_ix ix_tup (pv 3) pe_int (fun _ _ => rfl)) pe_str (nomark _)) (pe_tup (pa_cons pe_str pa_nil)) (pe_tup (pa_cons (pe_ix ix_tup (pv 3) pe_int (fun _ _ => rfl)) (pa_cons (pe_ix ix_tup (pv 3) pe_int (fun _ _ => rfl)) pa_nil)))))), ?read⟩
    case read =>
      refine ⟨_, rfl, _, rfl, _, rfl, x, st, g, wd, rfl, hS, hG, l1, l2, l3, fun a H2 s2 T2 => ?_⟩
      obtain ⟨sv, sh, sm, k0, k1, k2, k3⟩ := wd_inv T2
      refine ⟨_, rfl, a, _, _, _, rfl, rfl, SqT.of k0, at0, intsD wd.vis, .str "trap", (Tp.tup k1 (ints_tp _)).dp, .str _, shaped_tints _, shaped_of ok_trap (by show 0 ≤ 60; decide), _, rfl, iteF ?_⟩
      refine ⟨_, rfl, a, _, _, _, rfl, rfl, SqT.of k0, at0, _, rfl, a, _, _, _, rfl, rfl, SqT.of k0, rfl, (by show 2 ≤ sizeLine; decide), fun t ht => ?_⟩
      have u := same_new ht (.tup [V.ref sv, V.ref sm])
      exact q t _ (s2.trans u) (.tup upd_same (.cons (.tup (u _ _ k1) (ints_tp _)) (.cons (.tup (u _ _ k3) (ints_tp _)) .nil)))
end
end My
set_option Elab.async false
set_option linter.all false
set_option maxRecDepth 100000
set_option maxHeartbeats 4000000
namespace L2
open PySem PySem.Spec PyProof.Rows
theorem ip_fdiv {X : Cx} : PIp X .FloorDiv (fun x y H Q => ∃ i j : Int, x = .int i ∧ y = .int j ∧ 0 < j ∧ j < 1073741824 ∧ Q (.int (i / j)) H) := by
  intro pins s σ H x y v u Q I r1 r2 h
  obtain ⟨i, j, e1, e2, h1, h2, q⟩ := h
  subst e1; subst e2
  obtain ⟨t, rfl⟩ := r1
  obtain ⟨t', rfl⟩ := r2
  refine ifloordiv_int (by omega) ?_ (.inl (PyProof.noPylong_small (by omega)))
  rw [Int.fdiv_eq_ediv_of_nonneg i (by omega)]
  exact ⟨.int _, H, I.tok _, ⟨_, rfl⟩, q⟩
end L2
namespace My
open PySem L2 TL
theorem cutV_to {xs : List V} {j : Nat} : cutV xs none (some (j : Int)) = xs.take j := by
  unfold cutV
  rw [HT.sIx_none, HT.sIx_nat, Nat.sub_zero, List.drop_zero]
  rcases Nat.le_total j xs.length with h | h
  · rw [Nat.min_eq_left h]
  · rw [Nat.min_eq_right h, List.take_length, List.take_of_length_le h]
theorem cutV_from {xs : List V} {j : Nat} : cutV xs (some (j : Int)) none = xs.drop j := by
  unfold cutV
  rw [HT.sIx_none, HT.sIx_nat]
  rcases Nat.le_total j xs.length with h | h
  · rw [Nat.min_eq_left h, List.take_of_length_le (by rw [List.length_drop]; omega)]
  · rw [Nat.min_eq_right h, Nat.sub_self, List.take_zero, List.drop_eq_nil_of_le h]
theorem vals_ints (l : List Nat) : l.map (fun (x : Nat) => V.int (x : Int)) = (l.map fun (x : Nat) => (x : Int)).map V.int := by rw [List.map_map]; rfl
theorem eqvI : ∀ a b : List Int, PyData.eqvAll (a.map PyData.int) (b.map PyData.int) = decide (a = b)
  | [], [] => by simp [PyData.eqvAll]
  | [], _ :: _ => by simp [PyData.eqvAll]
  | _ :: _, [] => by simp [PyData.eqvAll]
  | x :: a, y :: b => by
    rw [List.map_cons, List.map_cons]
    show (PyData.eqv (.int x) (.int y) && PyData.eqvAll (a.map PyData.int) (b.map PyData.int)) = _
    rw [eqvI a b]
    have : PyData.eqv (.int x) (.int y) = decide (x = y) := by simp [PyData.eqv]; rfl
    rw [this]
    by_cases h1 : x = y <;> by_cases h2 : a = b <;> simp [h1, h2]
theorem mean_cases (o : OwnD) (s : Wd) : ∀ pl : Pln, meanD o s pl = .tuple [.str "trap"] ∨ ∃ v m, meanD o s pl = .tuple [intsD v, intsD m]
  | .dos sets sp => by
    show doMean o s sets sp = _ ∨ ∃ v m, doMean o s sets sp = _
    unfold doMean
    split
    · exact .inr ⟨_, _, rfl⟩
    · exact .inl rfl
  | .ite t m n => by
    have e : meanD o s (.ite t m n) = match worth o s t with
      | some w => if w = 0 then meanD o s n else meanD o s m
      | none => .tuple [.str "trap"] := rfl
    rw [e]
    cases worth o s t with
    | none => exact .inl rfl
    | some w =>
      show (if w = 0 then meanD o s n else meanD o s m) = _ ∨ ∃ v m', (if w = 0 then meanD o s n else meanD o s m) = _
      split
      · exact mean_cases o s n
      · exact mean_cases o s m
theorem shaped_two (v m : List Int) : SeqAt.shaped (.tuple [intsD v, intsD m]) = true := by
  refine shaped_of ?_ ?_
  · show (PyData.canLayAll0 (v.map PyData.int) && (PyData.canLayAll0 (m.map PyData.int) && true)) = true
    rw [(lay_ints v).1, (lay_ints m).1]; rfl
  · show max (PyData.depthAll (v.map PyData.int) + 1) (max (PyData.depthAll (m.map PyData.int) + 1) 0) + 1 ≤ 60
    rw [(lay_ints v).2, (lay_ints m).2]; decide
theorem shaped_mean (o : OwnD) (s : Wd) (pl : Pln) : SeqAt.shaped (meanD o s pl) = true := by
  rcases mean_cases o s pl with e | ⟨v, m, e⟩
  · rw [e]
    refine shaped_of ?_ (by show max 0 0 + 1 ≤ 60; decide)
    show (PyData.strOk (Str.ofString "trap") && true) = true
    rw [ok_trap]; rfl
  · rw [e]; exact shaped_two v m
theorem eqv_mean (o : OwnD) (s : Wd) (pl : Pln) (v m : List Int) : PyData.eqv (.tuple [intsD v, intsD m]) (meanD o s pl) = true ↔ meanD o s pl = .tuple [intsD v, intsD m] := by
  rcases mean_cases o s pl with e | ⟨v2, m2, e⟩
  · rw [e]
    have e1 : PyData.eqv (.tuple [intsD v, intsD m]) (.tuple [.str "trap"]) = false := by
      show (PyData.eqv (intsD v) (.str "trap") && PyData.eqvAll [intsD m] []) = false
      have : PyData.eqvAll [intsD m] [] = false := by simp [PyData.eqvAll]
      rw [this, Bool.and_false]
    rw [e1]
    exact ⟨fun z => absurd z Bool.false_ne_true, fun z => by injection z with z; injection z with _ z; cases z⟩
  · rw [e]
    show (PyData.eqvAll (v.map PyData.int) (v2.map PyData.int) && (PyData.eqvAll (m.map PyData.int) (m2.map PyData.int) && true)) = true ↔ _
    rw [eqvI, eqvI, Bool.and_true, Bool.and_eq_true, decide_eq_true_iff, decide_eq_true_iff]
    constructor
    · rintro ⟨rfl, rfl⟩; rfl
    · intro z
      injection z with z
      injection z with z1 z
      injection z with z2 z
      exact ⟨(intsD_inj z1).symm, (intsD_inj z2).symm⟩
theorem len_small : ∀ i : Int, 0 ≤ i → i ≤ 2200 → (toString i : Str).length ≤ 1000 := by
  intro i h0 h1
  have h : ∀ n : Nat, n ≤ 2200 → (toString (n : Int) : Str).length ≤ 1000 := by decide +kernel
  have := h i.toNat (by omega)
  rw [show ((i.toNat : Nat) : Int) = i by omega] at this
  exact this
theorem log_sm8 : ∀ i : Int, 0 ≤ i → i ≤ 2200 → i.natAbs.log2 < 1920 := by
  intro i h0 h1
  have h2 : i.natAbs.log2 ≤ i.natAbs := Nat.log2_le_self _
  have h : ∀ n : Nat, n ≤ 2200 → n.log2 < 1920 := by decide +kernel
  exact h _ (by omega)
/-- the bits in all -/
abbrev bitsN (o : OwnD) : Nat := o.bits.toNat * allN o
structure MostB (mg : Str → Option Value) : Prop where
  m : ∃ t, mg "MOST_BITS" = some (.int 12 t)
def spDiffers : Sp := fun vs H Q _ => ∃ (p a g : Addr) (o : OwnD) (pl : Pln), vs = [.ref p, .ref a, .ref g] ∧ Tp H (.ref p) (ownD o) ∧ OwnOk o ∧ Tp H (.ref a) (plnD pl) ∧ PlnOk o pl ∧ Tp H (.ref g) noneD ∧ bitsN o ≤ 12 ∧
  (∀ (n : Nat) (v : V) (H' : Hp), Same H H' → n < 2 ^ bitsN o → difAt o pl n → (∀ m < n, ¬ difAt o pl m) → Tp H' v (wdD (stOf o n)) → Q v H') ∧ ∀ H', Same H H' → (∀ m < 2 ^ bitsN o, ¬ difAt o pl m) → Q .non H'
def spDifBad (C : Addr) : Sp := fun vs H Q E => ∃ (p : Addr) (a g : V) (o : OwnD), vs = [.ref p, a, g] ∧ Tp H (.ref p) (ownD o) ∧ OwnOk o ∧ 12 < bitsN o ∧ bitsN o ≤ 2200 ∧ ∀ H', Same H H' → E (.ref C) none H'
abbrev NDf : List Str := ["machine", "meaning", "program", "bits", "number", "state"]
section
variable {P : Program} {w : World} {K : PySem.W.Frag} {mg : Str → Option Value} {base : Heap}
theorem scStateOf : FnScope NSo ["machine", "number"] (defScope sStateOf) := ⟨rfl, rfl, rfl, by decide +kernel, rfl, by decide +kernel, by decide +kernel⟩
theorem ok_stateOf {f : Addr} {fd : FuncData} (F : Fun K "state_of" "state_of" sStateOf f fd) (dL : Df K mg "word_limit" sLimit ["machine"]) (B : Bl mg) : FnOk P w K mg base CX0 2 f fd ["machine", "number"] spStateOf := by
  have GL : FnOk P w K mg base CX0 1 dL.f dL.fd ["machine"] spLimit := ok_limit dL.F
  refine F.ok scStateOf (fun vs H Q E h => ?_) (fun cdv A outer s H vs Q E hr h => ?_)
  · obtain ⟨p, o, n, rfl, _⟩ := h
    rfl
  · obtain ⟨p, o, n, rfl, hP, hO, hA, hn, q⟩ := h
    refine ⟨_, pss_cons (ps_set (i := 2) scStateOf.nd rfl (Or.inl rfl) (pe_lst pa_nil))
      (pss_cons (ps_for PassesOwn.never rfl (pi_range1 rfl B.range (pa_cons (pe_op op_add (pe_callB call_len_seq (by rfl) B.len PySem.boot_len (pa_cons (pe_ix ix_tup (pv 0) pe_int (fun _ _ => rfl)) pa_nil)) (pe_ix ix_tup (pv 0) pe_int (fun _ _ => rfl))) pa_nil)) (pg_name (i := 3) scStateOf.nd rfl (Or.inl rfl))
        (pss_cons (ps_expr (pe_bm PySem.F.plainAttrs_list PySem.F.slot_list_append PySem.F.type_list_append mt_append (pv 2) (pa_cons (pe_op op_mod (pv 1) (pe_call GL hr rfl dL.m dL.F.kp dL.b .nil pass0 (pa_cons (pv 0) pa_nil))) pa_nil)))
        (pss_one (ps_aug (i := 1) scStateOf.nd rfl (Or.inl rfl) (pe_call GL hr rfl dL.m dL.F.kp dL.b .nil pass0 (pa_cons (pv 0) pa_nil)) ip_fdiv))))
      (pss_cons (ps_expr (pe_bm0 PySem.F.plainAttrs_list PySem.F.slot_list_reverse PySem.F.type_list_reverse mt_reverse (pv 2)))
      (pss_cons (ps_set (i := 4) scStateOf.nd rfl (Or.inl rfl) (pe_callB call_len_seq (by rfl) B.len PySem.boot_len (pa_cons (pe_ix ix_tup (pv 0) pe_int (fun _ _ => rfl)) pa_nil)))
      (pss_one (ps_ret (pe_tup (pa_cons (pe_callTy call_tuple_of (by rfl) B.tup (by decide +kernel) (pa_cons (pe_slice sl_list (pv 2) po_none (po_some (pv 4))) pa_nil)) (pa_cons (pe_op op_repT (pe_tup (pa_cons pe_int pa_nil)) (pe_ix ix_tup (pv 0) pe_int (fun _ _ => rfl))) (pa_cons (pe_callTy call_tuple_of (by rfl) B.tup (by decide +kernel) (pa_cons (pe_slice sl_list (pv 2) (po_some (pv 4)) po_none) pa_nil)) pa_nil))))))))), ?read⟩
    case read =>
      obtain ⟨qA, hp, hq⟩ := own_inv hP
      have hb := hO.bits
      have hc := hO.cells
      have hh := hO.hidden
      have eA := allN_eq o
      have eT := tN_top o
      have tp := top_pos hO
      have nl : ((o.names.map V.str).length : Int) = (o.names.length : Nat) := by rw [List.length_map]
      refine seq_cut (fun σ' H' => ∃ L : Addr, σ' = [some (.ref p), some (.int n), some (.ref L), none, none] ∧ H L = none ∧ H' = upd H L (.lst [])) (fun nx imp => ?_) ?_
      · exact ⟨(by show 0 ≤ sizeLine; decide), fun L hL => imp _ _ ⟨L, rfl, hL, rfl⟩⟩
      rintro σ H1 ⟨L, rfl, hL0, eH1⟩
      have nLp : ∀ {b : Addr} {u : HO}, H b = some u → b ≠ L := fun e z => by rw [z, hL0] at e; cases e
      refine seq_cut (fun σ' H' => ∃ v1 v3, σ' = [some (.ref p), v1, some (.ref L), v3, none] ∧ H' L = some (.lst ((le (tN o) (allN o) n).map fun (x : Nat) => V.int (x : Int))) ∧ SameBut L H1 H') (fun nx imp => ?_) ?_
      · have g1 : ∀ {b : Addr} {u : HO}, H b = some u → H1 b = some u := fun e => by rw [eH1, upd_ne (nLp e)]; exact e
        refine ⟨_, rfl, p, _, _, _, rfl, rfl, SqT.of (g1 hp), rfl, qA, _, rfl, .inr (SqT.of (g1 hq)), _, rfl, p, _, _, _, rfl, rfl, SqT.of (g1 hp), rfl, _, _, rfl, rfl, ((o.names.map V.str).length : Int) + o.cells, rfl, by omega, by omega, ?_⟩
        have eN : (((o.names.map V.str).length : Int) + o.cells).toNat = allN o := by omega
        rw [eN]
        refine for_range (lo := 0) (n := allN o) (fun i σ H' => ∃ v3, σ = [some (.ref p), some (.int ((n / tN o ^ i : Nat) : Int)), some (.ref L), v3, none] ∧ H' L = some (.lst ((le (tN o) i n).map fun (x : Nat) => V.int (x : Int))) ∧ SameBut L H1 H') ⟨none, by rw [Nat.pow_zero, Nat.div_one], by rw [eH1]; exact upd_same, SameBut.refl⟩ ?_ ?_
        · rintro i σ H2 hi ⟨v3, rfl, hL2, sb2⟩
          have g2 : ∀ {b : Addr} {u : HO}, H b = some u → H2 b = some u := fun e => sb2 _ _ (g1 e) (nLp e)
          have hP2 : ∀ {H' : Hp}, SameBut L H2 H' → Tp H' (.ref p) (ownD o) := fun {H'} s => by
            refine hP.keep fun b xs e => ?_
            exact s _ _ (g2 e) (nLp e)
          have lim : (1 : Int) * 2 ^ o.bits.toNat = ((tN o : Nat) : Int) := by rw [Int.one_mul, eT]
          have tl : (0 : Int) < (tN o : Nat) ∧ ((tN o : Nat) : Int) < 1073741824 := by omega
          refine ⟨_, rfl, .inl ⟨rfl, _, SqL.of hL2⟩, _, rfl, _, rfl, p, o, rfl, hP2 SameBut.refl, hO, _, _, rfl, rfl, by rw [lim]; exact tl.1, L, _, _, rfl, rfl, hL2, small1000 (by rw [List.length_map, le_len]; omega), ?_⟩
          have sb3 : SameBut L H2 (upd H2 L (.lst ((le (tN o) i n).map (fun (x : Nat) => V.int (x : Int)) ++ [V.int (((n / tN o ^ i : Nat) : Int) % (1 * 2 ^ o.bits.toNat))]))) := SameBut.upd
          refine ⟨_, rfl, _, rfl, p, o, rfl, hP2 sb3, hO, _, _, rfl, rfl, by rw [lim]; exact tl.1, by rw [lim]; exact tl.2, some (.int (0 + (i : Nat))), ?_, ?_, sb2.trans sb3⟩
          · rw [lim, Nat.pow_succ, ← Nat.div_div_eq_div_mul, Int.natCast_ediv (n / tN o ^ i)]
            rfl
          · rw [upd_same, le_snoc, List.map_append, lim]
            rfl
        · rintro σ H2 ⟨v3, rfl, hL2, sb2⟩
          exact imp _ _ ⟨_, v3, rfl, hL2, sb2⟩
      rintro σ H2 ⟨v1, v3, rfl, hL2, sb2⟩
      have g2 : ∀ {b : Addr} {u : HO}, H b = some u → H2 b = some u := fun e => sb2 _ _ (by rw [eH1, upd_ne (nLp e)]; exact e) (nLp e)
      refine ⟨_, rfl, .inl ⟨rfl, _, SqL.of hL2⟩, L, _, rfl, rfl, hL2, ?_⟩
      have eW : (((le (tN o) (allN o) n).map fun (x : Nat) => V.int (x : Int)).reverse) = (wsOf o n).map V.int := by
        unfold wsOf
        rw [← List.map_reverse, vals_ints]
      generalize eH3 : upd H2 L (.lst (((le (tN o) (allN o) n).map fun (x : Nat) => V.int (x : Int)).reverse)) = H3
      have hL3 : H3 L = some (.lst ((wsOf o n).map V.int)) := by rw [← eH3, upd_same, eW]
      have g3 : ∀ {b : Addr} {u : HO}, H b = some u → H3 b = some u := fun e => by rw [← eH3, upd_ne (nLp e)]; exact g2 e
      refine ⟨_, rfl, p, _, _, _, rfl, rfl, SqT.of (g3 hp), rfl, qA, _, rfl, .inr (SqT.of (g3 hq)), ?_⟩
      have cut1 : cutV ((wsOf o n).map V.int) none (some ((o.names.map V.str).length : Int)) = (stOf o n).vis.map V.int := by
        rw [cutV_to, List.length_map, ← List.map_take]; rfl
      have cut2 : cutV ((wsOf o n).map V.int) (some ((o.names.map V.str).length : Int)) none = (stOf o n).mem.map V.int := by
        rw [cutV_from, List.length_map, ← List.map_drop]; rfl
      refine ⟨_, rfl, _, rfl, _, rfl, L, _, rfl, SqL.of hL3, fun c1 hc1 => ?_⟩
      rw [cut1]
      have s1 := same_new hc1 (.lst ((stOf o n).vis.map V.int))
      refine ⟨c1, _, rfl, .inl ⟨SqL.of upd_same, fun t1 ht1 => ?_⟩⟩
      have s2 := s1.trans (same_new ht1 (.tup ((stOf o n).vis.map V.int)))
      refine ⟨(by show 1 ≤ sizeLine; decide), fun z1 hz1 => ?_⟩
      have s3 := same_new hz1 (.tup [V.int 0])
      refine ⟨_, rfl, p, _, _, _, rfl, rfl, SqT.of (s3 _ _ (s2 _ _ (g3 hp))), rfl, z1, o.hidden, V.int 0, rfl, rfl, upd_same, by omega, by omega, fun t2 H4 s4 ht2 => ?_⟩
      have s14 := s2.trans (s3.trans s4)
      refine ⟨_, rfl, _, rfl, _, rfl, L, _, rfl, SqL.of (s14 _ _ hL3), fun c2 hc2 => ?_⟩
      rw [cut2]
      have s5 := same_new hc2 (.lst ((stOf o n).mem.map V.int))
      refine ⟨c2, _, rfl, .inl ⟨SqL.of upd_same, fun t3 ht3 => ⟨(by show 3 ≤ sizeLine; decide), fun t4 ht4 => ?_⟩⟩⟩
      have s6 := same_new ht3 (.tup ((stOf o n).mem.map V.int))
      have s7 := same_new ht4 (.tup [V.ref t1, V.ref t2, V.ref t3])
      have sF := s14.trans (s5.trans (s6.trans s7))
      have eh : (List.replicate o.hidden.toNat (V.int 0)) = (List.replicate o.hidden.toNat (0 : Int)).map V.int := by rw [List.map_replicate]
      refine q t4 _ (fun b u e => sF _ _ (g3 e)) ?_
      refine .tup upd_same (.cons (.tup (s7 _ _ (s6 _ _ (s5 _ _ (s4 _ _ (s3 _ _ upd_same))))) (ints_tp _)) (.cons (.tup (xs := (List.replicate o.hidden.toNat (0 : Int)).map V.int) ?_ (ints_tp _)) (.cons (.tup (s7 _ _ upd_same) (ints_tp _)) .nil)))
      rw [← eh]
      exact s7 _ _ (s6 _ _ (s5 _ _ ht2))
end
end My
set_option Elab.async false
set_option linter.all false
set_option maxRecDepth 100000
set_option maxHeartbeats 4000000
namespace My
open PySem L2 TL
section
variable {P : Program} {w : World} {K : PySem.W.Frag} {mg : Str → Option Value} {base : Heap}
theorem scDiffers : FnScope NDf ["machine", "meaning", "program"] (defScope sDiffers) := ⟨rfl, rfl, rfl, by decide +kernel, rfl, by decide +kernel, by decide +kernel⟩
/-- the defs that differs calls -/
structure DfF (K : PySem.W.Frag) (mg : Str → Option Value) where
  DP : DfP K mg
  meant : Df K mg "meant" sMeant ["machine", "meaning", "state"]
  rd : Df K mg "row_done" sRD ["machine", "state", "orders"]
  stray : Df K mg "stray_cell" sStray ["machine", "state", "orders"]
  run : Df K mg "run" sRun ["machine", "program", "state"]
  visB : Df K mg "visible_behind" sVisB ["machine", "program", "state"]
  stateOf : Df K mg "state_of" sStateOf ["machine", "number"]
theorem pow12 {n : Nat} (h : n ≤ 12) : (1 : Int) * 2 ^ n = ((2 ^ n : Nat) : Int) ∧ 2 ^ n ≤ 4096 := by
  refine ⟨by rw [Int.one_mul, Int.natCast_pow]; rfl, ?_⟩
  exact Nat.le_trans (Nat.pow_le_pow_right (by decide) h) (by decide)
theorem bits_eq {o : OwnD} (hO : OwnOk o) : o.bits * (((o.names.map V.str).length : Int) + o.cells) = ((bitsN o : Nat) : Int) ∧ allN o ≤ 1000 := by
  have h1 := hO.bits
  have h2 := hO.cells
  obtain ⟨m, nm, m1, m6⟩ := hO.names
  have tp := top_pos hO
  have eT := top2_eq o
  have eA := allN_eq o
  have e1 : ((o.bits.toNat : Nat) : Int) = o.bits := by omega
  have e2 : ((allN o : Nat) : Int) = ((o.names.map V.str).length : Int) + o.cells := by rw [List.length_map, eA]; omega
  refine ⟨?_, ?_⟩
  · show _ = ((o.bits.toNat * allN o : Nat) : Int)
    rw [Int.natCast_mul, e1, e2]
  · have := nm.len
    omega
theorem ok_differs {f : Addr} {fd : FuncData} (F : Fun K "differs" "differs" sDiffers f fd) (D : DfF K mg) (MB : MostB mg) (B : Bl mg) : FnOk P w K mg base CX0 11 f fd ["machine", "meaning", "program"] spDiffers := by
  have GS : FnOk P w K mg base CX0 2 D.stateOf.f D.stateOf.fd ["machine", "number"] spStateOf := ok_stateOf D.stateOf.F D.DP.limit B
  have GV : FnOk P w K mg base CX0 4 D.visB.f D.visB.fd ["machine", "program", "state"] spVisB := ok_visB D.visB.F D.run D.rd D.stray B
  have GM : FnOk P w K mg base CX0 10 D.meant.f D.meant.fd ["machine", "meaning", "state"] spMeant := ok_meant D.meant.F D.DP B
  obtain ⟨mt, hmb⟩ := MB.m
  refine F.ok scDiffers (fun vs H Q E h => ?_) (fun cdv A outer s H vs Q E hr h => ?_)
  · obtain ⟨p, a, g, o, pl, rfl, _⟩ := h
    rfl
  · obtain ⟨p, a, g, o, pl, rfl, hP, hO, hA, hK, hG, hb12, q1, q2⟩ := h
    have hr2 : Room 2 _ := hr.mono (by decide)
    have hr4 : Room 4 _ := hr.mono (by decide)
    refine ⟨_, pss_cons (ps_set (i := 3) scDiffers.nd rfl (Or.inl rfl) (pe_op op_mul (pe_ix ix_tup (pv 0) pe_int (fun _ _ => rfl)) (pe_op op_add (pe_callB call_len_seq (by rfl) B.len PySem.boot_len (pa_cons (pe_ix ix_tup (pv 0) pe_int (fun _ _ => rfl)) pa_nil)) (pe_ix ix_tup (pv 0) pe_int (fun _ _ => rfl)))))
      (pss_cons (ps_if (pt_cmpR op_gt (pv 3) (pe_glob (v := .int 12) rfl hmb ⟨_, rfl⟩) (nomark _)) (pss_one ps_never) pss_nil)
      (pss_cons (ps_for PassesOwn.never rfl (pi_range1 rfl B.range (pa_cons (pe_op op_shl pe_int (pv 3)) pa_nil)) (pg_name (i := 4) scDiffers.nd rfl (Or.inl rfl))
        (pss_cons (ps_set (i := 5) scDiffers.nd rfl (Or.inl rfl) (pe_call GS hr2 rfl D.stateOf.m D.stateOf.F.kp D.stateOf.b .nil pass0 (pa_cons (pv 0) (pa_cons (pv 4) pa_nil))))
        (pss_one (ps_if (pt_cmpR (op_neD hr.units) (pe_call GV hr4 rfl D.visB.m D.visB.F.kp D.visB.b .nil pass0 (pa_cons (pv 0) (pa_cons (pv 2) (pa_cons (pv 5) pa_nil)))) (pe_call GM hr rfl D.meant.m D.meant.F.kp D.meant.b .nil pass0 (pa_cons (pv 0) (pa_cons (pv 1) (pa_cons (pv 5) pa_nil)))) (nomark _)) (pss_one (ps_ret (pv 5))) pss_nil))))
      (pss_one (ps_ret pe_non)))), ?read⟩
    case read =>
      obtain ⟨qA, hp, hq⟩ := own_inv hP
      obtain ⟨eB, aN⟩ := bits_eq hO
      have hbt := hO.bits
      obtain ⟨eP, p4⟩ := pow12 hb12
      refine seq_cut (fun σ' H' => σ' = [some (.ref p), some (.ref a), some (.ref g), some (.int ((bitsN o : Nat) : Int)), none, none] ∧ H' = H) (fun nx imp => ?_) ?_
      · exact ⟨_, rfl, p, _, _, _, rfl, rfl, SqT.of hp, at0, _, rfl, p, _, _, _, rfl, rfl, SqT.of hp, rfl, qA, _, rfl, .inr (SqT.of hq), _, rfl, p, _, _, _, rfl, rfl, SqT.of hp, rfl, _, _, rfl, rfl, _, _, rfl, rfl, .inl ⟨by omega, by omega⟩, imp _ _ ⟨by rw [← eB]; rfl, rfl⟩⟩
      rintro σ H0 ⟨rfl, eH⟩
      subst eH
      refine ⟨_, rfl, _, _, rfl, rfl, _, rfl, ?_⟩
      rw [decide_eq_false (by omega)]
      refine iteF ?_
      generalize hN : 2 ^ bitsN o = N at *
      refine ⟨_, rfl, _, _, rfl, rfl, ⟨by omega, by omega, by omega⟩, ((N : Nat) : Int), ?_, by omega, by omega, ?_⟩
      · show [V.int (1 * 2 ^ (((bitsN o : Nat) : Int)).toNat)] = _
        rw [Int.toNat_natCast, eP]
      rw [Int.toNat_natCast]
      have sz : ∀ n, (stOf o n).vis.length ≤ 1000 ∧ (stOf o n).hid.length ≤ 1000 ∧ (stOf o n).mem.length ≤ 1000 := fun n => by
        have k := stOf_ok hO n
        have hh := hO.hidden
        have eA := allN_eq o
        rw [k.vis, k.hid, k.mem]
        omega
      refine for_range (lo := 0) (n := N) (fun i σ H' => ∃ v4 v5, σ = [some (.ref p), some (.ref a), some (.ref g), some (.int ((bitsN o : Nat) : Int)), v4, v5] ∧ Same H0 H' ∧ ∀ m < i, ¬ difAt o pl m) ⟨none, none, rfl, (fun _ _ z => z), fun m hm => absurd hm (Nat.not_lt_zero m)⟩ ?_ ?_
      · rintro i σ H1 hi ⟨v4, v5, rfl, s1, hno⟩
        have e0 : (0 : Int) + (i : Nat) = (i : Nat) := by omega
        rw [e0]
        refine ⟨_, rfl, _, rfl, p, o, i, rfl, hP.keep (KeepT.of s1), hO, aN, by omega, fun sA H2 s2 T2 => ?_⟩
        have s12 := s1.trans s2
        obtain ⟨l1, l2, l3⟩ := sz i
        refine ⟨_, rfl, _, rfl, _, rfl, .ref p, sA, g, stOf o i, rfl, T2, hG.keep (KeepT.of s12), l1, l2, l3, fun r1 H3 s3 T3 => ?_⟩
        have s13 := s12.trans s3
        refine ⟨_, rfl, _, rfl, _, rfl, p, a, sA, o, stOf o i, pl, rfl, hP.keep (KeepT.of s13), hO, hA.keep (KeepT.of s13), hK, T2.keep (KeepT.of s3), stOf_ok hO i, fun r2 H4 s4 T4 => ?_⟩
        refine ⟨_, _, (T3.keep (KeepT.of s4)).dp, T4.dp, shaped_two _ _, shaped_mean _ _ _, _, rfl, ?_⟩
        have s14 := s13.trans s4
        by_cases hd : difAt o pl i
        · have : PyData.eqv (.tuple [intsD (stOf o i).vis, intsD (stOf o i).mem]) (meanD o (stOf o i) pl) = false := by
            cases e : PyData.eqv (.tuple [intsD (stOf o i).vis, intsD (stOf o i).mem]) (meanD o (stOf o i) pl) with
            | false => rfl
            | true => exact absurd ((eqv_mean _ _ _ _ _).mp e) hd
          rw [this]
          exact iteT ⟨_, rfl, q1 i _ H4 s14 hi hd hno (T2.keep (KeepT.of (s3.trans s4)))⟩
        · have hd' : meanD o (stOf o i) pl = .tuple [intsD (stOf o i).vis, intsD (stOf o i).mem] := Classical.not_not.mp hd
          rw [(eqv_mean _ _ _ _ _).mpr hd']
          refine iteF ⟨_, _, rfl, s14, fun m hm => ?_⟩
          rcases Nat.lt_succ_iff_lt_or_eq.mp hm with z | z
          · exact hno m z
          · rw [z]; exact hd
      · rintro σ H1 ⟨v4, v5, rfl, s1, hno⟩
        exact q2 H1 s1 hno
/-- more bits than are gone through: told by TooMany, the class at C -/
theorem ok_difBad {C : Addr} (hC : mg "TooMany" = some (.ref C)) (hx : PySem.W.excIn K C [.type "ValueError", .type "Exception", .type "BaseException", .type "object"] "ValueError.__new__" = true) {f : Addr} {fd : FuncData} (F : Fun K "differs" "differs" sDiffers f fd) (MB : MostB mg) (B : Bl mg) :
    FnOk P w K mg base (CXE P w) 11 f fd ["machine", "meaning", "program"] (spDifBad C) := by
  obtain ⟨mt, hmb⟩ := MB.m
  refine F.okE scDiffers (fun vs H Q E h => ?_) (fun cdv A outer s H vs Q E hr h => ?_)
  · obtain ⟨p, a, g, o, rfl, _⟩ := h
    rfl
  · obtain ⟨p, a, g, o, rfl, hP, hO, hb, hb2, qq⟩ := h
    refine ⟨_, pss_cons (ps_set (i := 3) scDiffers.nd rfl (Or.inl rfl) (pe_op op_mul (pe_ix ix_tup (pv 0) pe_int (fun _ _ => rfl)) (pe_op op_add (pe_callB call_len_seq (by rfl) B.len PySem.boot_len (pa_cons (pe_ix ix_tup (pv 0) pe_int (fun _ _ => rfl)) pa_nil)) (pe_ix ix_tup (pv 0) pe_int (fun _ _ => rfl)))))
      (pss_cons (ps_if (pt_cmpR op_gt (pv 3) (pe_glob (v := .int 12) rfl hmb ⟨_, rfl⟩) (nomark _))
        (pss_one (ps_raise (E := E) PySem.F.excBase_ValueError rfl rfl hC hx (pa_cons (pe_fstr (pf_fmt (pv 3) (pf_str (pf_fmt (pe_glob (v := .int 12) rfl hmb ⟨_, rfl⟩) pf_nil)))) pa_nil) (fun pins σ H s h' e vs I m hE => raise_xe I m hE))) pss_nil)
      pss_never), ?read⟩
    case read =>
      obtain ⟨qA, hp, hq⟩ := own_inv hP
      obtain ⟨eB, aN⟩ := bits_eq hO
      have hbt := hO.bits
      refine seq_cut (fun σ' H' => σ' = [some (.ref p), some a, some g, some (.int ((bitsN o : Nat) : Int)), none, none] ∧ H' = H) (fun nx imp => ?_) ?_
      · exact ⟨_, rfl, p, _, _, _, rfl, rfl, SqT.of hp, at0, _, rfl, p, _, _, _, rfl, rfl, SqT.of hp, rfl, qA, _, rfl, .inr (SqT.of hq), _, rfl, p, _, _, _, rfl, rfl, SqT.of hp, rfl, _, _, rfl, rfl, _, _, rfl, rfl, .inl ⟨by omega, by omega⟩, imp _ _ ⟨by rw [← eB]; rfl, rfl⟩⟩
      rintro σ H0 ⟨rfl, eH⟩
      subst eH
      refine ⟨_, rfl, _, _, rfl, rfl, _, rfl, ?_⟩
      rw [decide_eq_true (by omega)]
      refine iteT ?_
      have lb := len_small ((bitsN o : Nat) : Int) (by omega) (by omega)
      have l12 := len_small 12 (by decide) (by decide)
      have sl : (3000 : Nat) ≤ sizeLine := by rw [sizeLine_eq]; decide
      have lt : (Str.ofString " bits are more than ").length = 20 := by decide +kernel
      have l0 : Str.empty.length = 0 := rfl
      refine ⟨_, rfl, toString ((bitsN o : Nat) : Int), ⟨log_sm8 _ (by omega) (by omega), rfl⟩, by omega, ?_, ?_, toString (12 : Int), ⟨log_sm8 _ (by decide) (by decide), rfl⟩, by omega, ?_, ?_, ?_⟩
      · rw [Str.length_append]; omega
      · rw [Str.length_append, Str.length_append]; omega
      · rw [Str.length_append, Str.length_append, Str.length_append]; omega
      · rw [Str.length_append, Str.length_append, Str.length_append]; omega
      · exact ⟨(by show 1 ≤ sizeLine; decide), qq _ fun _ _ e => e⟩
end
end My
set_option Elab.async false
set_option linter.all false
set_option maxRecDepth 100000
set_option maxHeartbeats 4000000
namespace My
open PySem L2 TL
abbrev sMachine : Stmt := top 28
abbrev sTermL : Stmt := top 29
abbrev sCase : Stmt := top 30
abbrev sRefused : Stmt := top 31
abbrev sLaw : Stmt := top 32
def nm3 : List Str := [Str.ofString "b", Str.ofString "a", Str.ofString "cc"]
theorem nm3_ok {m : Nat} (h1 : 1 ≤ m) (h3 : m ≤ 3) : NamesOk m (nm3.take m) := by
  obtain rfl | rfl | rfl : m = 1 ∨ m = 2 ∨ m = 3 := by omega
  all_goals
    refine ⟨rfl, by decide +kernel, fun x hx => ?_⟩
    have hx := List.mem_of_mem_take hx
    have : ∀ x ∈ nm3, isNameB x = true := by decide +kernel
    exact this x hx
def spMachine : Sp := fun vs H Q _ => ∃ (k : Addr) (most : Int) (n : Nat), vs = [.ref k, .int most] ∧ Sack H k n ∧ n < 1000 ∧ 8 ≤ most ∧ most ≤ 12 ∧
  ∀ (a : Addr) (o : OwnD) (H' : Hp), SameBut k H H' → Sack H' k (n + 10) → Tp H' (.ref a) (ownD o) → OwnOk o → bitsN o ≤ 12 → 1 ≤ o.names.length → allN o ≤ 12 → Q (.ref a) H'
def spTermL : Sp := fun vs H Q _ => ∃ (p : Addr) (o : OwnD) (i : Nat), vs = [.ref p, .int i] ∧ Tp H (.ref p) (ownD o) ∧ OwnOk o ∧ i < allN o ∧ ∀ (a : Addr) (H' : Hp), Same H H' → Tp H' (.ref a) (trmD (termAt o i)) → Q (.ref a) H'
abbrev NMc : List Str := ["bag", "most", "bits", "words", "many", "cells"]
abbrev NTl : List Str := ["machine", "at", "many"]
section
variable {P : Program} {w : World} {K : PySem.W.Frag} {mg : Str → Option Value} {base : Heap}
theorem scMachine : FnScope NMc ["bag", "most"] (defScope sMachine) := ⟨rfl, rfl, rfl, by decide +kernel, rfl, by decide +kernel, by decide +kernel⟩
theorem ok_machine {f : Addr} {fd : FuncData} (F : Fun K "_law_machine" "_law_machine" sMachine f fd) (dP : Df K mg "_law_draw" sPull ["bag", "many"]) (B : Bl mg) : FnOk P w K mg base CX0 2 f fd ["bag", "most"] spMachine := by
  have GP : FnOk P w K mg base CX0 1 dP.f dP.fd ["bag", "many"] spPull := ok_pull dP.F
  refine F.ok scMachine (fun vs H Q E h => ?_) (fun cdv A outer s H vs Q E hr h => ?_)
  · obtain ⟨k, most, n, rfl, _⟩ := h
    rfl
  · obtain ⟨k, most, n, rfl, S0, hn, m8, m12, q⟩ := h
    refine ⟨_, pss_cons (ps_set (i := 2) scMachine.nd rfl (Or.inl rfl) (pe_op op_add pe_int (pe_call GP hr rfl dP.m dP.F.kp dP.b .nil pass0 (pa_cons (pv 0) (pa_cons pe_int pa_nil)))))
      (pss_cons (ps_set (i := 3) scMachine.nd rfl (Or.inl rfl) (pe_callB (call_max2 rfl) (by rfl) B.max (by decide +kernel) (pa_cons pe_int (pa_cons (pe_op op_fdiv (pv 1) (pv 2)) pa_nil))))
      (pss_cons (ps_set (i := 4) scMachine.nd rfl (Or.inl rfl) (pe_op op_add pe_int (pe_call GP hr rfl dP.m dP.F.kp dP.b .nil pass0 (pa_cons (pv 0) (pa_cons (pe_callB (call_min2 rfl) (by rfl) B.min (by decide +kernel) (pa_cons (pv 3) (pa_cons pe_int pa_nil))) pa_nil)))))
      (pss_cons (ps_set (i := 5) scMachine.nd rfl (Or.inl rfl) (pe_call GP hr rfl dP.m dP.F.kp dP.b .nil pass0 (pa_cons (pv 0) (pa_cons (pe_op op_add (pe_callB (call_min2 rfl) (by rfl) B.min (by decide +kernel) (pa_cons (pe_op op_sub (pv 3) (pv 4)) (pa_cons (pe_op op_shl pe_int (pv 2)) pa_nil))) pe_int) pa_nil))))
      (pss_one (ps_ret (pe_tup (pa_cons (pv 2) (pa_cons (pe_slice sl_tupH (pe_tup (pa_cons pe_str (pa_cons pe_str (pa_cons pe_str pa_nil)))) po_none (po_some (pv 4))) (pa_cons (pe_call GP hr rfl dP.m dP.F.kp dP.b .nil pass0 (pa_cons (pv 0) (pa_cons pe_int pa_nil))) (pa_cons pe_int (pa_cons pe_int (pa_cons (pv 5) pa_nil)))))))))))), ?read⟩
    case read =>
      -- bits
      refine seq_cut (fun σ' H' => ∃ b : Int, σ' = [some (.ref k), some (.int most), some (.int b), none, none, none] ∧ Sack H' k (n + 1) ∧ SameBut k H H' ∧ 1 ≤ b ∧ b ≤ 8) (fun nx imp => ?_) ?_
      · exact ⟨_, rfl, k, 8, n, rfl, S0, by omega, by decide, by decide, fun r H1 a1 b1 sb1 S1 => ⟨_, _, rfl, rfl, imp _ _ ⟨1 + r, rfl, S1, sb1, by omega, by omega⟩⟩⟩
      rintro σ H1 ⟨b, rfl, S1, sb1, b1, b8⟩
      -- words
      refine seq_cut (fun σ' H' => ∃ wd : Int, σ' = [some (.ref k), some (.int most), some (.int b), some (.int wd), none, none] ∧ H' = H1 ∧ 1 ≤ wd ∧ wd ≤ 12 ∧ b * wd ≤ 12) (fun nx imp => ?_) ?_
      · refine ⟨_, rfl, _, rfl, _, _, rfl, rfl, ⟨by omega, by omega⟩, _, _, rfl, imp _ _ ⟨_, rfl, rfl, ?_⟩⟩
        obtain ⟨bn, rfl⟩ : ∃ bn : Nat, b = bn := ⟨b.toNat, by omega⟩
        obtain ⟨mn, rfl⟩ : ∃ mn : Nat, most = mn := ⟨most.toNat, by omega⟩
        have key : ∀ m, m ≤ 12 → 8 ≤ m → ∀ b, b ≤ 8 → 1 ≤ b → 1 ≤ max 1 (m / b) ∧ max 1 (m / b) ≤ 12 ∧ b * max 1 (m / b) ≤ 12 := by decide +kernel
        have h := key mn (by omega) (by omega) bn (by omega) (by omega)
        have e : (if ((mn : Nat) : Int) / ((bn : Nat) : Int) > 1 then ((mn : Nat) : Int) / ((bn : Nat) : Int) else 1) = ((max 1 (mn / bn) : Nat) : Int) := by
          rw [← Int.natCast_ediv]
          split <;> omega
        rw [e]
        refine ⟨by omega, by omega, ?_⟩
        rw [← Int.natCast_mul]
        omega
      rintro σ H1' ⟨wd, rfl, eH, w1, w12, bw⟩
      subst eH
      -- many
      refine seq_cut (fun σ' H' => ∃ m : Int, σ' = [some (.ref k), some (.int most), some (.int b), some (.int wd), some (.int m), none] ∧ Sack H' k (n + 2) ∧ SameBut k H1' H' ∧ 1 ≤ m ∧ m ≤ 3 ∧ m ≤ wd) (fun nx imp => ?_) ?_
      · refine ⟨_, rfl, _, rfl, _, _, rfl, k, _, n + 1, rfl, S1, by omega, by split <;> omega, by split <;> omega, fun r H2 a2 b2 sb2 S2 => ⟨_, _, rfl, rfl, imp _ _ ⟨1 + r, rfl, S2, sb2, by omega, ?_, ?_⟩⟩⟩
        · split at b2 <;> omega
        · split at b2 <;> omega
      rintro σ H2 ⟨m, rfl, S2, sb2, m1, m3, mw⟩
      have tp := pow_rng b.toNat (by omega) (by omega)
      rw [Int.one_mul] at tp
      -- cells
      refine seq_cut (fun σ' H' => ∃ c : Int, σ' = [some (.ref k), some (.int most), some (.int b), some (.int wd), some (.int m), some (.int c)] ∧ Sack H' k (n + 3) ∧ SameBut k H2 H' ∧ 0 ≤ c ∧ c ≤ wd - m ∧ c ≤ 2 ^ b.toNat) (fun nx imp => ?_) ?_
      · have e1 : (1 : Int) * 2 ^ b.toNat = 2 ^ b.toNat := Int.one_mul _
        refine ⟨_, rfl, _, rfl, _, rfl, _, _, rfl, rfl, _, rfl, _, _, rfl, rfl, ⟨by omega, by omega, by omega⟩, _, _, rfl, _, _, rfl, rfl, k, _, n + 2, rfl, S2, by omega, by split <;> omega, by split <;> omega, fun r H3 a3 b3 sb3 S3 => imp _ _ ⟨r, rfl, S3, sb3, a3, ?_, ?_⟩⟩
        · split at b3 <;> omega
        · split at b3 <;> omega
      rintro σ H3 ⟨c, rfl, S3, sb3, c0, cw, ct⟩
      refine ⟨_, rfl, (by show 3 ≤ sizeLine; decide), fun t1 ht1 => ?_⟩
      have s1 := same_new ht1 (.tup (nm3.map V.str))
      refine ⟨_, rfl, _, rfl, t1, nm3.map V.str, rfl, upd_same, fun t2 H4 s4 ht2 => ?_⟩
      have s14 := s1.trans s4
      obtain ⟨mn, rfl⟩ : ∃ mn : Nat, m = mn := ⟨m.toNat, by omega⟩
      rw [cutV_to, ← List.map_take] at ht2
      refine ⟨_, rfl, k, 4, n + 3, rfl, S3.same s14, by omega, by decide, by decide, fun r H5 a5 b5 sb5 S5 => ⟨_, rfl, (by show 6 ≤ sizeLine; decide), fun a ha => ?_⟩⟩
      have nk2 : t2 ≠ k := by
        have S4 := S3.same s14
        obtain ⟨_, _, z, _⟩ := S4
        intro e
        rw [e, z] at ht2
        cases ht2
      have sA := same_new ha (.tup [V.int b, V.ref t2, V.int r, V.int 1, V.int 1, V.int c])
      have nmk := nm3_ok (m := mn) (by omega) (by omega)
      have nl : (nm3.take mn).length = mn := nmk.len
      refine q a ⟨b, nm3.take mn, r, 1, 1, c⟩ _ (sb1.trans (sb2.trans (sb3.trans (s14.but.trans (sb5.trans sA.but))))) ((S5.same sA).mono (by omega)) ?_ ⟨⟨b1, b8⟩, ⟨mn, nmk, by omega, by omega⟩, ⟨a5, by show r ≤ 12; omega⟩, ⟨(by show (1 : Int) ≤ 1; decide), (by show (1 : Int) ≤ 3; decide)⟩, ⟨(by show (1 : Int) ≤ 1; decide), (by show (1 : Int) ≤ 3; decide)⟩, ⟨c0, ct⟩⟩ ?_ (by show 1 ≤ (nm3.take mn).length; omega) ?_
      · refine .tup upd_same (.cons (.int _) (.cons (.tup (sA _ _ (sb5 _ _ ht2 nk2)) ?_) (.cons (.int _) (.cons (.int _) (.cons (.int _) (.cons (.int _) .nil))))))
        exact TpAll.strs _
      · show b.toNat * ((nm3.take mn).length + c.toNat) ≤ 12
        rw [nl]
        have e : ((b.toNat * (mn + c.toNat) : Nat) : Int) = b * (mn + c) := by
          rw [Int.natCast_mul, Int.natCast_add, Int.toNat_of_nonneg (by omega), Int.toNat_of_nonneg c0]
        have le : b * ((mn : Int) + c) ≤ b * wd := Int.mul_le_mul_of_nonneg_left (by omega) (by omega)
        omega
      · show (nm3.take mn).length + c.toNat ≤ 12
        omega
theorem scTermL : FnScope NTl ["machine", "at"] (defScope sTermL) := ⟨rfl, rfl, rfl, by decide +kernel, rfl, by decide +kernel, by decide +kernel⟩
theorem ok_termL {f : Addr} {fd : FuncData} (F : Fun K "_law_term" "_law_term" sTermL f fd) (B : Bl mg) : FnOk P w K mg base CX0 1 f fd ["machine", "at"] spTermL := by
  refine F.ok scTermL (fun vs H Q E h => ?_) (fun cdv A outer s H vs Q E hr h => ?_)
  · obtain ⟨p, o, i, rfl, _⟩ := h
    rfl
  · obtain ⟨p, o, i, rfl, hP, hO, hi, q⟩ := h
    refine ⟨_, pss_cons (ps_set (i := 2) scTermL.nd rfl (Or.inl rfl) (pe_callB call_len_seq (by rfl) B.len PySem.boot_len (pa_cons (pe_ix ix_tup (pv 0) pe_int (fun _ _ => rfl)) pa_nil)))
      (pss_cons (ps_if (pt_cmpR op_lt (pv 1) (pv 2) (nomark _)) (pss_one (ps_ret (pe_tup (pa_cons pe_str (pa_cons (pe_ix ix_tup (pe_ix ix_tup (pv 0) pe_int (fun _ _ => rfl)) (pv 1) (fun _ _ => rfl)) pa_nil))))) pss_nil)
      (pss_one (ps_ret (pe_tup (pa_cons pe_str (pa_cons (pe_tup (pa_cons pe_str (pa_cons (pe_op op_sub (pv 1) (pv 2)) pa_nil))) pa_nil)))))), ?read⟩
    case read =>
      obtain ⟨qA, hp, hq⟩ := own_inv hP
      refine ⟨_, rfl, p, _, _, _, rfl, rfl, SqT.of hp, rfl, qA, _, rfl, .inr (SqT.of hq), ?_⟩
      refine ⟨_, rfl, _, rfl, _, _, rfl, rfl, _, rfl, ?_⟩
      have nl : ((o.names.map V.str).length : Int) = (o.names.length : Nat) := by rw [List.length_map]
      by_cases hl : i < o.names.length
      · rw [decide_eq_true (show ((i : Nat) : Int) < ((o.names.map V.str).length : Int) by omega)]
        have hat : atI (o.names.map V.str) ((i : Nat) : Int) = some (.str (o.names.getD i (Str.ofString ""))) := by
          refine atI_nat ?_
          rw [List.getElem?_map, List.getD_eq_getElem?_getD, List.getElem?_eq_getElem hl]
          rfl
        refine iteT ⟨_, rfl, p, _, _, _, rfl, rfl, SqT.of hp, rfl, _, rfl, qA, _, _, _, rfl, rfl, SqT.of hq, hat, (by show 2 ≤ sizeLine; decide), fun a ha => ?_⟩
        refine q a _ (same_new ha _) ?_
        unfold termAt
        rw [if_pos hl]
        exact .tup upd_same (.cons (.str _) (.cons (.str _) .nil))
      · rw [decide_eq_false (show ¬ ((i : Nat) : Int) < ((o.names.map V.str).length : Int) by omega)]
        refine iteF ⟨_, rfl, _, rfl, _, _, rfl, rfl, (by show 2 ≤ sizeLine; decide), fun a1 h1 => ⟨(by show 2 ≤ sizeLine; decide), fun a ha => ?_⟩⟩
        have s1 := same_new h1 (.tup [V.str (Str.ofString "num"), V.int (((i : Nat) : Int) - ((o.names.map V.str).length : Int))])
        have s2 := same_new ha (.tup [V.str (Str.ofString "load"), V.ref a1])
        refine q a _ (s1.trans s2) ?_
        unfold termAt
        rw [if_neg hl]
        rw [nl] at s2 ⊢
        exact .tup upd_same (.cons (.str _) (.cons (.tup (s2 _ _ upd_same) (.cons (.str _) (.cons (.int _) .nil))) .nil))
end
end My
set_option Elab.async false
set_option linter.all false
set_option maxRecDepth 100000
set_option maxHeartbeats 4000000
namespace My
open PySem L2 TL
theorem erase_map8 {α β : Type} (f : α → β) : ∀ (l : List α) (i : Nat), (l.map f).eraseIdx i = (l.eraseIdx i).map f
  | [], _ => rfl
  | _ :: _, 0 => rfl
  | x :: r, i + 1 => by
    show f x :: (r.map f).eraseIdx i = f x :: (r.eraseIdx i).map f
    rw [erase_map8 f r i]
theorem erase_perm8 {α : Type} : ∀ (l : List α) (i : Nat) (h : i < l.length), (l[i] :: l.eraseIdx i).Perm l
  | _ :: _, 0, _ => .refl _
  | x :: r, i + 1, h => ((List.Perm.swap _ _ _).trans ((erase_perm8 r i (Nat.lt_of_succ_lt_succ h)).cons x))
theorem sack_upd8 {H : Hp} {k b : Addr} {n : Nat} {o : HO} (h : Sack H k n) (e : b ≠ k) : Sack (upd H b o) k n := by
  obtain ⟨x1, x2, hk6, zz⟩ := h
  exact ⟨x1, x2, by rw [upd_ne e.symm]; exact hk6, zz⟩
theorem sb_new8 {k a : Addr} {H H' : Hp} {o : HO} (h : SameBut k H H') (hn : H a = none) : SameBut k H (upd H' a o) := fun b u e n => by rw [upd_ne (ne_of_none e hn)]; exact h b u e n
theorem kt_upd8 {H : Hp} {l : Addr} {xs ys : List V} (h : H l = some (.lst xs)) : KeepT H (upd H l (.lst ys)) := fun b zs e => by
  have n : b ≠ l := fun z => by
    subst z
    rw [h] at e
    cases e
  rw [upd_ne n]
  exact e
theorem due_init {o : OwnD} {to : Nat} {word : Int} (ht : to < allN o) (hp : (2 : Int) ≤ top2 o) : DueW o to word [] ((List.replicate (allN o) (0 : Int)).set to (if word = 0 then 1 else 0)) := by
  refine ⟨by rw [List.length_set, List.length_replicate], fun x hx => ?_, fun c hc => (nomatch hc), fun i _ => ?_⟩
  · rcases List.mem_or_eq_of_mem_set hx with z | z
    · rw [(List.mem_replicate.mp z).2]; omega
    · rw [z]; split <;> omega
  · by_cases e : i = to
    · subst e
      rw [if_pos rfl, List.getD_eq_getElem?_getD, List.getElem?_set_self (by rw [List.length_replicate]; exact ht)]
      rfl
    · rw [if_neg e, List.getD_eq_getElem?_getD, List.getElem?_set_ne (fun z => e z.symm), List.getElem?_replicate]
      split <;> rfl
theorem due_step {o : OwnD} {to : Nat} {word : Int} {cs : List (Nat × Int)} {W : List Int} (D : DueW o to word cs W) {a : Nat} {x : Int} (ha : a < allN o) (hn : ∀ c ∈ cs, c.1 ≠ a) (h0 : 0 ≤ x ∧ x < top2 o) : DueW o to word ((a, x) :: cs) (W.set a x) := by
  have hl : a < W.length := by rw [D.len]; exact ha
  refine ⟨by rw [List.length_set, D.len], fun y hy => ?_, fun c hc => ?_, fun i hi => ?_⟩
  · rcases List.mem_or_eq_of_mem_set hy with z | z
    · exact D.rng y z
    · rw [z]; exact h0
  · rcases List.mem_cons.mp hc with z | z
    · subst z
      rw [List.getD_eq_getElem?_getD, List.getElem?_set_self hl]
      rfl
    · rw [List.getD_eq_getElem?_getD, List.getElem?_set_ne (fun e => hn c z e.symm), ← List.getD_eq_getElem?_getD]
      exact D.at_ c z
  · have : a ≠ i := fun e => hi (a, x) List.mem_cons_self e
    rw [List.getD_eq_getElem?_getD, List.getElem?_set_ne this, ← List.getD_eq_getElem?_getD]
    exact D.ot i fun c hc => hi c (List.mem_cons_of_mem _ hc)
def spCase : Sp := fun vs H Q _ => ∃ (p k : Addr) (o : OwnD) (n : Nat), vs = [.ref p, .ref k] ∧ Tp H (.ref p) (ownD o) ∧ OwnOk o ∧ Sack H k n ∧ n < 1000 ∧ 1 ≤ o.names.length ∧ allN o ≤ 12 ∧
  ∀ (t a : Addr) (v : V) (to : Nat) (word : Int) (cs : List (Nat × Int)) (W : List Int) (H' : Hp), SameBut k H H' → Sack H' k (n + 20) → H' t = some (.tup [.ref a, v]) → Tp H' (.ref a) (plnD (planOf o to word cs)) → to < o.names.length → 0 ≤ word ∧ word < top2 o → (∀ c ∈ cs, c.1 < allN o ∧ 0 ≤ c.2 ∧ c.2 < top2 o) → DueW o to word cs W →
    (¬ W.getD to 0 = word → Tp H' v (wdD ⟨W.take o.names.length, List.replicate o.hidden.toNat 0, W.drop o.names.length⟩)) → (W.getD to 0 = word → v = .non) → Q (.ref t) H'
abbrev rLenK (K : PySem.W.Frag) : List V → Hp → VK → Prop := fun xs H Q => ∃ p ys, xs = [.ref p] ∧ (SqL K H p ys ∨ SqT K H p ys) ∧ Q (.int ys.length) H
abbrev NCs : List Str := ["machine", "bag", "many", "every", "left", "k", "places", "to", "word", "meaning", "words", "at", "test", "due"]
section
variable {P : Program} {w : World} {K : PySem.W.Frag} {mg : Str → Option Value} {base : Heap}
theorem scCase : FnScope NCs ["machine", "bag"] (defScope sCase) := ⟨rfl, rfl, rfl, by decide +kernel, rfl, by decide +kernel, by decide +kernel⟩
theorem ok_case {f : Addr} {fd : FuncData} (F : Fun K "_law_case" "_law_case" sCase f fd) (dP : Df K mg "_law_draw" sPull ["bag", "many"]) (dT : Df K mg "_law_term" sTermL ["machine", "at"]) (B : Bl mg) : FnOk P w K mg base CX0 2 f fd ["machine", "bag"] spCase := by
  have GP : FnOk P w K mg base CX0 1 dP.f dP.fd ["bag", "many"] spPull := ok_pull dP.F
  have GT : FnOk P w K mg base CX0 1 dT.f dT.fd ["machine", "at"] spTermL := ok_termL dT.F B
  refine F.ok scCase (fun vs H Q E h => ?_) (fun cdv A outer s H vs Q E hr h => ?_)
  · obtain ⟨p, k, o, n, rfl, _⟩ := h
    rfl
  · obtain ⟨p, k, o, n, rfl, hP, hO, S0, hn, n1, a12, q⟩ := h
    refine ⟨_, pss_cons (ps_set (i := 2) scCase.nd rfl (Or.inl rfl) (pe_callB call_len_seq (by rfl) B.len PySem.boot_len (pa_cons (pe_ix ix_tup (pv 0) pe_int (fun _ _ => rfl)) pa_nil)))
      (pss_cons (ps_set (i := 3) scCase.nd rfl (Or.inl rfl) (pe_op op_add (pv 2) (pe_ix ix_tup (pv 0) pe_int (fun _ _ => rfl))))
      (pss_cons (ps_set (i := 4) scCase.nd rfl (Or.inr rfl) (pe_callTy (call_list_rng rfl) (by rfl) B.list (by decide +kernel) (pa_cons (pe_rng rfl B.range (pa_cons (pv 3) pa_nil)) pa_nil)))
      (pss_cons (ps_setLc (i := 6) (own := [("k", 5)]) (g := gName 5) (te := tBM K "list" rPopAt (tVar 4) (tCons (tCall spPull [] E0 (tCons (tVar 1) (tCons (tCB (rLenK K) (tCons (tVar 4) tNil)) tNil))) tNil)) (by rfl) scCase.nd rfl rfl (sw_true (by rfl) (by rfl) (by rfl) (by rfl))
        (pi_range1 rfl B.range (pa_cons (pe_op op_add pe_int (pe_call GP hr rfl dP.m dP.F.kp dP.b .nil pass0 (pa_cons (pv 1) (pa_cons (pe_callB (call_min2 rfl) (by rfl) B.min (by decide +kernel) (pa_cons pe_int (pa_cons (pv 3) pa_nil))) pa_nil)))) pa_nil)) (blkOk_by (own := [("k", 5)]) (N := NCs) (sc := defScope sCase) (by decide +kernel))
        (fun _ _ _ _ _ => pg_name (i := 5) scCase.nd rfl (Or.inl rfl)) (fun _ _ _ _ _ => pts_nil)
        (fun _ _ _ _ _ => pe_bm PySem.F.plainAttrs_list PySem.F.slot_list_pop PySem.F.type_list_pop mt_popAt (pv 4) (pa_cons (pe_call GP hr rfl dP.m dP.F.kp dP.b .nil pass0 (pa_cons (pv 1) (pa_cons (pe_callB call_len_seq (by rfl) B.len PySem.boot_len (pa_cons (pv 4) pa_nil)) pa_nil))) pa_nil)))
      (pss_cons (ps_set (i := 7) scCase.nd rfl (Or.inl rfl) (pe_call GP hr rfl dP.m dP.F.kp dP.b .nil pass0 (pa_cons (pv 1) (pa_cons (pv 2) pa_nil))))
      (pss_cons (ps_set (i := 8) scCase.nd rfl (Or.inl rfl) (pe_call GP hr rfl dP.m dP.F.kp dP.b .nil pass0 (pa_cons (pv 1) (pa_cons (pe_op op_shl pe_int (pe_ix ix_tup (pv 0) pe_int (fun _ _ => rfl))) pa_nil))))
      (pss_cons (ps_set (i := 9) scCase.nd rfl (Or.inl rfl) (pe_tup (pa_cons pe_str (pa_cons (pe_tup (pa_cons (pe_tup (pa_cons (pe_ix ix_tup (pe_ix ix_tup (pv 0) pe_int (fun _ _ => rfl)) (pv 7) (fun _ _ => rfl)) (pa_cons (pe_tup (pa_cons pe_str (pa_cons (pv 8) pa_nil))) pa_nil))) pa_nil)) (pa_cons (pe_tup pa_nil) pa_nil)))))
      (pss_cons (ps_set (i := 10) scCase.nd rfl (Or.inl rfl) (pe_op op_rep (pe_lst (pa_cons pe_int pa_nil)) (pv 3)))
      (pss_cons (ps_asg (pe_callTy call_int1 (by rfl) B.int (by decide +kernel) (pa_cons (pe_cmpR op_eq (pv 8) pe_int (nomark _)) pa_nil)) (pg_sub (pv 10) (pv 7) set_list))
      (pss_cons (ps_for PassesOwn.never rfl (pi_list (pv 6)) (pg_name (i := 11) scCase.nd rfl (Or.inl rfl))
        (pss_cons (ps_asg (pe_call GP hr rfl dP.m dP.F.kp dP.b .nil pass0 (pa_cons (pv 1) (pa_cons (pe_op op_shl pe_int (pe_ix ix_tup (pv 0) pe_int (fun _ _ => rfl))) pa_nil))) (pg_sub (pv 10) (pv 11) set_list))
        (pss_cons (ps_set (i := 12) scCase.nd rfl (Or.inl rfl) (pe_tup (pa_cons pe_str (pa_cons (pe_call GT hr rfl dT.m dT.F.kp dT.b .nil pass0 (pa_cons (pv 0) (pa_cons (pv 11) pa_nil))) (pa_cons (pe_tup (pa_cons pe_str (pa_cons (pe_ix ix_list (pv 10) (pv 11) (fun _ _ => rfl)) pa_nil))) pa_nil)))))
        (pss_one (ps_set (i := 9) scCase.nd rfl (Or.inl rfl) (pe_tup (pa_cons pe_str (pa_cons (pv 12) (pa_cons (pv 9) (pa_cons (pe_tup (pa_cons pe_str (pa_cons (pe_tup pa_nil) (pa_cons (pe_tup pa_nil) pa_nil)))) pa_nil))))))))))
      (pss_cons (ps_set (i := 13) scCase.nd rfl (Or.inl rfl) (pe_tup (pa_cons (pe_callTy call_tuple_of (by rfl) B.tup (by decide +kernel) (pa_cons (pe_slice sl_list (pv 10) po_none (po_some (pv 2))) pa_nil)) (pa_cons (pe_op op_repT (pe_tup (pa_cons pe_int pa_nil)) (pe_ix ix_tup (pv 0) pe_int (fun _ _ => rfl))) (pa_cons (pe_callTy call_tuple_of (by rfl) B.tup (by decide +kernel) (pa_cons (pe_slice sl_list (pv 10) (po_some (pv 2)) po_none) pa_nil)) pa_nil)))))
      (pss_one (ps_ret (pe_tup (pa_cons (pv 9) (pa_cons (pe_ifExp (pt_cmpR op_ne (pe_ix ix_list (pv 10) (pv 7) (fun _ _ => rfl)) (pv 8) (nomark _)) (pv 13) pe_non) pa_nil))))))))))))))), ?read⟩
    case read =>
      obtain ⟨qA, hp, hq⟩ := own_inv hP
      have hbt := hO.bits
      have hcl := hO.cells
      have hhd := hO.hidden
      have tp := top_pos hO
      have eA := allN_eq o
      have eT := top2_eq o
      have nl : ((o.names.map V.str).length : Int) = (o.names.length : Nat) := by rw [List.length_map]
      have nek : ∀ {H1 : Hp} {m : Nat} {b : Addr}, Sack H1 k m → H1 b = none → b ≠ k := fun S hb => by
        obtain ⟨_, _, z, _⟩ := S
        exact (ne_of_none z hb).symm
      have fre : ∀ {H1 : Hp} {b : Addr}, SameBut k H H1 → H1 b = none → b ≠ k → H b = none := fun {H1 b} sb hb nb => by
        cases e : H b with
        | none => rfl
        | some u => rw [sb _ _ e nb] at hb; cases hb
      -- many, every
      refine seq_cut (fun σ' H' => σ' = [some (.ref p), some (.ref k), some (.int (o.names.length : Nat)), none, none, none, none, none, none, none, none, none, none, none] ∧ H' = H) (fun nx imp => ?_) ?_
      · exact ⟨_, rfl, p, _, _, _, rfl, rfl, SqT.of hp, rfl, qA, _, rfl, .inr (SqT.of hq), imp _ _ ⟨by rw [← nl]; rfl, rfl⟩⟩
      rintro σ H0 ⟨rfl, eH⟩
      subst eH
      refine seq_cut (fun σ' H' => σ' = [some (.ref p), some (.ref k), some (.int (o.names.length : Nat)), some (.int (allN o : Nat)), none, none, none, none, none, none, none, none, none, none] ∧ H' = H0) (fun nx imp => ?_) ?_
      · refine ⟨_, rfl, _, rfl, p, _, _, _, rfl, rfl, SqT.of hp, rfl, _, _, rfl, rfl, imp _ _ ⟨?_, rfl⟩⟩
        rw [show ((allN o : Nat) : Int) = (o.names.length : Nat) + o.cells by omega]
        rfl
      rintro σ H1 ⟨rfl, eH⟩
      subst eH
      -- left
      refine seq_cut (fun σ' H' => ∃ lA : Addr, σ' = [some (.ref p), some (.ref k), some (.int (o.names.length : Nat)), some (.int (allN o : Nat)), some (.ref lA), none, none, none, none, none, none, none, none, none] ∧ Same H1 H' ∧ H1 lA = none ∧ H' lA = some (.lst (((List.range (allN o)).map fun (i : Nat) => (i : Int)).map V.int))) (fun nx imp => ?_) ?_
      · refine ⟨_, rfl, (allN o : Nat), rfl, fun r hr => ⟨r, (allN o : Nat), rfl, upd_same, by omega, by omega, fun l hl => ?_⟩⟩
        have sr := same_new hr (.rng 0 (allN o : Nat))
        refine imp _ _ ⟨l, rfl, sr.trans (same_new hl _), sr.free hl, ?_⟩
        rw [upd_same, Int.toNat_natCast, List.map_map]
        rfl
      rintro σ H2 ⟨lA, rfl, s2, flA, hl2⟩
      have S2 := S0.same s2
      have nlAk := nek S0 flA
      -- places
      refine seq_cut (fun σ' H' => ∃ (nA : Addr) (ns : List Int), σ' = [some (.ref p), some (.ref k), some (.int (o.names.length : Nat)), some (.int (allN o : Nat)), some (.ref lA), none, some (.ref nA), none, none, none, none, none, none, none] ∧ Sack H' k (n + 5) ∧ SameBut k H1 H' ∧ H' nA = some (.lst (ns.map V.int)) ∧ nA ≠ k ∧ ns.Nodup ∧ (∀ x ∈ ns, 0 ≤ x ∧ x < (allN o : Nat)) ∧ ns.length ≤ 2) (fun nx imp => ?_) ?_
      · refine ⟨_, rfl, _, rfl, _, _, rfl, k, _, n, rfl, S2, by omega, by split <;> omega, by split <;> omega, fun r1 H3 a1 b1 sb3 S3 => ⟨_, _, rfl, rfl, _, rfl, by omega, by split at b1 <;> omega, fun D0 hD0 => ?_⟩⟩
        have r2 : r1 < 2 := by split at b1 <;> omega
        have rA : r1 < (allN o : Nat) := by split at b1 <;> omega
        have hl3 := sb3 _ _ hl2 nlAk
        have sb13 := s2.but.trans sb3
        have nDk := nek S3 hD0
        have nDl : lA ≠ D0 := ne_of_none hl3 hD0
        have hD00 := fre sb13 hD0 nDk
        refine lc_range (lo := 0) (n := ((1 : Int) + r1).toNat) (fun i H4 => ∃ ns rest : List Int, H4 D0 = some (.lst (ns.map V.int)) ∧ H4 lA = some (.lst (rest.map V.int)) ∧ ns.length = i ∧ rest.length + i = allN o ∧ (ns ++ rest).Perm ((List.range (allN o)).map fun (i : Nat) => (i : Int)) ∧ Sack H4 k (n + 1 + i) ∧ SameBut k H1 H4)
          ⟨[], (List.range (allN o)).map fun (i : Nat) => (i : Int), upd_same, by rw [upd_ne nDl]; exact hl3, rfl, by rw [List.length_map, List.length_range]; rfl, .refl _, S3.same (same_new hD0 _), sb13.trans (SameBut.new hD0)⟩ ?_ ?_
        · rintro i H4 hi ⟨ns, rest, d1, d2, d3, d4, d5, S4, sb4⟩
          have hi : i < allN o := by omega
          refine ⟨rfl, _, rfl, .inl ⟨rfl, _, SqL.of d2⟩, _, rfl, _, rfl, lA, _, rfl, .inl (SqL.of d2), k, _, n + 1 + i, rfl, S4, by omega, (by rw [List.length_map]; omega), (by rw [List.length_map]; omega), fun r5 H5 a5 b5 sb5 S5 => ?_⟩
          have b5' : r5 < (rest.length : Nat) := by rw [List.length_map] at b5; exact b5
          have hr5 : r5.toNat < rest.length := by omega
          have d15 := sb5 _ _ d1 nDk
          have d25 := sb5 _ _ d2 nlAk
          refine ⟨lA, _, r5, r5.toNat, .int rest[r5.toNat], rfl, rfl, d25, by omega, by omega, seqIndex_of a5 b5, (by rw [List.getElem?_map, List.getElem?_eq_getElem hr5]; rfl), ?_⟩
          refine ⟨_, (by rw [upd_ne nDl.symm]; exact d15), ?_, ns ++ [rest[r5.toNat]], rest.eraseIdx r5.toNat, ?_, ?_, ?_, ?_, ?_, ?_, ?_⟩
          · rw [List.length_map]
            exact small1000 (by omega)
          · rw [upd_same, List.map_append]; rfl
          · rw [upd_ne nDl, upd_same, erase_map8]
          · rw [List.length_append, d3]; rfl
          · rw [List.length_eraseIdx, if_pos hr5]
            omega
          · rw [List.append_assoc]
            exact ((erase_perm8 rest r5.toNat hr5).append_left ns).trans d5
          · exact (sack_upd8 (sack_upd8 S5 nlAk) nDk).mono (by omega)
          · exact sb_new8 (sb_new8 (sb4.trans sb5) flA) hD00
        · rintro H4 ⟨ns, rest, d1, d2, d3, d4, d5, S4, sb4⟩
          have nd : (ns ++ rest).Nodup := d5.nodup_iff.mpr (List.pairwise_map.mpr (List.nodup_range.imp fun {a b} h e => h (by omega)))
          have rg : ∀ x ∈ ns ++ rest, 0 ≤ x ∧ x < (allN o : Nat) := fun x hx => by
            obtain ⟨j, hj, e⟩ := List.mem_map.mp (d5.mem_iff.mp hx)
            have := List.mem_range.mp hj
            omega
          exact imp _ _ ⟨D0, ns, rfl, S4.mono (by omega), sb4, d1, nDk, (List.nodup_append.mp nd).1, fun x hx => rg x (List.mem_append_left _ hx), by omega⟩
      rintro σ H3 ⟨nA, ns, rfl, S3, sb3, hn3, nAk, nd, rgn, nl2⟩
      -- to
      refine seq_cut (fun σ' H' => ∃ to : Nat, σ' = [some (.ref p), some (.ref k), some (.int (o.names.length : Nat)), some (.int (allN o : Nat)), some (.ref lA), none, some (.ref nA), some (.int to), none, none, none, none, none, none] ∧ Sack H' k (n + 6) ∧ SameBut k H1 H' ∧ H' nA = some (.lst (ns.map V.int)) ∧ to < o.names.length) (fun nx imp => ?_) ?_
      · refine ⟨_, rfl, _, rfl, k, _, n + 5, rfl, S3, by omega, by omega, by omega, fun r H4 a4 b4 sb4 S4 => imp _ _ ⟨r.toNat, by rw [show ((r.toNat : Nat) : Int) = r by omega]; rfl, S4, sb3.trans sb4, sb4 _ _ hn3 nAk, by omega⟩⟩
      clear S3 sb3 hn3 H3
      rintro σ H3 ⟨to, rfl, S3, sb3, hn3, tl⟩
      -- word
      refine seq_cut (fun σ' H' => ∃ word : Int, σ' = [some (.ref p), some (.ref k), some (.int (o.names.length : Nat)), some (.int (allN o : Nat)), some (.ref lA), none, some (.ref nA), some (.int to), some (.int word), none, none, none, none, none] ∧ Sack H' k (n + 7) ∧ SameBut k H1 H' ∧ H' nA = some (.lst (ns.map V.int)) ∧ 0 ≤ word ∧ word < top2 o) (fun nx imp => ?_) ?_
      · have k3 := S0.keepT sb3
        have e1 : (1 : Int) * 2 ^ o.bits.toNat = 2 ^ o.bits.toNat := Int.one_mul _
        refine ⟨_, rfl, _, rfl, p, _, _, _, rfl, rfl, SqT.of (k3 _ _ hp), at0, _, _, rfl, rfl, ⟨by omega, by omega, by omega⟩, k, _, n + 6, rfl, S3, by omega, by omega, by omega, fun r H4 a4 b4 sb4 S4 => imp _ _ ⟨r, rfl, S4, sb3.trans sb4, sb4 _ _ hn3 nAk, a4, by omega⟩⟩
      clear S3 sb3 hn3 H3
      rintro σ H3 ⟨word, rfl, S3, sb3, hn3, w0, w1⟩
      -- meaning
      refine seq_cut (fun σ' H' => ∃ a : Addr, σ' = [some (.ref p), some (.ref k), some (.int (o.names.length : Nat)), some (.int (allN o : Nat)), some (.ref lA), none, some (.ref nA), some (.int to), some (.int word), some (.ref a), none, none, none, none] ∧ Same H3 H' ∧ Tp H' (.ref a) (plnD (planOf o to word []))) (fun nx imp => ?_) ?_
      · have k3 := S0.keepT sb3
        have hat : atI (o.names.map V.str) ((to : Nat) : Int) = some (.str (o.names.getD to (Str.ofString ""))) := by
          refine atI_nat ?_
          rw [List.getElem?_map, List.getD_eq_getElem?_getD, List.getElem?_eq_getElem tl]
          rfl
        refine ⟨_, rfl, p, _, _, _, rfl, rfl, SqT.of (k3 _ _ hp), rfl, _, rfl, qA, _, _, _, rfl, rfl, SqT.of (k3 _ _ hq), hat, _, rfl, (by show 2 ≤ sizeLine; decide), fun a1 h1 => ⟨(by show 2 ≤ sizeLine; decide), fun a2 h2 => ⟨(by show 1 ≤ sizeLine; decide), fun a3 h3 => ⟨(by show 0 ≤ sizeLine; decide), fun a4 h4 => ⟨(by show 3 ≤ sizeLine; decide), fun a5 h5 => ?_⟩⟩⟩⟩⟩
        have t1 := same_new h1 (.tup [V.str (Str.ofString "num"), V.int word])
        have t2 := same_new h2 (.tup [V.str (o.names.getD to (Str.ofString "")), V.ref a1])
        have t3 := same_new h3 (.tup [V.ref a2])
        have t4 := same_new h4 (.tup [])
        have t5 := same_new h5 (.tup [V.str (Str.ofString "do"), V.ref a3, V.ref a4])
        refine imp _ _ ⟨a5, rfl, t1.trans (t2.trans (t3.trans (t4.trans t5))), ?_⟩
        exact .tup upd_same (.cons (.str _) (.cons (.tup (t5 _ _ (t4 _ _ upd_same)) (.cons (.tup (t5 _ _ (t4 _ _ (t3 _ _ upd_same))) (.cons (.str _) (.cons (.tup (t5 _ _ (t4 _ _ (t3 _ _ (t2 _ _ upd_same)))) (.cons (.str _) (.cons (.int _) .nil))) .nil))) .nil)) (.cons (.tup (t5 _ _ upd_same) .nil) .nil)))
      rintro σ H4 ⟨a, rfl, s4, T4⟩
      have S4 := S3.same s4
      have sb4 := sb3.trans s4.but
      have hn4 := s4 _ _ hn3
      -- words
      refine seq_cut (fun σ' H' => ∃ wA : Addr, σ' = [some (.ref p), some (.ref k), some (.int (o.names.length : Nat)), some (.int (allN o : Nat)), some (.ref lA), none, some (.ref nA), some (.int to), some (.int word), some (.ref a), some (.ref wA), none, none, none] ∧ Same H4 H' ∧ H4 wA = none ∧ H' wA = some (.lst ((List.replicate (allN o) (0 : Int)).map V.int))) (fun nx imp => ?_) ?_
      · refine ⟨(by show 1 ≤ sizeLine; decide), fun c hc => ⟨_, rfl, c, (allN o : Nat), [V.int 0], rfl, rfl, upd_same, by omega, by omega, (by rw [sizeLine_eq]; show 1 * ((allN o : Nat) : Int).toNat ≤ _; omega), fun wA hw => ?_⟩⟩
        have sc := same_new hc (.lst [V.int 0])
        refine imp _ _ ⟨wA, rfl, sc.trans (same_new hw _), sc.free hw, ?_⟩
        rw [upd_same, Int.toNat_natCast]
        have : ∀ m : Nat, (List.replicate m [V.int 0]).flatten = (List.replicate m (0 : Int)).map V.int := fun m => by
          induction m with
          | zero => rfl
          | succ m ih => rw [List.replicate_succ, List.flatten_cons, ih, List.replicate_succ, List.map_cons]; rfl
        rw [this]
      rintro σ H5 ⟨wA, rfl, s5, fwA, hw5⟩
      have nwk := nek S4 fwA
      have fw0 := fre sb4 fwA nwk
      have nwn : nA ≠ wA := ne_of_none hn4 fwA
      have S5 := S4.same s5
      have sb5 := sb4.trans s5.but
      have hn5 := s5 _ _ hn4
      -- the word of the register set
      refine seq_cut (fun σ' H' => σ' = [some (.ref p), some (.ref k), some (.int (o.names.length : Nat)), some (.int (allN o : Nat)), some (.ref lA), none, some (.ref nA), some (.int to), some (.int word), some (.ref a), some (.ref wA), none, none, none] ∧ H' = upd H5 wA (.lst (((List.replicate (allN o) (0 : Int)).set to (if word = 0 then 1 else 0)).map V.int))) (fun nx imp => ?_) ?_
      · have la : to < allN o := by omega
        refine ⟨_, rfl, rfl, .inr ⟨_, rfl, ?_⟩⟩
        refine ⟨_, rfl, _, rfl, wA, _, _, to, rfl, rfl, hw5, ixN_nat (by rw [List.length_map, List.length_replicate]; exact la), imp _ _ ⟨rfl, ?_⟩⟩
        rw [List.map_set]
        have e : (if decide (V.int word = V.int 0) = true then (1 : Int) else 0) = if word = 0 then 1 else 0 := by
          by_cases z : word = 0 <;> simp [z]
        rw [← e]
      rintro σ H6 ⟨rfl, eH6⟩
      have hw6 : H6 wA = some (.lst (((List.replicate (allN o) (0 : Int)).set to (if word = 0 then 1 else 0)).map V.int)) := by rw [eH6]; exact upd_same
      have S6 : Sack H6 k (n + 7) := by rw [eH6]; exact sack_upd8 S5 nwk
      have sb6 : SameBut k H1 H6 := by rw [eH6]; exact sb_new8 sb5 fw0
      have hn6 : H6 nA = some (.lst (ns.map V.int)) := by rw [eH6, upd_ne nwn]; exact hn5
      have T6 : Tp H6 (.ref a) (plnD (planOf o to word [])) := by rw [eH6]; exact (T4.keep (KeepT.of s5)).keep (kt_upd8 hw5)
      clear eH6
      -- the places
      refine seq_cut (fun σ' H' => ∃ (a : Addr) (cs : List (Nat × Int)) (W : List Int) (v11 v12 : Option V), σ' = [some (.ref p), some (.ref k), some (.int (o.names.length : Nat)), some (.int (allN o : Nat)), some (.ref lA), none, some (.ref nA), some (.int to), some (.int word), some (.ref a), some (.ref wA), v11, v12, none] ∧ Sack H' k (n + 12) ∧ SameBut k H1 H' ∧ H' wA = some (.lst (W.map V.int)) ∧ Tp H' (.ref a) (plnD (planOf o to word cs)) ∧ (∀ c ∈ cs, c.1 < allN o ∧ 0 ≤ c.2 ∧ c.2 < top2 o) ∧ DueW o to word cs W) (fun nx imp => ?_) ?_
      · refine ⟨_, rfl, nA, rfl, ⟨_, SqL.of hn6⟩, ?_⟩
        refine for_list (K := K) (a := nA) (xs := ns.map V.int) (fun j σ H' => ∃ (a : Addr) (cs : List (Nat × Int)) (W : List Int) (v11 v12 : Option V), σ = [some (.ref p), some (.ref k), some (.int (o.names.length : Nat)), some (.int (allN o : Nat)), some (.ref lA), none, some (.ref nA), some (.int to), some (.int word), some (.ref a), some (.ref wA), v11, v12, none] ∧ Sack H' k (n + 7 + j) ∧ SameBut k H1 H' ∧ H' nA = some (.lst (ns.map V.int)) ∧ H' wA = some (.lst (W.map V.int)) ∧ Tp H' (.ref a) (plnD (planOf o to word cs)) ∧ (∀ c ∈ cs, c.1 < allN o ∧ 0 ≤ c.2 ∧ c.2 < top2 o) ∧ DueW o to word cs W ∧ ∀ c ∈ cs, ∃ i, i < j ∧ ns[i]? = some ((c.1 : Nat) : Int))
          ⟨a, [], _, none, none, rfl, S6, sb6, hn6, hw6, T6, (fun c hc => nomatch hc), due_init (by omega) (by omega), fun c hc => nomatch hc⟩ (fun j σ H' _ z => by obtain ⟨_, _, _, _, _, _, _, _, z, _⟩ := z; exact SqL.of z) ?_ ?_
        · rintro j x σ H7 hx ⟨a7, cs, W, v11, v12, rfl, S7, sb7, hn7, hw7, T7, rc, D, pr⟩
          rw [List.getElem?_map] at hx
          cases hj : ns[j]? with
          | none => rw [hj] at hx; cases hx
          | some at_ =>
            rw [hj] at hx
            cases hx
            have hjl := (List.getElem?_eq_some_iff.mp hj).1
            obtain ⟨g0, g1⟩ := rgn at_ (List.mem_of_getElem? hj)
            obtain ⟨an, rfl⟩ : ∃ an : Nat, at_ = an := ⟨at_.toNat, by omega⟩
            have al : an < allN o := by omega
            have hne : ∀ c ∈ cs, c.1 ≠ an := fun c hc e => by
              obtain ⟨i, hi, ei⟩ := pr c hc
              rw [e] at ei
              have hil := (List.getElem?_eq_some_iff.mp ei).1
              have e1 := (List.getElem?_eq_some_iff.mp ei).2
              have e2 := (List.getElem?_eq_some_iff.mp hj).2
              have : i = j := (List.getElem_inj nd).mp (e1.trans e2.symm)
              omega
            have k7 := S0.keepT sb7
            have e1 : (1 : Int) * 2 ^ o.bits.toNat = 2 ^ o.bits.toNat := Int.one_mul _
            -- words[at] = ..
            refine seq_cut (fun σ' H' => ∃ x : Int, σ' = [some (.ref p), some (.ref k), some (.int (o.names.length : Nat)), some (.int (allN o : Nat)), some (.ref lA), none, some (.ref nA), some (.int to), some (.int word), some (.ref a7), some (.ref wA), some (.int an), v12, none] ∧ Sack H' k (n + 7 + j + 1) ∧ SameBut k H1 H' ∧ H' nA = some (.lst (ns.map V.int)) ∧ H' wA = some (.lst ((W.set an x).map V.int)) ∧ Tp H' (.ref a7) (plnD (planOf o to word cs)) ∧ 0 ≤ x ∧ x < top2 o) (fun nx2 imp2 => ?_) ?_
            · refine ⟨_, rfl, _, rfl, p, _, _, _, rfl, rfl, SqT.of (k7 _ _ hp), at0, _, _, rfl, rfl, ⟨by omega, by omega, by omega⟩, k, _, n + 7 + j, rfl, S7, by omega, by omega, by omega, fun x H8 a8 b8 sb8 S8 => ?_⟩
              have hw8 := sb8 _ _ hw7 nwk
              have hn8 := sb8 _ _ hn7 nAk
              refine ⟨_, rfl, _, rfl, wA, _, _, an, rfl, rfl, hw8, ixN_nat (by rw [List.length_map, D.len]; exact al), imp2 _ _ ⟨x, rfl, sack_upd8 S8 nwk, sb_new8 (sb7.trans sb8) fw0, by rw [upd_ne nwn]; exact hn8, by rw [upd_same, List.map_set], (T7.keep (S7.keepT sb8)).keep (kt_upd8 hw8), a8, by omega⟩⟩
            rintro σ H8 ⟨x, rfl, S8, sb8, hn8, hw8, T8, x0, x1⟩
            have k8 := S0.keepT sb8
            have D8 := due_step D al hne ⟨x0, x1⟩
            -- test
            refine seq_cut (fun σ' H' => ∃ tA : Addr, σ' = [some (.ref p), some (.ref k), some (.int (o.names.length : Nat)), some (.int (allN o : Nat)), some (.ref lA), none, some (.ref nA), some (.int to), some (.int word), some (.ref a7), some (.ref wA), some (.int an), some (.ref tA), none] ∧ Same H8 H' ∧ Tp H' (.ref tA) (trmD (.op (Str.ofString "same") (termAt o an) (.num x)))) (fun nx2 imp2 => ?_) ?_
            · refine ⟨_, rfl, _, rfl, p, o, an, rfl, hP.keep k8, hO, al, fun b1 H9 s9 T9 => ?_⟩
              have hat : atI ((W.set an x).map V.int) ((an : Nat) : Int) = some (.int x) := by
                refine atI_nat ?_
                rw [List.getElem?_map, List.getElem?_set_self (by rw [D.len]; exact al)]
                rfl
              refine ⟨_, rfl, _, rfl, wA, _, _, _, rfl, rfl, SqL.of (s9 _ _ hw8), hat, (by show 2 ≤ sizeLine; decide), fun b2 h2 => ⟨(by show 3 ≤ sizeLine; decide), fun b3 h3 => ?_⟩⟩
              have u2 := same_new h2 (.tup [V.str (Str.ofString "num"), V.int x])
              have u3 := same_new h3 (.tup [V.str (Str.ofString "same"), V.ref b1, V.ref b2])
              refine imp2 _ _ ⟨b3, rfl, s9.trans (u2.trans u3), ?_⟩
              exact .tup upd_same (.cons (.str _) (.cons (T9.keep (KeepT.of (u2.trans u3))) (.cons (.tup (u3 _ _ upd_same) (.cons (.str _) (.cons (.int _) .nil))) .nil)))
            rintro σ H9 ⟨tA, rfl, s9, T9⟩
            refine ⟨_, rfl, _, rfl, (by show 0 ≤ sizeLine; decide), fun b1 h1 => ⟨(by show 0 ≤ sizeLine; decide), fun b2 h2 => ⟨(by show 3 ≤ sizeLine; decide), fun b3 h3 => ⟨(by show 4 ≤ sizeLine; decide), fun b4 h4 => ?_⟩⟩⟩⟩
            have u1 := same_new h1 (.tup [])
            have u2 := same_new h2 (.tup [])
            have u3 := same_new h3 (.tup [V.str (Str.ofString "do"), V.ref b1, V.ref b2])
            have u4 := same_new h4 (.tup [V.str (Str.ofString "if"), V.ref tA, V.ref a7, V.ref b3])
            have u14 := u1.trans (u2.trans (u3.trans u4))
            have sF := s9.trans u14
            refine ⟨b4, (an, x) :: cs, _, _, _, rfl, (S8.same sF).mono (by omega), sb8.trans sF.but, sF _ _ hn8, sF _ _ hw8, ?_, fun c hc => ?_, D8, fun c hc => ?_⟩
            · exact .tup upd_same (.cons (.str _) (.cons (T9.keep (KeepT.of u14)) (.cons ((T8.keep (KeepT.of s9)).keep (KeepT.of u14)) (.cons (.tup (u4 _ _ upd_same) (.cons (.str _) (.cons (.tup (u4 _ _ (u3 _ _ (u2 _ _ upd_same))) .nil) (.cons (.tup (u4 _ _ (u3 _ _ upd_same)) .nil) .nil)))) .nil))))
            · rcases List.mem_cons.mp hc with z | z
              · rw [z]; exact ⟨al, x0, x1⟩
              · exact rc c z
            · rcases List.mem_cons.mp hc with z | z
              · rw [z]; exact ⟨j, Nat.lt_succ_self j, hj⟩
              · obtain ⟨i, hi, ei⟩ := pr c z
                exact ⟨i, Nat.lt_succ_of_lt hi, ei⟩
        · rintro σ H7 ⟨a7, cs, W, v11, v12, rfl, S7, sb7, hn7, hw7, T7, rc, D, pr⟩
          rw [List.length_map] at S7
          exact imp _ _ ⟨a7, cs, W, v11, v12, rfl, S7.mono (by omega), sb7, hw7, T7, rc, D⟩
      rintro σ H7 ⟨a7, cs, W, v11, v12, rfl, S7, sb7, hw7, T7, rc, D⟩
      have k7 := S0.keepT sb7
      have cut1 : cutV (W.map V.int) none (some ((o.names.length : Nat) : Int)) = (W.take o.names.length).map V.int := by rw [cutV_to, List.map_take]
      have cut2 : cutV (W.map V.int) (some ((o.names.length : Nat) : Int)) none = (W.drop o.names.length).map V.int := by rw [cutV_from, List.map_drop]
      -- due
      refine seq_cut (fun σ' H' => ∃ dA : Addr, σ' = [some (.ref p), some (.ref k), some (.int (o.names.length : Nat)), some (.int (allN o : Nat)), some (.ref lA), none, some (.ref nA), some (.int to), some (.int word), some (.ref a7), some (.ref wA), v11, v12, some (.ref dA)] ∧ Same H7 H' ∧ Tp H' (.ref dA) (wdD ⟨W.take o.names.length, List.replicate o.hidden.toNat 0, W.drop o.names.length⟩)) (fun nx imp => ?_) ?_
      · refine ⟨_, rfl, _, rfl, _, rfl, wA, _, rfl, SqL.of hw7, fun c1 hc1 => ?_⟩
        rw [cut1]
        have s1 := same_new hc1 (.lst ((W.take o.names.length).map V.int))
        refine ⟨c1, _, rfl, .inl ⟨SqL.of upd_same, fun t1 ht1 => ?_⟩⟩
        have s2 := s1.trans (same_new ht1 (.tup ((W.take o.names.length).map V.int)))
        refine ⟨(by show 1 ≤ sizeLine; decide), fun z1 hz1 => ?_⟩
        have s3 := same_new hz1 (.tup [V.int 0])
        refine ⟨_, rfl, p, _, _, _, rfl, rfl, SqT.of (s3 _ _ (s2 _ _ (k7 _ _ hp))), rfl, z1, o.hidden, V.int 0, rfl, rfl, upd_same, by omega, by omega, fun t2 H4 s4 ht2 => ?_⟩
        have s14 := s2.trans (s3.trans s4)
        refine ⟨_, rfl, _, rfl, _, rfl, wA, _, rfl, SqL.of (s14 _ _ hw7), fun c2 hc2 => ?_⟩
        rw [cut2]
        have s5 := same_new hc2 (.lst ((W.drop o.names.length).map V.int))
        refine ⟨c2, _, rfl, .inl ⟨SqL.of upd_same, fun t3 ht3 => ⟨(by show 3 ≤ sizeLine; decide), fun t4 ht4 => ?_⟩⟩⟩
        have s6 := same_new ht3 (.tup ((W.drop o.names.length).map V.int))
        have s7 := same_new ht4 (.tup [V.ref t1, V.ref t2, V.ref t3])
        have eh : (List.replicate o.hidden.toNat (V.int 0)) = (List.replicate o.hidden.toNat (0 : Int)).map V.int := by rw [List.map_replicate]
        refine imp _ _ ⟨t4, rfl, s14.trans (s5.trans (s6.trans s7)), ?_⟩
        refine .tup upd_same (.cons (.tup (s7 _ _ (s6 _ _ (s5 _ _ (s4 _ _ (s3 _ _ upd_same))))) (ints_tp _)) (.cons (.tup (xs := (List.replicate o.hidden.toNat (0 : Int)).map V.int) ?_ (ints_tp _)) (.cons (.tup (s7 _ _ upd_same) (ints_tp _)) .nil)))
        rw [← eh]
        exact s7 _ _ (s6 _ _ (s5 _ _ ht2))
      rintro σ H8 ⟨dA, rfl, s8, T8⟩
      have hw8 := s8 _ _ hw7
      have hat : atI (W.map V.int) ((to : Nat) : Int) = some (.int (W.getD to 0)) := by
        refine atI_nat ?_
        have hl : to < W.length := by rw [D.len]; omega
        rw [List.getElem?_map, List.getD_eq_getElem?_getD, List.getElem?_eq_getElem hl]
        rfl
      refine ⟨_, rfl, _, rfl, _, rfl, wA, _, _, _, rfl, rfl, SqL.of hw8, hat, _, rfl, rfl, _, rfl, ?_⟩
      by_cases hc : W.getD to 0 = word
      · rw [hc]
        have e : (!decide (V.int word = V.int word)) = false := by simp
        rw [e]
        refine iteF ⟨(by show 2 ≤ sizeLine; decide), fun t ht => ?_⟩
        have st := same_new ht (.tup [V.ref a7, V.non])
        have sF := s8.trans st
        exact q t a7 .non to word cs W _ (sb7.trans sF.but) ((S7.same sF).mono (by omega)) upd_same (T7.keep (KeepT.of sF)) tl ⟨w0, w1⟩ rc D (fun z => absurd hc z) (fun _ => rfl)
      · have e : (!decide (V.int (W.getD to 0) = V.int word)) = true := by
          rw [decide_eq_false (fun z => hc (V.int.inj z))]
          rfl
        rw [e]
        refine iteT ⟨_, rfl, (by show 2 ≤ sizeLine; decide), fun t ht => ?_⟩
        have st := same_new ht (.tup [V.ref a7, V.ref dA])
        have sF := s8.trans st
        exact q t a7 (.ref dA) to word cs W _ (sb7.trans sF.but) ((S7.same sF).mono (by omega)) upd_same (T7.keep (KeepT.of sF)) tl ⟨w0, w1⟩ rc D (fun _ => T8.keep (KeepT.of st)) (fun z => absurd z hc)
end
end My
set_option Elab.async false
set_option linter.all false
set_option maxRecDepth 100000
set_option maxHeartbeats 4000000
namespace L2
open PySem PySem.W PySem.Spec PyProof.Rows
/-- isinstance(e, C), e an exception that was caught, or None -/
theorem call_isiEN {X : Cx} : CallR X (.builtin "isinstance") (fun xs H Q => ∃ x v c b, xs = [x, v] ∧ (∀ u, RelV v u → u = c) ∧ ((∃ a D, x = .ref a ∧ H a = some (ExcO a (.ref D)) ∧ ExcC X.K D ∧ kitOne X.K (.ref D) c = some b) ∨ (x = .non ∧ kitOne X.K (.type "NoneType") c = some b)) ∧ Q (.bl b) H) := by
  intro pins s σ H xs us Q I r h
  obtain ⟨x, v, c, b, rfl, rv, h, q⟩ := h
  obtain ⟨u, w', rfl, rx, ry⟩ := vals2 r
  rw [rv w' ry]
  rcases h with ⟨a, D, rfl, e, C, k⟩ | ⟨rfl, k⟩
  · cases (show u = Value.ref a from rx)
    obtain ⟨p, _⟩ := (show ObjOk X.prog X.w H s.heap a (ExcO a (.ref D)) from I.hok a _ e)
    exact kia_one (kitx_exc C) I.kIn p k (fun z => nomatch z) fun tk => ⟨.bl b, H, I.tok _, rfl, q⟩
  · exact isinst_ok I rx .non k fun tk => ⟨.bl b, H, I.tok _, rfl, q⟩
end L2
namespace My
open PySem L2 TL
/-- the classes of errors, at the top -/
structure Errs (K : PySem.W.Frag) (mg : Str → Option Value) where
  many : Addr
  loft : Addr
  mmany : mg "TooMany" = some (.ref many)
  mloft : mg "LoftError" = some (.ref loft)
  x : PySem.W.excIn K many [.type "ValueError", .type "Exception", .type "BaseException", .type "object"] "ValueError.__new__" = true
  e : PySem.W.exmOne K (.ref many) (.ref loft) = some true
  c : ExcC K many
  v : PySem.W.kitOne K (.ref many) (.type "ValueError") = some true
  n : PySem.W.kitOne K (.type "NoneType") (.ref many) = some false
  vb : mg "ValueError" = none
def nm6 : List Str := [Str.ofString "a", Str.ofString "b", Str.ofString "c", Str.ofString "d", Str.ofString "e", Str.ofString "f"]
theorem nm6_ok {m : Nat} (h1 : 1 ≤ m) (h3 : m ≤ 6) : NamesOk m (nm6.take m) := by
  obtain rfl | rfl | rfl | rfl | rfl | rfl : m = 1 ∨ m = 2 ∨ m = 3 ∨ m = 4 ∨ m = 5 ∨ m = 6 := by omega
  all_goals
    refine ⟨rfl, by decide +kernel, fun x hx => ?_⟩
    have hx := List.mem_of_mem_take hx
    have : ∀ x ∈ nm6, isNameB x = true := by decide +kernel
    exact this x hx
structure RefOk (b m c : Int) : Prop where
  kb : 1 ≤ b ∧ b ≤ 8
  km : 1 ≤ m ∧ m ≤ 6
  kc : 0 ≤ c ∧ c ≤ 2 ^ b.toNat
  ks : b * (m + c) ≤ 2200
def spRefused : Sp := fun vs H Q _ => ∃ (b m c : Int), vs = [.int b, .int m, .int c] ∧ RefOk b m c ∧ ∀ H', Same H H' → Q (.bl (decide (12 < b * (m + c)))) H'
abbrev NRf : List Str := ["bits", "many", "cells", "machine", "caught", "e"]
section
variable {P : Program} {w : World} {K : PySem.W.Frag} {mg : Str → Option Value} {base : Heap}
theorem scRefused : FnScope NRf ["bits", "many", "cells"] (defScope sRefused) := ⟨rfl, rfl, rfl, by decide +kernel, rfl, by decide +kernel, by decide +kernel⟩
theorem ok_refused (R : Errs K mg) {f : Addr} {fd : FuncData} (F : Fun K "_law_refused" "_law_refused" sRefused f fd) (dD : Df K mg "differs" sDiffers ["machine", "meaning", "program"]) (D : DfF K mg) (MB : MostB mg) (B : Bl mg) : FnOk P w K mg base CX0 12 f fd ["bits", "many", "cells"] spRefused := by
  have GD : FnOk P w K mg base (CXE P w) 11 dD.f dD.fd ["machine", "meaning", "program"] (fun vs H Q E => spDiffers vs H Q E ∨ spDifBad R.many vs H Q E) := (ok_differs dD.F D MB B).lift.or (ok_difBad R.mmany R.x dD.F MB B)
  refine F.ok scRefused (fun vs H Q E h => ?_) (fun cdv A outer s H vs Q E hr h => ?_)
  · obtain ⟨b, m, c, rfl, _⟩ := h
    rfl
  · obtain ⟨b, m, c, rfl, hk, q⟩ := h
    refine ⟨_, pss_cons (ps_set (i := 3) scRefused.nd rfl (Or.inl rfl) (pe_tup (pa_cons (pv 0) (pa_cons (pe_slice sl_tupH (pe_tup (pa_cons pe_str (pa_cons pe_str (pa_cons pe_str (pa_cons pe_str (pa_cons pe_str (pa_cons pe_str pa_nil))))))) po_none (po_some (pv 1))) (pa_cons pe_int (pa_cons pe_int (pa_cons pe_int (pa_cons (pv 2) pa_nil))))))))
      (pss_cons (ps_set (i := 4) scRefused.nd rfl (Or.inl rfl) pe_non)
      (pss_cons (ps_try (i := 5) (T := fun σ cls _ H1 => ∃ p : Addr, σ = [some (.int b), some (.int m), some (.int c), some (.ref p), some .non, none] ∧ cls = .ref R.many ∧ Same H H1 ∧ 12 < b * (m + c)) rfl rfl rfl rfl R.mloft scRefused.nd rfl rfl
        (fun pn xe rch => pss_one (ps_expr (pe_callX GD hr rfl dD.m dD.F.kp dD.b .nil rch (pa_cons (pv 3) (pa_cons (pe_tup (pa_cons pe_str (pa_cons (pe_tup pa_nil) (pa_cons (pe_tup pa_nil) pa_nil)))) (pa_cons (pe_tup (pa_cons (pe_tup (pa_cons (pe_tup pa_nil) (pa_cons (pe_tup (pa_cons pe_str pa_nil)) pa_nil))) pa_nil)) pa_nil))))))
        (fun x => pss_one (ps_set (i := 4) scRefused.nd rfl (Or.inl rfl) (pv 5))))
      (pss_one (ps_ret (pe_and (pe_callB call_isiEN (by rfl) B.isi (by decide +kernel) (pa_cons (pv 4) (pa_cons (pe_glob (v := .ref R.many) rfl R.mmany rfl) pa_nil))) (pe_one (pe_callB call_isiEN (by rfl) B.isi (by decide +kernel) (pa_cons (pv 4) (pa_cons (pe_bltn (v := .ty "ValueError") (by rfl) R.vb (by decide +kernel) rfl) pa_nil))))))))), ?read⟩
    case read =>
      obtain ⟨mn, rfl⟩ : ∃ mn : Nat, m = mn := ⟨m.toNat, by have := hk.km; omega⟩
      have hm := hk.km
      have hb := hk.kb
      have hc := hk.kc
      have nmk := nm6_ok (m := mn) (by omega) (by omega)
      have nl : (nm6.take mn).length = mn := nmk.len
      refine seq_cut (fun σ' H' => ∃ p : Addr, σ' = [some (.int b), some (.int (mn : Nat)), some (.int c), some (.ref p), none, none] ∧ Same H H' ∧ Tp H' (.ref p) (ownD ⟨b, nm6.take mn, 1, 1, 1, c⟩)) (fun nx imp => ?_) ?_
      · refine ⟨_, rfl, (by show 6 ≤ sizeLine; decide), fun t1 ht1 => ?_⟩
        have s1 := same_new ht1 (.tup (nm6.map V.str))
        refine ⟨_, rfl, _, rfl, t1, nm6.map V.str, rfl, upd_same, fun t2 H4 s4 ht2 => ?_⟩
        rw [cutV_to, ← List.map_take] at ht2
        refine ⟨_, rfl, (by show 6 ≤ sizeLine; decide), fun a ha => ?_⟩
        have sA := same_new ha (.tup [V.int b, V.ref t2, V.int 1, V.int 1, V.int 1, V.int c])
        refine imp _ _ ⟨a, rfl, s1.trans (s4.trans sA), ?_⟩
        refine .tup upd_same (.cons (.int _) (.cons (.tup (sA _ _ ht2) ?_) (.cons (.int _) (.cons (.int _) (.cons (.int _) (.cons (.int _) .nil))))))
        exact TpAll.strs _
      rintro σ H1 ⟨p, rfl, s1, hP⟩
      have hO : OwnOk ⟨b, nm6.take mn, 1, 1, 1, c⟩ := ⟨hb, ⟨mn, nmk, by omega, by omega⟩, ⟨(by show (0 : Int) ≤ 1; decide), (by show (1 : Int) ≤ 12; decide)⟩, ⟨(by show (1 : Int) ≤ 1; decide), (by show (1 : Int) ≤ 3; decide)⟩, ⟨(by show (1 : Int) ≤ 1; decide), (by show (1 : Int) ≤ 3; decide)⟩, hc⟩
      have eb : ((bitsN ⟨b, nm6.take mn, 1, 1, 1, c⟩ : Nat) : Int) = b * ((mn : Nat) + c) := by
        show ((b.toNat * ((nm6.take mn).length + c.toNat) : Nat) : Int) = _
        rw [nl, Int.natCast_mul, Int.natCast_add, Int.toNat_of_nonneg (by omega), Int.toNat_of_nonneg hc.1]
      have h22 := hk.ks
      refine seq_cut (fun σ' H' => σ' = [some (.int b), some (.int (mn : Nat)), some (.int c), some (.ref p), some .non, none] ∧ H' = H1) (fun nx imp => imp _ _ ⟨rfl, rfl⟩) ?_
      rintro σ H1' ⟨rfl, eH⟩
      subst eH
      refine seq_cut (fun σ' H' => (¬ 12 < b * ((mn : Nat) + c) ∧ Same H H' ∧ σ' = [some (.int b), some (.int (mn : Nat)), some (.int c), some (.ref p), some .non, none]) ∨
        (12 < b * ((mn : Nat) + c) ∧ Same H H' ∧ ∃ (x p : Addr), H' x = some (ExcO x (.ref R.many)) ∧ σ' = [some (.int b), some (.int (mn : Nat)), some (.int c), some (.ref p), some (.ref x), none])) (fun nx imp => ?_) ?_
      · refine ⟨?_, ?_⟩
        · refine ⟨_, rfl, (by show 0 ≤ sizeLine; decide), fun b1 h1 => ⟨(by show 0 ≤ sizeLine; decide), fun b2 h2 => ⟨(by show 3 ≤ sizeLine; decide), fun b3 h3 => ⟨(by show 0 ≤ sizeLine; decide), fun b4 h4 => ⟨(by show 1 ≤ sizeLine; decide), fun b5 h5 => ⟨(by show 2 ≤ sizeLine; decide), fun b6 h6 => ⟨(by show 1 ≤ sizeLine; decide), fun b7 h7 => ?_⟩⟩⟩⟩⟩⟩⟩
          have u1 := same_new h1 (.tup [])
          have u2 := same_new h2 (.tup [])
          have u3 := same_new h3 (.tup [V.str (Str.ofString "do"), V.ref b1, V.ref b2])
          have u4 := same_new h4 (.tup [])
          have u5 := same_new h5 (.tup [V.str (Str.ofString "end")])
          have u6 := same_new h6 (.tup [V.ref b4, V.ref b5])
          have u7 := same_new h7 (.tup [V.ref b6])
          have u47 := u4.trans (u5.trans (u6.trans u7))
          have u17 := u1.trans (u2.trans (u3.trans u47))
          by_cases hbig : 12 < b * ((mn : Nat) + c)
          · exact .inr ⟨p, .ref b3, .ref b7, ⟨b, nm6.take mn, 1, 1, 1, c⟩, rfl, hP.keep (KeepT.of u17), hO, by omega, by omega, fun H' s => ⟨p, rfl, rfl, s1.trans (u17.trans s), hbig⟩⟩
          · refine .inl ⟨p, b3, b7, ⟨b, nm6.take mn, 1, 1, 1, c⟩, .dos [] none, rfl, hP.keep (KeepT.of u17), hO, ?_, ⟨fun p hp => (nomatch hp), Nat.zero_le _, fun c t e => nomatch e⟩, ?_, by omega, fun n v H' _ _ hd => absurd rfl hd, fun H' s _ => imp _ _ (.inl ⟨hbig, s1.trans (u17.trans s), rfl⟩)⟩
            · exact .tup (u47 _ _ upd_same) (.cons (.str _) (.cons (.tup (u47 _ _ (u3 _ _ (u2 _ _ upd_same))) .nil) (.cons (.tup (u47 _ _ (u3 _ _ upd_same)) .nil) .nil)))
            · exact .tup upd_same (.cons (.tup (u7 _ _ upd_same) (.cons (.tup (u7 _ _ (u6 _ _ (u5 _ _ upd_same))) .nil) (.cons (.tup (u7 _ _ (u6 _ _ upd_same)) (.cons (.str _) .nil)) .nil))) .nil)
        · rintro σ1 cls H2 ⟨p', hσ, rfl, s, hbig⟩
          cases hσ
          exact ⟨R.e, fun x hx => ⟨_, rfl, imp _ _ (.inr ⟨hbig, s.trans (same_new hx _), x, p', upd_same, rfl⟩)⟩⟩
      rintro σ H2 (⟨hno, s, rfl⟩ | ⟨hbig, s, x, p', hx, rfl⟩)
      · rw [decide_eq_false hno] at q
        refine ⟨_, rfl, .non, _, .ref R.many, false, rfl, fun u r => r, .inr ⟨rfl, R.n⟩, _, rfl, iteF ?_⟩
        exact q H2 s
      · rw [decide_eq_true hbig] at q
        refine ⟨_, rfl, .ref x, _, .ref R.many, true, rfl, fun u r => r, .inl ⟨x, R.many, rfl, hx, R.c, ?_⟩, _, rfl, iteT ?_⟩
        · unfold PySem.W.kitOne
          rw [if_pos (by simp)]
        · exact ⟨_, rfl, .ref x, _, _, true, rfl, fun u r => r, .inl ⟨x, R.many, rfl, hx, R.c, R.v⟩, q H2 s⟩
end
end My
set_option Elab.async false
set_option linter.all false
set_option maxRecDepth 100000
set_option maxHeartbeats 4000000
namespace My
open PySem L2 TL
def spLaw (K : PySem.W.Frag) : Sp := fun vs H Q _ => ∃ (a : Addr) (ns : List Int), vs = [.ref a] ∧ SqL K H a (ns.map V.int) ∧ ns.length ≤ 63 ∧ (∀ x ∈ ns, Builtin.Int.intBits x ≤ 2 ^ 20) ∧ ∀ H', Q (.bl true) H'
abbrev NLw : List Str := ["script", "cells_here", "k", "bag", "machine", "meaning", "due", "bits", "many", "cells", "some"]
theorem eqv_nil8 (ns : List Int) : PyData.eqv (.list (ns.map PyData.int)) (.list []) = decide (ns = []) := by
  cases ns with
  | nil => rfl
  | cons n r => simp [PyData.eqv, PyData.eqvAll]
theorem ints_dp8 {K : PySem.W.Frag} {H : Hp} : ∀ ns : List Int, DpAll K H (ns.map V.int) (ns.map PyData.int)
  | [] => .nil
  | n :: r => .cons (.int n) (ints_dp8 r)
/-- machines of so many bits: those that are gone through, those that are refused -/
def fewL : List (Int × Int × Int) := [(2, 2, 4), (3, 1, 3), (4, 1, 2), (6, 1, 1), (2, 6, 0)]
def manyL : List (Int × Int × Int) := [(2, 3, 4), (3, 1, 4), (4, 1, 3), (4, 2, 16), (7, 1, 1), (8, 1, 256), (2, 6, 1), (7, 2, 0), (3, 5, 0)]
theorem fewL_ok : ∀ x ∈ fewL, RefOk x.1 x.2.1 x.2.2 ∧ ¬ 12 < x.1 * (x.2.1 + x.2.2) := by
  intro x hx
  have : ∀ x ∈ fewL, ((1 ≤ x.1 ∧ x.1 ≤ 8) ∧ (1 ≤ x.2.1 ∧ x.2.1 ≤ 6) ∧ (0 ≤ x.2.2 ∧ x.2.2 ≤ 2 ^ x.1.toNat) ∧ x.1 * (x.2.1 + x.2.2) ≤ 2200) ∧ ¬ 12 < x.1 * (x.2.1 + x.2.2) := by decide +kernel
  obtain ⟨⟨a, b, c, d⟩, e⟩ := this x hx
  exact ⟨⟨a, b, c, d⟩, e⟩
theorem manyL_ok : ∀ x ∈ manyL, RefOk x.1 x.2.1 x.2.2 ∧ 12 < x.1 * (x.2.1 + x.2.2) := by
  intro x hx
  have : ∀ x ∈ manyL, ((1 ≤ x.1 ∧ x.1 ≤ 8) ∧ (1 ≤ x.2.1 ∧ x.2.1 ≤ 6) ∧ (0 ≤ x.2.2 ∧ x.2.2 ≤ 2 ^ x.1.toNat) ∧ x.1 * (x.2.1 + x.2.2) ≤ 2200) ∧ 12 < x.1 * (x.2.1 + x.2.2) := by decide +kernel
  obtain ⟨⟨a, b, c, d⟩, e⟩ := this x hx
  exact ⟨⟨a, b, c, d⟩, e⟩
def tripV (H : Hp) (x : Int × Int × Int) (v : V) : Prop := ∃ a, v = .ref a ∧ H a = some (.tup [.int x.1, .int x.2.1, .int x.2.2])
theorem tripV.keep {H H' : Hp} (s : Same H H') {x : Int × Int × Int} {v : V} (h : tripV H x v) : tripV H' x v := by
  obtain ⟨a, e, h1⟩ := h
  exact ⟨a, e, s _ _ h1⟩
theorem trip_get {H : Hp} {xs : List (Int × Int × Int)} {vs : List V} (h : Paired (tripV H) xs vs) : ∀ {i : Nat} {v : V}, vs[i]? = some v → ∃ x ∈ xs, tripV H x v := by
  induction h with
  | nil => intro i v e; simp at e
  | cons r _ ih =>
    intro i v e
    cases i with
    | zero => simp at e; subst e; exact ⟨_, List.mem_cons_self, r⟩
    | succ i =>
      obtain ⟨x, hx, h⟩ := ih (i := i) (by simpa using e)
      exact ⟨x, List.mem_cons_of_mem _ hx, h⟩
theorem narrow_ints8 : ∀ ns : List Int, narrowAll (ns.map PyData.int) = true
  | [] => rfl
  | n :: r => by
    show (true && narrowAll (r.map PyData.int)) = true
    rw [narrow_ints8 r]
    rfl
theorem narrow_i8 {ns : List Int} (h : ns.length ≤ 300) : narrow (intsD ns) = true := by
  show (decide ((ns.map PyData.int).length ≤ 300) && narrowAll (ns.map PyData.int)) = true
  rw [narrow_ints8, decide_eq_true (by rw [List.length_map]; exact h)]
  rfl
theorem narrow_wd8 {s : Wd} (h : s.vis.length ≤ 300 ∧ s.hid.length ≤ 300 ∧ s.mem.length ≤ 300) : PyData.depth (wdD s) < 4 ∧ narrow (wdD s) = true := by
  refine ⟨by rw [(lay_wd s).2]; decide, ?_⟩
  show (decide (3 ≤ 300) && (narrow (intsD s.vis) && (narrow (intsD s.hid) && (narrow (intsD s.mem) && true)))) = true
  rw [narrow_i8 h.1, narrow_i8 h.2.1, narrow_i8 h.2.2]
  rfl
section
variable {P : Program} {w : World} {K : PySem.W.Frag} {mg : Str → Option Value} {base : Heap}
theorem scLaw : FnScope NLw ["script"] (defScope sLaw) := ⟨rfl, rfl, rfl, by decide +kernel, rfl, by decide +kernel, by decide +kernel⟩
theorem ok_law (R : Errs K mg) {f : Addr} {fd : FuncData} (F : Fun K "law" "law" sLaw f fd) (D : DfF K mg) (MB : MostB mg) (dD : Df K mg "differs" sDiffers ["machine", "meaning", "program"]) (dS : Df K mg "_law_bag" sSack ["cell", "k"]) (dP : Df K mg "_law_draw" sPull ["bag", "many"]) (dSm : Df K mg "_law_same" sSame ["found", "due"])
    (dM : Df K mg "_law_machine" sMachine ["bag", "most"]) (dT : Df K mg "_law_term" sTermL ["machine", "at"]) (dC : Df K mg "_law_case" sCase ["machine", "bag"]) (dR : Df K mg "_law_refused" sRefused ["bits", "many", "cells"]) (B : Bl mg) : FnOk P w K mg base CX0 13 f fd ["script"] (spLaw K) := by
  have GS : FnOk P w K mg base CX0 1 dS.f dS.fd ["cell", "k"] spSack := ok_sack dS.F
  have GP : FnOk P w K mg base CX0 1 dP.f dP.fd ["bag", "many"] spPull := ok_pull dP.F
  have GM : FnOk P w K mg base CX0 2 dM.f dM.fd ["bag", "most"] spMachine := ok_machine dM.F dP B
  have GC : FnOk P w K mg base CX0 2 dC.f dC.fd ["machine", "bag"] spCase := ok_case dC.F dP dT B
  have GD : FnOk P w K mg base CX0 11 dD.f dD.fd ["machine", "meaning", "program"] spDiffers := ok_differs dD.F D MB B
  have GE : FnOk P w K mg base CX0 (3 + 1) dSm.f dSm.fd ["found", "due"] (spSm (3 + 1)) := ok_sm dSm B 3
  have GR : FnOk P w K mg base CX0 12 dR.f dR.fd ["bits", "many", "cells"] spRefused := ok_refused R dR.F dD D MB B
  refine F.ok scLaw (fun vs H Q E h => ?_) (fun cdv A outer s H vs Q E hr h => ?_)
  · obtain ⟨a, ns, rfl, _⟩ := h
    rfl
  · obtain ⟨a, ns, rfl, hS, hn, hB, q⟩ := h
    have hr1 : Room 1 _ := hr.mono (by decide)
    have hr2 : Room 2 _ := hr.mono (by decide)
    have hr4 : Room (3 + 1) _ := hr.mono (by decide)
    have hr11 : Room 11 _ := hr.mono (by decide)
    refine ⟨_, pss_cons (ps_set (i := 1) scLaw.nd rfl (Or.inl rfl) (pe_op op_catS (pe_slice sl_list (pv 0) po_none (po_some pe_int)) (pe_op op_rep (pe_lst (pa_cons pe_int pa_nil)) (pe_callTy call_int1 (by rfl) B.int (by decide +kernel) (pa_cons (pe_cmpR (op_eqD hr.units) (pv 0) (pe_lst pa_nil) (nomark _)) pa_nil)))))
      (pss_cons (ps_for PassesOwn.never rfl (pi_range1 rfl B.range (pa_cons (pe_callB call_len_seq (by rfl) B.len PySem.boot_len (pa_cons (pv 1) pa_nil)) pa_nil)) (pg_name (i := 2) scLaw.nd rfl (Or.inl rfl))
        (pss_cons (ps_set (i := 3) scLaw.nd rfl (Or.inl rfl) (pe_call GS hr1 rfl dS.m dS.F.kp dS.b .nil pass0 (pa_cons (pe_ix ix_list (pv 1) (pv 2) (fun _ _ => rfl)) (pa_cons (pv 2) pa_nil))))
        (pss_cons (ps_set (i := 4) scLaw.nd rfl (Or.inl rfl) (pe_call GM hr2 rfl dM.m dM.F.kp dM.b .nil pass0 (pa_cons (pv 3) (pa_cons (pe_ix ix_list (pe_lst (pa_cons pe_int (pa_cons pe_int pa_nil))) (pe_callTy call_int1 (by rfl) B.int (by decide +kernel) (pa_cons (pe_and (pe_cmpR op_eq (pv 2) pe_int (nomark _)) (pe_one (pe_cmpR op_eq (pe_call GP hr1 rfl dP.m dP.F.kp dP.b .nil pass0 (pa_cons (pv 3) (pa_cons pe_int pa_nil))) pe_int (nomark _)))) pa_nil)) (fun _ _ => rfl)) pa_nil))))
        (pss_cons (ps_asg (pe_call GC hr2 rfl dC.m dC.F.kp dC.b .nil pass0 (pa_cons (pv 4) (pa_cons (pv 3) pa_nil))) (pg_tup (by rfl) (pgs_cons (pg_name (i := 5) scLaw.nd rfl (Or.inl rfl)) (pgs_cons (pg_name (i := 6) scLaw.nd rfl (Or.inl rfl)) pgs_nil))))
        (pss_one (ps_if (pt_not (pt_val (pe_call GE hr4 rfl dSm.m dSm.F.kp dSm.b .nil pass0 (pa_cons (pe_call GD hr11 rfl dD.m dD.F.kp dD.b .nil pass0 (pa_cons (pv 4) (pa_cons (pv 5) (pa_cons (pe_tup (pa_cons (pe_tup (pa_cons (pe_tup pa_nil) (pa_cons (pe_tup (pa_cons pe_str pa_nil)) pa_nil))) pa_nil)) pa_nil)))) (pa_cons (pv 6) pa_nil))))) (pss_one (ps_ret pe_bl)) pss_nil))))))
      (pss_cons (ps_set (i := 3) scLaw.nd rfl (Or.inl rfl) (pe_call GS hr1 rfl dS.m dS.F.kp dS.b .nil pass0 (pa_cons (pe_ix ix_list (pv 1) pe_int (fun _ _ => rfl)) (pa_cons pe_int pa_nil))))
      (pss_cons (ps_asg (pe_ix ix_list (pe_lst (pa_cons (pe_tup (pa_cons pe_int (pa_cons pe_int (pa_cons pe_int pa_nil)))) (pa_cons (pe_tup (pa_cons pe_int (pa_cons pe_int (pa_cons pe_int pa_nil)))) (pa_cons (pe_tup (pa_cons pe_int (pa_cons pe_int (pa_cons pe_int pa_nil)))) (pa_cons (pe_tup (pa_cons pe_int (pa_cons pe_int (pa_cons pe_int pa_nil)))) (pa_cons (pe_tup (pa_cons pe_int (pa_cons pe_int (pa_cons pe_int pa_nil)))) pa_nil)))))) (pe_call GP hr1 rfl dP.m dP.F.kp dP.b .nil pass0 (pa_cons (pv 3) (pa_cons pe_int pa_nil))) (fun _ _ => rfl)) (pg_tup (by rfl) (pgs_cons (pg_name (i := 7) scLaw.nd rfl (Or.inl rfl)) (pgs_cons (pg_name (i := 8) scLaw.nd rfl (Or.inl rfl)) (pgs_cons (pg_name (i := 9) scLaw.nd rfl (Or.inl rfl)) pgs_nil)))))
      (pss_cons (ps_if (pt_val (pe_call GR hr rfl dR.m dR.F.kp dR.b .nil pass0 (pa_cons (pv 7) (pa_cons (pv 8) (pa_cons (pv 9) pa_nil))))) (pss_one (ps_ret pe_bl)) pss_nil)
      (pss_cons (ps_set (i := 10) scLaw.nd rfl (Or.inl rfl) (pe_lst (pa_cons (pe_tup (pa_cons pe_int (pa_cons pe_int (pa_cons pe_int pa_nil)))) (pa_cons (pe_tup (pa_cons pe_int (pa_cons pe_int (pa_cons pe_int pa_nil)))) (pa_cons (pe_tup (pa_cons pe_int (pa_cons pe_int (pa_cons pe_int pa_nil)))) (pa_cons (pe_tup (pa_cons pe_int (pa_cons pe_int (pa_cons pe_int pa_nil)))) (pa_cons (pe_tup (pa_cons pe_int (pa_cons pe_int (pa_cons pe_int pa_nil)))) (pa_cons (pe_tup (pa_cons pe_int (pa_cons pe_int (pa_cons pe_int pa_nil)))) (pa_cons (pe_tup (pa_cons pe_int (pa_cons pe_int (pa_cons pe_int pa_nil)))) (pa_cons (pe_tup (pa_cons pe_int (pa_cons pe_int (pa_cons pe_int pa_nil)))) (pa_cons (pe_tup (pa_cons pe_int (pa_cons pe_int (pa_cons pe_int pa_nil)))) pa_nil)))))))))))
      (pss_one (ps_ret (pe_callB (cr_all rfl) (by rfl) B.all (by decide +kernel) (pa_cons (pe_lc (own := [("bits", 7), ("many", 8), ("cells", 9)]) (g := gTup K 3 (gCons (gName 7) (gCons (gName 8) (gCons (gName 9) gNil)))) (te := tCall spRefused [] E0 (tCons (tVar 7) (tCons (tVar 8) (tCons (tVar 9) tNil)))) (by rfl) scLaw.nd (pi_list (pv 10)) (blkOk_by (own := [("bits", 7), ("many", 8), ("cells", 9)]) (N := NLw) (sc := defScope sLaw) (by decide +kernel))
        (fun _ _ _ _ _ => pg_tup (by rfl) (pgs_cons (pg_name (i := 7) scLaw.nd rfl (Or.inl rfl)) (pgs_cons (pg_name (i := 8) scLaw.nd rfl (Or.inl rfl)) (pgs_cons (pg_name (i := 9) scLaw.nd rfl (Or.inl rfl)) pgs_nil)))) (fun _ _ _ _ _ => pts_nil)
        (fun _ _ _ _ _ => pe_call GR hr rfl dR.m dR.F.kp dR.b .nil pass0 (pa_cons (pv 7) (pa_cons (pv 8) (pa_cons (pv 9) pa_nil))))) pa_nil))))))))), ?read⟩
    case read =>
      -- the cells
      refine seq_cut (fun σ' H' => ∃ (L : Addr) (cs : List Int), σ' = [some (.ref a), some (.ref L), none, none, none, none, none, none, none, none, none] ∧ H' L = some (.lst (cs.map V.int)) ∧ 1 ≤ cs.length ∧ cs.length ≤ 7) (fun nx imp => ?_) ?_
      · refine ⟨_, rfl, _, rfl, a, _, rfl, hS, fun p1 hp1 => ?_⟩
        have c6 : cutV (ns.map V.int) none (some (6 : Int)) = (ns.take 6).map V.int := by
          have := cutV_to (xs := ns.map V.int) (j := 6)
          rw [List.map_take]
          exact this
        have t1 := same_new hp1 (.lst (cutV (ns.map V.int) none (some (6 : Int))))
        refine ⟨(by show 1 ≤ sizeLine; decide), fun p2 hp2 => ?_⟩
        have t2 := same_new hp2 (.lst [V.int 0])
        refine ⟨_, rfl, (by show 0 ≤ sizeLine; decide), fun p3 hp3 => ?_⟩
        have t3 := same_new hp3 (.lst [])
        refine ⟨.list (ns.map PyData.int), .list [], .lst ((t1.trans (t2.trans t3)).seq hS) (ints_dp8 ns), .lst (SqL.of upd_same) .nil, shaped_ints ns, shaped_ints [], ?_⟩
        rw [eqv_nil8]
        refine .inr ⟨_, rfl, ?_⟩
        have hl6 : (ns.take 6).length ≤ 6 := by rw [List.length_take]; omega
        by_cases he : ns = []
        · subst he
          refine ⟨p2, 1, [V.int 0], rfl, rfl, t3 _ _ upd_same, by decide, by decide, by decide, fun p4 hp4 => ?_⟩
          have t4 := same_new hp4 (.lst [V.int 0])
          refine ⟨p1, p4, [], [V.int 0], rfl, rfl, SqL.of ?_, SqL.of upd_same, by decide, fun L hL => imp _ _ ⟨L, [0], rfl, ?_, by decide, by decide⟩⟩
          · exact t4 _ _ (t3 _ _ (t2 _ _ (by rw [upd_same, c6]; rfl)))
          · rw [upd_same]
            rfl
        · have e0 : decide (ns = []) = false := decide_eq_false he
          rw [e0]
          refine ⟨p2, 0, [V.int 0], rfl, rfl, t3 _ _ upd_same, by decide, by decide, by decide, fun p4 hp4 => ?_⟩
          have t4 := same_new hp4 (.lst [])
          have nl : 1 ≤ ns.length := by
            cases ns with
            | nil => exact absurd rfl he
            | cons x r => exact Nat.succ_le_succ (Nat.zero_le _)
          refine ⟨p1, p4, (ns.take 6).map V.int, [], rfl, rfl, SqL.of ?_, SqL.of upd_same, (by rw [List.length_map, sizeLine_eq]; show (ns.take 6).length + 0 ≤ _; omega), fun L hL => imp _ _ ⟨L, ns.take 6, rfl, ?_, by rw [List.length_take]; omega, by omega⟩⟩
          · exact t4 _ _ (t3 _ _ (t2 _ _ (by rw [upd_same, c6])))
          · rw [upd_same, List.append_nil]
      rintro σ H1 ⟨L, cs, rfl, hL1, cs1, cs6⟩
      have cellAt : ∀ i : Nat, i < cs.length → ∃ c, atI (cs.map V.int) ((i : Nat) : Int) = some (.int c) := fun i hi => by
        refine ⟨cs[i], atI_nat ?_⟩
        rw [List.getElem?_map, List.getElem?_eq_getElem hi]
        rfl
      have clen : (cs.map V.int).length = cs.length := List.length_map _
      refine seq_cut (fun σ' H' => ∃ (v2 v3 v4 v5 v6 : Option V), σ' = [some (.ref a), some (.ref L), v2, v3, v4, v5, v6, none, none, none, none] ∧ H' L = some (.lst (cs.map V.int))) (fun nx imp => ?_) ?_
      · refine ⟨_, rfl, L, _, rfl, .inl (SqL.of hL1), ((cs.map V.int).length : Int), rfl, by omega, by omega, ?_⟩
        refine for_range (lo := 0) (n := ((cs.map V.int).length : Int).toNat) (fun i σ H' => ∃ (v2 v3 v4 v5 v6 : Option V), σ = [some (.ref a), some (.ref L), v2, v3, v4, v5, v6, none, none, none, none] ∧ H' L = some (.lst (cs.map V.int))) ⟨none, none, none, none, none, rfl, hL1⟩ ?_ ?_
        · rintro i σ H2 hi ⟨v2, v3, v4, v5, v6, rfl, hL2⟩
          have hi : i < cs.length := by omega
          have e0 : (0 : Int) + (i : Nat) = (i : Nat) := by omega
          rw [e0]
          obtain ⟨c, hat⟩ := cellAt i hi
          -- bag
          refine seq_cut (fun σ' H' => ∃ k : Addr, σ' = [some (.ref a), some (.ref L), some (.int i), some (.ref k), v4, v5, v6, none, none, none, none] ∧ Sack H' k 0 ∧ H' L = some (.lst (cs.map V.int)) ∧ L ≠ k) (fun nx2 imp2 => ?_) ?_
          · exact ⟨_, rfl, _, rfl, L, _, _, _, rfl, rfl, SqL.of hL2, hat, _, rfl, _, _, rfl, by omega, by omega, fun k H3 hk s3 Sk => imp2 _ _ ⟨k, rfl, Sk, s3 _ _ hL2, ne_of_none hL2 hk⟩⟩
          rintro σ H3 ⟨k, rfl, S3, hL3, nLk⟩
          have nek : ∀ {H1 : Hp} {m : Nat} {b : Addr}, Sack H1 k m → H1 b = none → b ≠ k := fun S hb => by
            obtain ⟨_, _, z, _⟩ := S
            exact (ne_of_none z hb).symm
          -- machine
          refine seq_cut (fun σ' H' => ∃ (p : Addr) (o : OwnD), σ' = [some (.ref a), some (.ref L), some (.int i), some (.ref k), some (.ref p), v5, v6, none, none, none, none] ∧ Sack H' k 20 ∧ H' L = some (.lst (cs.map V.int)) ∧ Tp H' (.ref p) (ownD o) ∧ OwnOk o ∧ bitsN o ≤ 12 ∧ 1 ≤ o.names.length ∧ allN o ≤ 12) (fun nx2 imp2 => ?_) ?_
          · refine ⟨_, rfl, (by show 2 ≤ sizeLine; decide), fun q2 hq2 => ?_⟩
            have sq := same_new hq2 (.lst [V.int 8, V.int 12])
            have nq := nek S3 hq2
            have S4 := S3.same sq
            have hL4 := sq _ _ hL3
            have hq4 : (upd H3 q2 (.lst [V.int 8, V.int 12])) q2 = some (.lst [V.int 8, V.int 12]) := upd_same
            have fin : ∀ (b : Bool) (H5 : Hp) (m : Nat), m ≤ 5 → Sack H5 k m → H5 L = some (.lst (cs.map V.int)) → H5 q2 = some (.lst [V.int 8, V.int 12]) →
                ∃ mo : Int, atI [V.int 8, V.int 12] (if b then 1 else 0) = some (.int mo) ∧ 8 ≤ mo ∧ mo ≤ 12 := fun b H5 m _ _ _ _ => by
              cases b with
              | true => exact ⟨12, rfl, by decide, by decide⟩
              | false => exact ⟨8, rfl, by decide, by decide⟩
            refine ⟨_, rfl, rfl, _, rfl, ?_⟩
            by_cases hi0 : V.int ((i : Nat) : Int) = V.int 0
            · rw [decide_eq_true hi0]
              refine iteT ⟨_, rfl, k, 4, 0, rfl, S4, by decide, by decide, by decide, fun r H5 a5 b5 sb5 S5 => ?_⟩
              obtain ⟨mo, hmo, m8, m12⟩ := fin (decide (V.int r = V.int 0)) H5 1 (by decide) S5 (sb5 _ _ hL4 nLk) (sb5 _ _ hq4 nq)
              refine ⟨rfl, .inr ⟨_, rfl, q2, _, _, _, rfl, rfl, SqL.of (sb5 _ _ hq4 nq), hmo, k, mo, 1, rfl, S5, by decide, m8, m12, fun p o H6 sb6 S6 T6 hO hb1 hn1 ha1 => imp2 _ _ ⟨p, o, rfl, S6.mono (by decide), sb6 _ _ (sb5 _ _ hL4 nLk) nLk, T6, hO, hb1, hn1, ha1⟩⟩⟩
            · rw [decide_eq_false hi0]
              obtain ⟨mo, hmo, m8, m12⟩ := fin false _ 1 (by decide) (S4.mono (by decide)) hL4 hq4
              refine iteF (.inr ⟨_, rfl, q2, _, _, _, rfl, rfl, SqL.of hq4, hmo, k, mo, 0, rfl, S4, by decide, m8, m12, fun p o H6 sb6 S6 T6 hO hb1 hn1 ha1 => imp2 _ _ ⟨p, o, rfl, S6.mono (by decide), sb6 _ _ hL4 nLk, T6, hO, hb1, hn1, ha1⟩⟩)
          rintro σ H4 ⟨p, o, rfl, S4, hL4, hP4, hO, hb12, hn1, ha12⟩
          -- meaning, due
          refine seq_cut (fun σ' H' => ∃ (mA : Addr) (v : V) (to : Nat) (word : Int) (cs2 : List (Nat × Int)) (W : List Int), σ' = [some (.ref a), some (.ref L), some (.int i), some (.ref k), some (.ref p), some (.ref mA), some v, none, none, none, none] ∧ H' L = some (.lst (cs.map V.int)) ∧ Tp H' (.ref p) (ownD o) ∧ Tp H' (.ref mA) (plnD (planOf o to word cs2)) ∧ to < o.names.length ∧ (0 ≤ word ∧ word < top2 o) ∧ (∀ c ∈ cs2, c.1 < allN o ∧ 0 ≤ c.2 ∧ c.2 < top2 o) ∧ DueW o to word cs2 W ∧
            (¬ W.getD to 0 = word → Tp H' v (wdD ⟨W.take o.names.length, List.replicate o.hidden.toNat 0, W.drop o.names.length⟩)) ∧ (W.getD to 0 = word → v = .non)) (fun nx2 imp2 => ?_) ?_
          · refine ⟨_, rfl, _, rfl, p, k, o, 20, rfl, hP4, hO, S4, by decide, hn1, ha12, fun t mA v to word cs2 W H5 sb5 S5 ht T5 tl wr rc Dw d1 d2 => ?_⟩
            exact ⟨t, _, rfl, SqT.of ht, rfl, _, _, rfl, _, _, rfl, rfl, imp2 _ _ ⟨mA, v, to, word, cs2, W, rfl, sb5 _ _ hL4 nLk, hP4.keep (S4.keepT sb5), T5, tl, wr, rc, Dw, d1, d2⟩⟩
          rintro σ H5 ⟨mA, v, to, word, cs2, W, rfl, hL5, hP5, T5, tl, wr, rc, Dw, d1, d2⟩
          have hpw : tN o ^ allN o = 2 ^ bitsN o := by rw [← Nat.pow_mul]
          refine ⟨_, rfl, _, rfl, (by show 0 ≤ sizeLine; decide), fun b4 h4 => ⟨(by show 1 ≤ sizeLine; decide), fun b5 h5 => ⟨(by show 2 ≤ sizeLine; decide), fun b6 h6 => ⟨(by show 1 ≤ sizeLine; decide), fun b7 h7 => ?_⟩⟩⟩⟩
          have u4 := same_new h4 (.tup [])
          have u5 := same_new h5 (.tup [V.str (Str.ofString "end")])
          have u6 := same_new h6 (.tup [V.ref b4, V.ref b5])
          have u7 := same_new h7 (.tup [V.ref b6])
          have u47 := u4.trans (u5.trans (u6.trans u7))
          have rcl : ∀ c ∈ cs2, c.1 < allN o := fun c hc => (rc c hc).1
          refine ⟨p, mA, b7, o, planOf o to word cs2, rfl, hP5.keep (KeepT.of u47), hO, T5.keep (KeepT.of u47), planOf_ok hO tl wr rc, ?_, hb12, fun n fv H6 s6 hn hd hmin Tf => ?_, fun H6 s6 hno => ?_⟩
          · exact .tup upd_same (.cons (.tup (u7 _ _ upd_same) (.cons (.tup (u7 _ _ (u6 _ _ (u5 _ _ upd_same))) .nil) (.cons (.tup (u7 _ _ (u6 _ _ upd_same)) (.cons (.str _) .nil)) .nil))) .nil)
          · by_cases hW : W.getD to 0 = word
            · exact absurd hd (due_none hO tl rcl Dw hW n)
            · obtain ⟨n0, hn0, eW, hd0, hm0⟩ := due_some hO tl rcl Dw hW
              have en : n = n0 := by
                have g1 := hm0 n (by rw [hpw]; exact hn) hd
                rcases Nat.lt_or_ge n0 n with z | z
                · exact absurd hd0 (hmin n0 z)
                · omega
              subst en
              have es : stOf o n = ⟨W.take o.names.length, List.replicate o.hidden.toNat 0, W.drop o.names.length⟩ := by
                unfold stOf
                rw [eW]
              rw [es] at Tf
              have lens : (W.take o.names.length).length ≤ 300 ∧ (List.replicate o.hidden.toNat (0 : Int)).length ≤ 300 ∧ (W.drop o.names.length).length ≤ 300 := by
                have hh := hO.hidden
                have wl := Dw.len
                rw [List.length_take, List.length_replicate, List.length_drop]
                omega
              obtain ⟨nd1, nd2⟩ := narrow_wd8 (s := ⟨W.take o.names.length, List.replicate o.hidden.toNat 0, W.drop o.names.length⟩) lens
              refine ⟨_, rfl, .inr ⟨fv, v, _, rfl, Tf, ((d1 hW).keep (KeepT.of u47)).keep (KeepT.of s6), nd1, nd2, fun H7 s7 => ⟨_, rfl, iteF ⟨_, _, _, _, _, rfl, s7 _ _ (s6 _ _ (u47 _ _ hL5))⟩⟩⟩⟩
          · by_cases hW : W.getD to 0 = word
            · have ev := d2 hW
              subst ev
              exact ⟨_, rfl, .inl ⟨rfl, _, rfl, iteF ⟨_, _, _, _, _, rfl, s6 _ _ (u47 _ _ hL5)⟩⟩⟩
            · obtain ⟨n0, hn0, eW, hd0, hm0⟩ := due_some hO tl rcl Dw hW
              exact absurd hd0 (hno n0 (by rw [← hpw]; exact hn0))
        · rintro σ H2 ⟨v2, v3, v4, v5, v6, rfl, hL2⟩
          exact imp _ _ ⟨_, _, _, _, _, rfl, hL2⟩
      rintro σ H2 ⟨v2, v3, v4, v5, v6, rfl, hL2⟩
      obtain ⟨c, hat⟩ := cellAt 0 (by omega)
      -- bag
      refine seq_cut (fun σ' H' => ∃ k : Addr, σ' = [some (.ref a), some (.ref L), v2, some (.ref k), v4, v5, v6, none, none, none, none] ∧ Sack H' k 0) (fun nx2 imp2 => ?_) ?_
      · exact ⟨_, rfl, L, _, _, _, rfl, rfl, SqL.of hL2, hat, _, _, rfl, by decide, by decide, fun k H3 hk s3 Sk => imp2 _ _ ⟨k, rfl, Sk⟩⟩
      rintro σ H3 ⟨k, rfl, S3⟩
      -- one of those that are gone through
      refine seq_cut (fun σ' H' => ∃ x : Int × Int × Int, σ' = [some (.ref a), some (.ref L), v2, some (.ref k), v4, v5, v6, some (.int x.1), some (.int x.2.1), some (.int x.2.2), none] ∧ x ∈ fewL) (fun nx2 imp2 => ?_) ?_
      · refine ⟨(by show 3 ≤ sizeLine; decide), fun b1 h1 => ⟨(by show 3 ≤ sizeLine; decide), fun b2 h2 => ⟨(by show 3 ≤ sizeLine; decide), fun b3 h3 => ⟨(by show 3 ≤ sizeLine; decide), fun b4 h4 => ⟨(by show 3 ≤ sizeLine; decide), fun b5 h5 => ⟨(by show 5 ≤ sizeLine; decide), fun b6 h6 => ?_⟩⟩⟩⟩⟩⟩
        have u1 := same_new h1 (.tup [V.int 2, V.int 2, V.int 4])
        have u2 := same_new h2 (.tup [V.int 3, V.int 1, V.int 3])
        have u3 := same_new h3 (.tup [V.int 4, V.int 1, V.int 2])
        have u4 := same_new h4 (.tup [V.int 6, V.int 1, V.int 1])
        have u5 := same_new h5 (.tup [V.int 2, V.int 6, V.int 0])
        have u6 := same_new h6 (.lst [V.ref b1, V.ref b2, V.ref b3, V.ref b4, V.ref b5])
        have pr : Paired (tripV _) fewL [V.ref b1, V.ref b2, V.ref b3, V.ref b4, V.ref b5] :=
          .cons ⟨b1, rfl, u6 _ _ (u5 _ _ (u4 _ _ (u3 _ _ (u2 _ _ upd_same))))⟩ (.cons ⟨b2, rfl, u6 _ _ (u5 _ _ (u4 _ _ (u3 _ _ upd_same)))⟩ (.cons ⟨b3, rfl, u6 _ _ (u5 _ _ (u4 _ _ upd_same))⟩ (.cons ⟨b4, rfl, u6 _ _ (u5 _ _ upd_same)⟩ (.cons ⟨b5, rfl, u6 _ _ upd_same⟩ .nil))))
        have S6 := S3.same (u1.trans (u2.trans (u3.trans (u4.trans (u5.trans u6)))))
        have n6 : b6 ≠ k := by
          have S5 := S3.same (u1.trans (u2.trans (u3.trans (u4.trans u5))))
          obtain ⟨_, _, z, _⟩ := S5
          exact (ne_of_none z h6).symm
        refine ⟨_, rfl, k, 5, 0, rfl, S6, by decide, by decide, by decide, fun r H7 a7 b7 sb7 S7 => ?_⟩
        have h6' := sb7 _ _ (upd_same (a := b6)) n6
        obtain ⟨vv, hvm, hvat⟩ := at_lt (xs := [V.ref b1, V.ref b2, V.ref b3, V.ref b4, V.ref b5]) a7 (by show r < (5 : Int); exact b7)
        obtain ⟨ix, hix⟩ := List.getElem?_of_mem hvm
        obtain ⟨x, hx, xa, rfl, hxa⟩ := trip_get pr hix
        have hxa7 := (S6.keepT sb7) _ _ hxa
        exact ⟨b6, _, _, _, rfl, rfl, SqL.of h6', hvat, xa, _, rfl, SqT.of hxa7, rfl, _, _, rfl, _, _, rfl, _, _, rfl, rfl, imp2 _ _ ⟨x, rfl, hx⟩⟩
      rintro σ H4 ⟨x, rfl, hx⟩
      obtain ⟨kx, nx12⟩ := fewL_ok x hx
      refine seq_cut (fun σ' H' => ∃ v2 v3 v4 v5 v6 v7 v8 v9, σ' = [some (.ref a), some (.ref L), v2, v3, v4, v5, v6, v7, v8, v9, none]) (fun nx2 imp2 => ?_) ?_
      · refine ⟨_, rfl, _, rfl, _, rfl, _, _, _, rfl, kx, fun H5 s5 => ⟨_, rfl, ?_⟩⟩
        rw [decide_eq_false nx12]
        exact iteF (imp2 _ _ ⟨_, _, _, _, _, _, _, _, rfl⟩)
      rintro σ H5 ⟨v2, v3, v4, v5, v6, v7, v8, v9, rfl⟩
      -- those that are refused
      refine seq_cut (fun σ' H' => ∃ (M : Addr) (vs : List V), σ' = [some (.ref a), some (.ref L), v2, v3, v4, v5, v6, v7, v8, v9, some (.ref M)] ∧ H' M = some (.lst vs) ∧ Paired (tripV H') manyL vs) (fun nx2 imp2 => ?_) ?_
      · refine ⟨(by show 3 ≤ sizeLine; decide), fun b1 h1 => ⟨(by show 3 ≤ sizeLine; decide), fun b2 h2 => ⟨(by show 3 ≤ sizeLine; decide), fun b3 h3 => ⟨(by show 3 ≤ sizeLine; decide), fun b4 h4 => ⟨(by show 3 ≤ sizeLine; decide), fun b5 h5 => ⟨(by show 3 ≤ sizeLine; decide), fun b6 h6 => ⟨(by show 3 ≤ sizeLine; decide), fun b7 h7 => ⟨(by show 3 ≤ sizeLine; decide), fun b8 h8 => ⟨(by show 3 ≤ sizeLine; decide), fun b9 h9 => ⟨(by show 9 ≤ sizeLine; decide), fun M hM => ?_⟩⟩⟩⟩⟩⟩⟩⟩⟩⟩
        have u2 := same_new h2 (.tup [V.int 3, V.int 1, V.int 4])
        have u3 := same_new h3 (.tup [V.int 4, V.int 1, V.int 3])
        have u4 := same_new h4 (.tup [V.int 4, V.int 2, V.int 16])
        have u5 := same_new h5 (.tup [V.int 7, V.int 1, V.int 1])
        have u6 := same_new h6 (.tup [V.int 8, V.int 1, V.int 256])
        have u7 := same_new h7 (.tup [V.int 2, V.int 6, V.int 1])
        have u8 := same_new h8 (.tup [V.int 7, V.int 2, V.int 0])
        have u9 := same_new h9 (.tup [V.int 3, V.int 5, V.int 0])
        have uM := same_new hM (.lst [V.ref b1, V.ref b2, V.ref b3, V.ref b4, V.ref b5, V.ref b6, V.ref b7, V.ref b8, V.ref b9])
        have w9 := u9.trans uM
        have w8 := u8.trans w9
        have w7 := u7.trans w8
        have w6 := u6.trans w7
        have w5 := u5.trans w6
        have w4 := u4.trans w5
        have w3 := u3.trans w4
        have w2 := u2.trans w3
        exact imp2 _ _ ⟨M, _, rfl, upd_same, .cons ⟨b1, rfl, w2 _ _ upd_same⟩ (.cons ⟨b2, rfl, w3 _ _ upd_same⟩ (.cons ⟨b3, rfl, w4 _ _ upd_same⟩ (.cons ⟨b4, rfl, w5 _ _ upd_same⟩ (.cons ⟨b5, rfl, w6 _ _ upd_same⟩ (.cons ⟨b6, rfl, w7 _ _ upd_same⟩ (.cons ⟨b7, rfl, w8 _ _ upd_same⟩ (.cons ⟨b8, rfl, w9 _ _ upd_same⟩ (.cons ⟨b9, rfl, uM _ _ upd_same⟩ .nil))))))))⟩
      rintro σ H6 ⟨M, vs, rfl, hM, pr⟩
      have vl : vs.length ≤ 9 := by rw [← pr.length]; decide
      refine ⟨_, rfl, M, rfl, ⟨_, SqL.of hM⟩, fun D0 hD0 => ?_⟩
      refine lc_list (K := K) (a := M) (xs := vs) (fun i H7 => Same H6 H7 ∧ H7 D0 = some (.lst ((List.replicate i true).map V.bl))) ⟨same_new hD0 _, by rw [upd_same]; rfl⟩ (fun i H7 _ z => SqL.of (z.1 _ _ hM)) ?_ ?_
      · rintro i v H7 hv ⟨s7, hd7⟩
        obtain ⟨x, hx, xa, rfl, hxa⟩ := trip_get pr hv
        obtain ⟨kx, x12⟩ := manyL_ok x hx
        have hi := (List.getElem?_eq_some_iff.mp hv).1
        refine ⟨xa, _, rfl, SqT.of (s7 _ _ hxa), rfl, _, _, rfl, _, _, rfl, _, _, rfl, rfl, rfl, _, rfl, _, rfl, _, rfl, _, _, _, rfl, kx, fun H8 s8 => ?_⟩
        rw [decide_eq_true x12]
        refine ⟨_, s8 _ _ hd7, ?_, ?_, ?_⟩
        · rw [List.length_map, List.length_replicate]
          exact small1000 (by omega)
        · intro c o e
          rw [upd_ne (ne_of_none e hD0)]
          exact s8 _ _ (s7 _ _ e)
        · rw [upd_same, List.replicate_succ', List.map_append]
          rfl
      · rintro H7 ⟨s7, hd7⟩
        refine ⟨D0, List.replicate vs.length true, rfl, SqL.of hd7, ?_⟩
        have e : (List.replicate vs.length true).all id = true := List.all_eq_true.mpr fun c hc => (List.mem_replicate.mp hc).2
        rw [e]
        exact q H7
end
end My
set_option Elab.async false
set_option linter.all false
set_option maxRecDepth 100000
set_option maxHeartbeats 2000000
namespace My
open PySem L2 TL
theorem all_mk {l : PySem.W.OpenLaw} {w : World} {K : PySem.W.Frag} {h : Heap} {mg : Str → Option Value} {fa : Addr} (X : K.In h) (G : h.Ns mainGlobals mg) (hfa : mg "law" = some (.ref fa))
    {f1 f2 f3 f4 f5 f6 f7 f8 f9 f10 f11 f12 f13 f14 f15 f16 f17 f18 f19 : Addr} {od1 an1 od2 an2 od3 an3 od4 an4 od5 an5 od6 an6 od7 an7 od8 an8 od9 an9 od10 an10 od11 an11 od12 an12 od13 an13 od14 an14 od15 an15 od16 an16 od17 an17 od18 an18 od19 an19 : Option Addr} {sl1 sl2 sl3 sl4 sl5 sl6 sl7 sl8 sl9 sl10 sl11 sl12 sl13 sl14 sl15 sl16 sl17 sl18 sl19 : Array (Option Value)} {oc1 kV1 dc1 pm1 cd1 ct1 oc2 kV2 dc2 pm2 cd2 ct2 oc3 kV3 dc3 pm3 cd3 ct3 oc4 kV4 dc4 pm4 cd4 ct4 oc5 kV5 dc5 pm5 cd5 ct5 oc6 kV6 dc6 pm6 cd6 ct6 oc7 kV7 dc7 pm7 cd7 ct7 oc8 kV8 dc8 pm8 cd8 ct8 oc9 kV9 dc9 pm9 cd9 ct9 oc10 kV10 dc10 pm10 cd10 ct10 oc11 kV11 dc11 pm11 cd11 ct11 oc12 kV12 dc12 pm12 cd12 ct12 oc13 kV13 dc13 pm13 cd13 ct13 oc14 kV14 dc14 pm14 cd14 ct14 oc15 kV15 dc15 pm15 cd15 ct15 oc16 kV16 dc16 pm16 cd16 ct16 oc17 kV17 dc17 pm17 cd17 ct17 oc18 kV18 dc18 pm18 cd18 ct18 oc19 kV19 dc19 pm19 cd19 ct19 : Value}
    (a1 : PySem.W.nsIn K mainGlobals "word_limit" = some (some (.ref f1))) (l1 : K.lookup f1 = some ⟨oc1, od1, .func (PySem.W.fnOf "word_limit" "word_limit" (defArgs sLimit) (defBody sLimit) (defScope sLimit) .none kV1 dc1 pm1 an1 cd1 ct1), sl1⟩) (c1 : PySem.W.codeIn K cd1 "word_limit" = true) (k1 : PySem.W.keepIn K (.ref f1) = true)
    (a2 : PySem.W.nsIn K mainGlobals "op_word" = some (some (.ref f2))) (l2 : K.lookup f2 = some ⟨oc2, od2, .func (PySem.W.fnOf "op_word" "op_word" (defArgs sOpW) (defBody sOpW) (defScope sOpW) .none kV2 dc2 pm2 an2 cd2 ct2), sl2⟩) (c2 : PySem.W.codeIn K cd2 "op_word" = true) (k2 : PySem.W.keepIn K (.ref f2) = true)
    (a3 : PySem.W.nsIn K mainGlobals "meant" = some (some (.ref f3))) (l3 : K.lookup f3 = some ⟨oc3, od3, .func (PySem.W.fnOf "meant" "meant" (defArgs sMeant) (defBody sMeant) (defScope sMeant) .none kV3 dc3 pm3 an3 cd3 ct3), sl3⟩) (c3 : PySem.W.codeIn K cd3 "meant" = true) (k3 : PySem.W.keepIn K (.ref f3) = true)
    (a4 : PySem.W.nsIn K mainGlobals "do_meant" = some (some (.ref f4))) (l4 : K.lookup f4 = some ⟨oc4, od4, .func (PySem.W.fnOf "do_meant" "do_meant" (defArgs sDM) (defBody sDM) (defScope sDM) .none kV4 dc4 pm4 an4 cd4 ct4), sl4⟩) (c4 : PySem.W.codeIn K cd4 "do_meant" = true) (k4 : PySem.W.keepIn K (.ref f4) = true)
    (a5 : PySem.W.nsIn K mainGlobals "term_word" = some (some (.ref f5))) (l5 : K.lookup f5 = some ⟨oc5, od5, .func (PySem.W.fnOf "term_word" "term_word" (defArgs sTW) (defBody sTW) (defScope sTW) .none kV5 dc5 pm5 an5 cd5 ct5), sl5⟩) (c5 : PySem.W.codeIn K cd5 "term_word" = true) (k5 : PySem.W.keepIn K (.ref f5) = true)
    (a6 : PySem.W.nsIn K mainGlobals "row_done" = some (some (.ref f6))) (l6 : K.lookup f6 = some ⟨oc6, od6, .func (PySem.W.fnOf "row_done" "row_done" (defArgs sRD) (defBody sRD) (defScope sRD) .none kV6 dc6 pm6 an6 cd6 ct6), sl6⟩) (c6 : PySem.W.codeIn K cd6 "row_done" = true) (k6 : PySem.W.keepIn K (.ref f6) = true)
    (a7 : PySem.W.nsIn K mainGlobals "stray_cell" = some (some (.ref f7))) (l7 : K.lookup f7 = some ⟨oc7, od7, .func (PySem.W.fnOf "stray_cell" "stray_cell" (defArgs sStray) (defBody sStray) (defScope sStray) .none kV7 dc7 pm7 an7 cd7 ct7), sl7⟩) (c7 : PySem.W.codeIn K cd7 "stray_cell" = true) (k7 : PySem.W.keepIn K (.ref f7) = true)
    (a8 : PySem.W.nsIn K mainGlobals "run" = some (some (.ref f8))) (l8 : K.lookup f8 = some ⟨oc8, od8, .func (PySem.W.fnOf "run" "run" (defArgs sRun) (defBody sRun) (defScope sRun) .none kV8 dc8 pm8 an8 cd8 ct8), sl8⟩) (c8 : PySem.W.codeIn K cd8 "run" = true) (k8 : PySem.W.keepIn K (.ref f8) = true)
    (a9 : PySem.W.nsIn K mainGlobals "differs" = some (some (.ref f9))) (l9 : K.lookup f9 = some ⟨oc9, od9, .func (PySem.W.fnOf "differs" "differs" (defArgs sDiffers) (defBody sDiffers) (defScope sDiffers) .none kV9 dc9 pm9 an9 cd9 ct9), sl9⟩) (c9 : PySem.W.codeIn K cd9 "differs" = true) (k9 : PySem.W.keepIn K (.ref f9) = true)
    (a10 : PySem.W.nsIn K mainGlobals "state_of" = some (some (.ref f10))) (l10 : K.lookup f10 = some ⟨oc10, od10, .func (PySem.W.fnOf "state_of" "state_of" (defArgs sStateOf) (defBody sStateOf) (defScope sStateOf) .none kV10 dc10 pm10 an10 cd10 ct10), sl10⟩) (c10 : PySem.W.codeIn K cd10 "state_of" = true) (k10 : PySem.W.keepIn K (.ref f10) = true)
    (a11 : PySem.W.nsIn K mainGlobals "visible_behind" = some (some (.ref f11))) (l11 : K.lookup f11 = some ⟨oc11, od11, .func (PySem.W.fnOf "visible_behind" "visible_behind" (defArgs sVisB) (defBody sVisB) (defScope sVisB) .none kV11 dc11 pm11 an11 cd11 ct11), sl11⟩) (c11 : PySem.W.codeIn K cd11 "visible_behind" = true) (k11 : PySem.W.keepIn K (.ref f11) = true)
    (a12 : PySem.W.nsIn K mainGlobals "_law_bag" = some (some (.ref f12))) (l12 : K.lookup f12 = some ⟨oc12, od12, .func (PySem.W.fnOf "_law_bag" "_law_bag" (defArgs sSack) (defBody sSack) (defScope sSack) .none kV12 dc12 pm12 an12 cd12 ct12), sl12⟩) (c12 : PySem.W.codeIn K cd12 "_law_bag" = true) (k12 : PySem.W.keepIn K (.ref f12) = true)
    (a13 : PySem.W.nsIn K mainGlobals "_law_draw" = some (some (.ref f13))) (l13 : K.lookup f13 = some ⟨oc13, od13, .func (PySem.W.fnOf "_law_draw" "_law_draw" (defArgs sPull) (defBody sPull) (defScope sPull) .none kV13 dc13 pm13 an13 cd13 ct13), sl13⟩) (c13 : PySem.W.codeIn K cd13 "_law_draw" = true) (k13 : PySem.W.keepIn K (.ref f13) = true)
    (a14 : PySem.W.nsIn K mainGlobals "_law_same" = some (some (.ref f14))) (l14 : K.lookup f14 = some ⟨oc14, od14, .func (PySem.W.fnOf "_law_same" "_law_same" (defArgs sSame) (defBody sSame) (defScope sSame) .none kV14 dc14 pm14 an14 cd14 ct14), sl14⟩) (c14 : PySem.W.codeIn K cd14 "_law_same" = true) (k14 : PySem.W.keepIn K (.ref f14) = true)
    (a15 : PySem.W.nsIn K mainGlobals "_law_machine" = some (some (.ref f15))) (l15 : K.lookup f15 = some ⟨oc15, od15, .func (PySem.W.fnOf "_law_machine" "_law_machine" (defArgs sMachine) (defBody sMachine) (defScope sMachine) .none kV15 dc15 pm15 an15 cd15 ct15), sl15⟩) (c15 : PySem.W.codeIn K cd15 "_law_machine" = true) (k15 : PySem.W.keepIn K (.ref f15) = true)
    (a16 : PySem.W.nsIn K mainGlobals "_law_term" = some (some (.ref f16))) (l16 : K.lookup f16 = some ⟨oc16, od16, .func (PySem.W.fnOf "_law_term" "_law_term" (defArgs sTermL) (defBody sTermL) (defScope sTermL) .none kV16 dc16 pm16 an16 cd16 ct16), sl16⟩) (c16 : PySem.W.codeIn K cd16 "_law_term" = true) (k16 : PySem.W.keepIn K (.ref f16) = true)
    (a17 : PySem.W.nsIn K mainGlobals "_law_case" = some (some (.ref f17))) (l17 : K.lookup f17 = some ⟨oc17, od17, .func (PySem.W.fnOf "_law_case" "_law_case" (defArgs sCase) (defBody sCase) (defScope sCase) .none kV17 dc17 pm17 an17 cd17 ct17), sl17⟩) (c17 : PySem.W.codeIn K cd17 "_law_case" = true) (k17 : PySem.W.keepIn K (.ref f17) = true)
    (a18 : PySem.W.nsIn K mainGlobals "_law_refused" = some (some (.ref f18))) (l18 : K.lookup f18 = some ⟨oc18, od18, .func (PySem.W.fnOf "_law_refused" "_law_refused" (defArgs sRefused) (defBody sRefused) (defScope sRefused) .none kV18 dc18 pm18 an18 cd18 ct18), sl18⟩) (c18 : PySem.W.codeIn K cd18 "_law_refused" = true) (k18 : PySem.W.keepIn K (.ref f18) = true)
    (a19 : PySem.W.nsIn K mainGlobals "law" = some (some (.ref f19))) (l19 : K.lookup f19 = some ⟨oc19, od19, .func (PySem.W.fnOf "law" "law" (defArgs sLaw) (defBody sLaw) (defScope sLaw) .none kV19 dc19 pm19 an19 cd19 ct19), sl19⟩) (c19 : PySem.W.codeIn K cd19 "law" = true) (k19 : PySem.W.keepIn K (.ref f19) = true)
    {emany eloft : Addr} (emmany : PySem.W.nsIn K mainGlobals "TooMany" = some (some (.ref emany))) (emloft : PySem.W.nsIn K mainGlobals "LoftError" = some (some (.ref eloft))) (exi : PySem.W.excIn K emany [.type "ValueError", .type "Exception", .type "BaseException", .type "object"] "ValueError.__new__" = true) (exo : PySem.W.exmOne K (.ref emany) (.ref eloft) = some true) (exg : PySem.W.findIn K (.ref emany) "__getattribute__" = some (some (.builtin "BaseException.__getattribute__"))) (exh : PySem.W.findIn K (.ref emany) "__getattr__" = some none) (exc : PySem.W.hasDictIn K emany = true) (exa : PySem.W.findIn K (.ref emany) "__class__" = some (some (.builtin "object.__class__"))) (exm : PySem.W.mroIn K emany (.type "object") = some true) (exb : PySem.W.mroIn K emany (.type "BaseException") = some true) (exv : PySem.W.kitOne K (.ref emany) (.type "ValueError") = some true) (exn : PySem.W.kitOne K (.type "NoneType") (.ref emany) = some false)
    {gt1 : Tok} (gm1 : PySem.W.nsIn K mainGlobals "MOST_BITS" = some (some (.int 12 gt1)))
    (z1 : PySem.W.nsIn K mainGlobals "isinstance" = some none) (z2 : PySem.W.nsIn K mainGlobals "tuple" = some none) (z3 : PySem.W.nsIn K mainGlobals "str" = some none) (z4 : PySem.W.nsIn K mainGlobals "int" = some none) (z5 : PySem.W.nsIn K mainGlobals "len" = some none) (z6 : PySem.W.nsIn K mainGlobals "range" = some none) (z7 : PySem.W.nsIn K mainGlobals "max" = some none) (z8 : PySem.W.nsIn K mainGlobals "min" = some none) (z9 : PySem.W.nsIn K mainGlobals "list" = some none) (z10 : PySem.W.nsIn K mainGlobals "all" = some none) (z11 : PySem.W.nsIn K mainGlobals "zip" = some none) (z12 : PySem.W.nsIn K mainGlobals "bool" = some none) (z13 : PySem.W.nsIn K mainGlobals "sorted" = some none) (z14 : PySem.W.nsIn K mainGlobals "enumerate" = some none) (z15 : PySem.W.nsIn K mainGlobals "ValueError" = some none) :
    ∃ fd : FuncData, (∀ (s : Shared) (v : Value), BindsTo s fd ⟨[v], []⟩ [("script", v)]) ∧ ∀ base : Heap, K.In base → base.Ns mainGlobals mg → FnOk l.prog w K mg base CX0 13 fa fd ["script"] (spLaw K) := by
  have e := hfa.symm.trans (PySem.W.mg_of X G a19)
  cases e
  have F1 := fun_mk (st := sLimit) l1 c1 k1
  have F2 := fun_mk (st := sOpW) l2 c2 k2
  have F3 := fun_mk (st := sMeant) l3 c3 k3
  have F4 := fun_mk (st := sDM) l4 c4 k4
  have F5 := fun_mk (st := sTW) l5 c5 k5
  have F6 := fun_mk (st := sRD) l6 c6 k6
  have F7 := fun_mk (st := sStray) l7 c7 k7
  have F8 := fun_mk (st := sRun) l8 c8 k8
  have F9 := fun_mk (st := sDiffers) l9 c9 k9
  have F10 := fun_mk (st := sStateOf) l10 c10 k10
  have F11 := fun_mk (st := sVisB) l11 c11 k11
  have F12 := fun_mk (st := sSack) l12 c12 k12
  have F13 := fun_mk (st := sPull) l13 c13 k13
  have F14 := fun_mk (st := sSame) l14 c14 k14
  have F15 := fun_mk (st := sMachine) l15 c15 k15
  have F16 := fun_mk (st := sTermL) l16 c16 k16
  have F17 := fun_mk (st := sCase) l17 c17 k17
  have F18 := fun_mk (st := sRefused) l18 c18 k18
  have F19 := fun_mk (st := sLaw) l19 c19 k19
  have b1 := F1.binds (ps := ["machine"]) fun _ _ _ _ _ _ us hl => match us, hl with | [_], _ => rfl
  let d1 : Df K mg "word_limit" sLimit ["machine"] := ⟨f1, _, F1, b1, PySem.W.mg_of X G a1⟩
  have b2 := F2.binds (ps := ["machine", "op", "one", "other"]) fun _ _ _ _ _ _ us hl => match us, hl with | [_, _, _, _], _ => rfl
  let d2 : Df K mg "op_word" sOpW ["machine", "op", "one", "other"] := ⟨f2, _, F2, b2, PySem.W.mg_of X G a2⟩
  have b3 := F3.binds (ps := ["machine", "meaning", "state"]) fun _ _ _ _ _ _ us hl => match us, hl with | [_, _, _], _ => rfl
  let d3 : Df K mg "meant" sMeant ["machine", "meaning", "state"] := ⟨f3, _, F3, b3, PySem.W.mg_of X G a3⟩
  have b4 := F4.binds (ps := ["machine", "meaning", "state"]) fun _ _ _ _ _ _ us hl => match us, hl with | [_, _, _], _ => rfl
  let d4 : Df K mg "do_meant" sDM ["machine", "meaning", "state"] := ⟨f4, _, F4, b4, PySem.W.mg_of X G a4⟩
  have b5 := F5.binds (ps := ["machine", "term", "state"]) fun _ _ _ _ _ _ us hl => match us, hl with | [_, _, _], _ => rfl
  let d5 : Df K mg "term_word" sTW ["machine", "term", "state"] := ⟨f5, _, F5, b5, PySem.W.mg_of X G a5⟩
  have b6 := F6.binds (ps := ["machine", "state", "orders"]) fun _ _ _ _ _ _ us hl => match us, hl with | [_, _, _], _ => rfl
  let d6 : Df K mg "row_done" sRD ["machine", "state", "orders"] := ⟨f6, _, F6, b6, PySem.W.mg_of X G a6⟩
  have b7 := F7.binds (ps := ["machine", "state", "orders"]) fun _ _ _ _ _ _ us hl => match us, hl with | [_, _, _], _ => rfl
  let d7 : Df K mg "stray_cell" sStray ["machine", "state", "orders"] := ⟨f7, _, F7, b7, PySem.W.mg_of X G a7⟩
  have b8 := F8.binds (ps := ["machine", "program", "state"]) fun _ _ _ _ _ _ us hl => match us, hl with | [_, _, _], _ => rfl
  let d8 : Df K mg "run" sRun ["machine", "program", "state"] := ⟨f8, _, F8, b8, PySem.W.mg_of X G a8⟩
  have b9 := F9.binds (ps := ["machine", "meaning", "program"]) fun _ _ _ _ _ _ us hl => match us, hl with | [_, _, _], _ => rfl
  let d9 : Df K mg "differs" sDiffers ["machine", "meaning", "program"] := ⟨f9, _, F9, b9, PySem.W.mg_of X G a9⟩
  have b10 := F10.binds (ps := ["machine", "number"]) fun _ _ _ _ _ _ us hl => match us, hl with | [_, _], _ => rfl
  let d10 : Df K mg "state_of" sStateOf ["machine", "number"] := ⟨f10, _, F10, b10, PySem.W.mg_of X G a10⟩
  have b11 := F11.binds (ps := ["machine", "program", "state"]) fun _ _ _ _ _ _ us hl => match us, hl with | [_, _, _], _ => rfl
  let d11 : Df K mg "visible_behind" sVisB ["machine", "program", "state"] := ⟨f11, _, F11, b11, PySem.W.mg_of X G a11⟩
  have b12 := F12.binds (ps := ["cell", "k"]) fun _ _ _ _ _ _ us hl => match us, hl with | [_, _], _ => rfl
  let d12 : Df K mg "_law_bag" sSack ["cell", "k"] := ⟨f12, _, F12, b12, PySem.W.mg_of X G a12⟩
  have b13 := F13.binds (ps := ["bag", "many"]) fun _ _ _ _ _ _ us hl => match us, hl with | [_, _], _ => rfl
  let d13 : Df K mg "_law_draw" sPull ["bag", "many"] := ⟨f13, _, F13, b13, PySem.W.mg_of X G a13⟩
  have b14 := F14.binds (ps := ["found", "due"]) fun _ _ _ _ _ _ us hl => match us, hl with | [_, _], _ => rfl
  let d14 : Df K mg "_law_same" sSame ["found", "due"] := ⟨f14, _, F14, b14, PySem.W.mg_of X G a14⟩
  have b15 := F15.binds (ps := ["bag", "most"]) fun _ _ _ _ _ _ us hl => match us, hl with | [_, _], _ => rfl
  let d15 : Df K mg "_law_machine" sMachine ["bag", "most"] := ⟨f15, _, F15, b15, PySem.W.mg_of X G a15⟩
  have b16 := F16.binds (ps := ["machine", "at"]) fun _ _ _ _ _ _ us hl => match us, hl with | [_, _], _ => rfl
  let d16 : Df K mg "_law_term" sTermL ["machine", "at"] := ⟨f16, _, F16, b16, PySem.W.mg_of X G a16⟩
  have b17 := F17.binds (ps := ["machine", "bag"]) fun _ _ _ _ _ _ us hl => match us, hl with | [_, _], _ => rfl
  let d17 : Df K mg "_law_case" sCase ["machine", "bag"] := ⟨f17, _, F17, b17, PySem.W.mg_of X G a17⟩
  have b18 := F18.binds (ps := ["bits", "many", "cells"]) fun _ _ _ _ _ _ us hl => match us, hl with | [_, _, _], _ => rfl
  let d18 : Df K mg "_law_refused" sRefused ["bits", "many", "cells"] := ⟨f18, _, F18, b18, PySem.W.mg_of X G a18⟩
  let DP : DfP K mg := ⟨d1, d2, d5, d4⟩
  let D : DfF K mg := ⟨DP, d3, d6, d7, d8, d11, d10⟩
  have bval : mg "ValueError" = none := PySem.W.mg_none_of X G z15
  let R : Errs K mg := ⟨emany, eloft, PySem.W.mg_of X G emmany, PySem.W.mg_of X G emloft, exi, exo, ⟨exg, exh, exc, exa, exm, exb⟩, exv, exn, bval⟩
  have MB : MostB mg := ⟨⟨_, PySem.W.mg_of X G gm1⟩⟩
  have B : Bl mg := ⟨PySem.W.mg_none_of X G z1, PySem.W.mg_none_of X G z2, PySem.W.mg_none_of X G z3, PySem.W.mg_none_of X G z4, PySem.W.mg_none_of X G z5, PySem.W.mg_none_of X G z6, PySem.W.mg_none_of X G z7, PySem.W.mg_none_of X G z8, PySem.W.mg_none_of X G z9, PySem.W.mg_none_of X G z10, PySem.W.mg_none_of X G z11, PySem.W.mg_none_of X G z12, PySem.W.mg_none_of X G z13, PySem.W.mg_none_of X G z14⟩
  exact ⟨PySem.W.fnOf "law" "law" (defArgs sLaw) (defBody sLaw) (defScope sLaw) .none kV19 dc19 pm19 an19 cd19 ct19, fun s v => .of_eq rfl, fun base _ _ => ok_law R F19 D MB d9 d12 d13 d14 d15 d16 d17 d18 B⟩
end My
namespace My
open PySem PySem.Spec PyProof.Rows PySem.W PySem.Calls L2
theorem bits_of {ns : List Int} (h : WData.layableAll [WData.list (ns.map WData.int)] = true) : ∀ x ∈ ns, Builtin.Int.intBits x ≤ 2 ^ 20 := by
  intro x hx
  have h1 : (WData.list (ns.map WData.int)).layable = true := by
    unfold WData.layableAll at h
    rw [List.all_cons, Bool.and_eq_true] at h
    exact h.1
  obtain ⟨c, _, wt⟩ := layableW_iff.mp h1
  have c2 : WData.canLayAll (ns.map WData.int) = true := by simpa only [WData.canLay] using c
  simp only [WData.weight] at wt
  have z := (items_part (List.mem_map.mpr ⟨x, hx, rfl⟩) c2).2.2
  simp only [WData.weight] at z
  exact Nat.le_trans z wt
/-- the goal of the top, with the bits of the script's numbers -/
theorem walk {l : PySem.W.OpenLaw} {q : Program} {loose : List Str} {XP : (Str → Option Value) → Heap → Prop} {YP : World → Heap → Prop} {d : DefRec} {K : Params → PySem.W.Frag} (hn : l.most = some 63) (hdf : d.params.defaults = [])
    (hY : ∀ (w : World) (h : Heap), YP w h → (K w.params).In h)
    (F : ∀ (w : World) (mg : Str → Option Value) (fa : Addr) (h : Heap), (K w.params).In h → h.Ns mainGlobals mg → mg d.name = some (.ref fa) →
      ∃ fd : FuncData, (∀ (s : Shared) (u : Value), BindsTo s fd ⟨[u], []⟩ [("script", u)]) ∧ ∀ base : Heap, (K w.params).In base → base.Ns mainGlobals mg → FnOk l.prog w (K w.params) mg base CX0 13 fa fd ["script"] (spLaw (K w.params))) :
    PySem.W.WalkO q loose XP YP l.row.toRowW d [] (fun f vs => PySem.call f vs) := by
  intro w s₀ s₁ mg mb G Y fa o pm cd doc dV kV ho hd hcd hD hmg hg args vals as hpre hlay hrd hwl hlo
  obtain rfl : dV = .none := Dflts.none hD hdf
  obtain rfl : kV = .none := Dflts.noKw hD
  obtain ⟨a, vs, ns, rfl, rfl, hobj, hints, hlen⟩ := Att.script_of hn hpre hwl
  have KX := hY w _ Y
  obtain ⟨fd, hb, hF⟩ := F w mg fa _ KX G.T.g hmg
  refine enter_call (codeAny_mono (law_call KX G.T.g G.T.b G.T.builtins G.T.nolimit hg hobj hints (Nat.le_trans hlen (by decide)) ⟨rfl, by decide, by decide⟩ hF hb (fun H hO hS => ⟨a, ns, rfl, hS, hlen, bits_of hlay, fun _ => rfl⟩) fun H e s' z => z) fun r s' hq => ?_)
  obtain ⟨rfl, h2, h3, h4⟩ := hq
  exact ⟨.inl ⟨.bool true, .bool true, [], rfl, fun _ => rfl, .bool true, Att.post_true l _, fun _ => ⟨List.Pairwise.nil, fun _ hm => (nomatch hm)⟩⟩, h2, h3, h4⟩
end My
open PySem PySem.W PyProof.Rows
set_option Elab.async false
set_option maxRecDepth 100000 in
set_option maxHeartbeats 0 in
theorem PySem.Challenge.cw_steploft_k68_which_words_differ_holds : PySem.Challenge.rw_steploft_k68_which_words_differ.Holds := by
  w_on; o_law; k_head; (case hw => w_witness2)
  k_fill
  refine My.walk (l := PySem.Challenge.rw_steploft_k68_which_words_differ) rfl rfl (fun w h Y => PySem.W.kIn_of Y) ?F
  case F =>
    intro w mg fa h KX G hmg
    refine' My.all_mk KX G hmg ?a1 ?l1 ?c1 ?k1 ?a2 ?l2 ?c2 ?k2 ?a3 ?l3 ?c3 ?k3 ?a4 ?l4 ?c4 ?k4 ?a5 ?l5 ?c5 ?k5 ?a6 ?l6 ?c6 ?k6 ?a7 ?l7 ?c7 ?k7 ?a8 ?l8 ?c8 ?k8 ?a9 ?l9 ?c9 ?k9 ?a10 ?l10 ?c10 ?k10 ?a11 ?l11 ?c11 ?k11 ?a12 ?l12 ?c12 ?k12 ?a13 ?l13 ?c13 ?k13 ?a14 ?l14 ?c14 ?k14 ?a15 ?l15 ?c15 ?k15 ?a16 ?l16 ?c16 ?k16 ?a17 ?l17 ?c17 ?k17 ?a18 ?l18 ?c18 ?k18 ?a19 ?l19 ?c19 ?k19 ?emmany ?emloft ?exi ?exo ?exg ?exh ?exc ?exa ?exm ?exb ?exv ?exn ?gm1 ?z1 ?z2 ?z3 ?z4 ?z5 ?z6 ?z7 ?z8 ?z9 ?z10 ?z11 ?z12 ?z13 ?z14 ?z15
    (case a1 => k_is); (case l1 => k_is); (case c1 => k_is); (case k1 => k_is)
    (case a2 => k_is); (case l2 => k_is); (case c2 => k_is); (case k2 => k_is)
    (case a3 => k_is); (case l3 => k_is); (case c3 => k_is); (case k3 => k_is)
    (case a4 => k_is); (case l4 => k_is); (case c4 => k_is); (case k4 => k_is)
    (case a5 => k_is); (case l5 => k_is); (case c5 => k_is); (case k5 => k_is)
    (case a6 => k_is); (case l6 => k_is); (case c6 => k_is); (case k6 => k_is)
    (case a7 => k_is); (case l7 => k_is); (case c7 => k_is); (case k7 => k_is)
    (case a8 => k_is); (case l8 => k_is); (case c8 => k_is); (case k8 => k_is)
    (case a9 => k_is); (case l9 => k_is); (case c9 => k_is); (case k9 => k_is)
    (case a10 => k_is); (case l10 => k_is); (case c10 => k_is); (case k10 => k_is)
    (case a11 => k_is); (case l11 => k_is); (case c11 => k_is); (case k11 => k_is)
    (case a12 => k_is); (case l12 => k_is); (case c12 => k_is); (case k12 => k_is)
    (case a13 => k_is); (case l13 => k_is); (case c13 => k_is); (case k13 => k_is)
    (case a14 => k_is); (case l14 => k_is); (case c14 => k_is); (case k14 => k_is)
    (case a15 => k_is); (case l15 => k_is); (case c15 => k_is); (case k15 => k_is)
    (case a16 => k_is); (case l16 => k_is); (case c16 => k_is); (case k16 => k_is)
    (case a17 => k_is); (case l17 => k_is); (case c17 => k_is); (case k17 => k_is)
    (case a18 => k_is); (case l18 => k_is); (case c18 => k_is); (case k18 => k_is)
    (case a19 => k_is); (case l19 => k_is); (case c19 => k_is); (case k19 => k_is)
    (case emmany => k_is)
    (case emloft => k_is)
    (case exi => k_exc)
    (case exo => kts_exm)
    (case exg => k_is)
    (case exh => k_is)
    (case exc => k_is)
    (case exa => k_is)
    (case exm => k_is)
    (case exb => k_is)
    (case exv => kit_is)
    (case exn => kit_is)
    (case gm1 => k_is)
    (case z1 => k_is); (case z2 => k_is); (case z3 => k_is); (case z4 => k_is); (case z5 => k_is); (case z6 => k_is); (case z7 => k_is); (case z8 => k_is); (case z9 => k_is); (case z10 => k_is); (case z11 => k_is); (case z12 => k_is); (case z13 => k_is); (case z14 => k_is); (case z15 => k_is)
