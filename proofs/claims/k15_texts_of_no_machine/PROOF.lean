import PyProof.Rows.All
import Wide.All
import OpenK.AllK
import Wide.FinOn
import PyProof.EqAt
import PyProof.EqKinds
import PyProof.TupleCall
import KE.BitLaws
import KE.KSortTupG
import PyProof.SetScanFacts
import PySem.Challenge.RW_steploft_k15_texts_of_no_machine
import KE.KRevSl
import PyProof.StrBlock2
import PyProof.NeKinds
import PyProof.PassesOwn
import PyProof.ExcInit
import PyProof.ExcClass2
import PyProof.ExcBaseAll.ValueError
import PyProof.InstStoreFacts
import KE.KSuper
import KE.KTryMore
import OpenK.KOwn
import PyProof.NsDelKeeps
import KE.KIsAll
import PyProof.ExcArgsOwn
import PyProof.ExcAttrAll.ValueError
import KE.IntTextText
import KE.KIntText
import PyProof.Rows.StrIntSpec
import KE.RegKTryMore
import KE.RegKIsAll
set_option Elab.async false
set_option linter.all false
set_option maxRecDepth 100000
namespace L2
open PySem PySem.Spec PyProof.Rows
/-- a key: an int or a str -/
abbrev Key := Sum Int Str
def keyIs : Key → Value → Bool
  | .inl k, v => Value.isInt k v
  | .inr x, v => Value.isStrOf x v
def keyH (w : World) : Key → Int
  | .inl k => hashInt k
  | .inr x => hashStr w x
theorem keyIs_shape : ∀ {k : Key} {v : Value}, keyIs k v = true → (∃ i t, k = Sum.inl i ∧ v = Value.int i t) ∨ (∃ x t, k = Sum.inr x ∧ v = Value.str x t)
  | .inl i, v, h => by
    obtain ⟨t, e⟩ := Value.isInt_shape (k := i) (v := v) h
    exact .inl ⟨i, t, rfl, e⟩
  | .inr x, v, h => by
    obtain ⟨t, e⟩ := Value.isStrOf_shape (x := x) (v := v) h
    exact .inr ⟨x, t, rfl, e⟩
theorem key_ll (a b : Int) : decide ((Sum.inl a : Key) = Sum.inl b) = (a == b) := by
  by_cases e : a = b
  · subst e; simp
  · have h : ¬ (Sum.inl a : Key) = Sum.inl b := fun q => e (Sum.inl.inj q)
    rw [decide_eq_false h]
    exact (beq_eq_false_iff_ne.mpr e).symm
theorem key_rr (a b : Str) : decide ((Sum.inr a : Key) = Sum.inr b) = decide (a = b) := by
  by_cases e : a = b
  · subst e; simp
  · have h : ¬ (Sum.inr a : Key) = Sum.inr b := fun q => e (Sum.inr.inj q)
    rw [decide_eq_false h, decide_eq_false e]
theorem key_lr (a : Int) (b : Str) : decide ((Sum.inl a : Key) = Sum.inr b) = false := decide_eq_false (fun q => nomatch q)
theorem key_rl (a : Str) (b : Int) : decide ((Sum.inr a : Key) = Sum.inl b) = false := decide_eq_false (fun q => nomatch q)
def mixKind (prog : Program) (w : World) : PySem.KeyKind prog w Key where
  is := keyIs
  hash := keyH w
  inj := fun v a b ha hb => by
    rcases keyIs_shape ha with ⟨i, t, rfl, rfl⟩ | ⟨x, t, rfl, rfl⟩
    · rcases keyIs_shape hb with ⟨j, u, rfl, e⟩ | ⟨y, u, rfl, e⟩
      · injection e with e1 _; rw [e1]
      · exact nomatch e
    · rcases keyIs_shape hb with ⟨j, u, rfl, e⟩ | ⟨y, u, rfl, e⟩
      · exact nomatch e
      · injection e with e1 _; rw [e1]
  byValue := fun k v h => by
    rcases keyIs_shape h with ⟨i, t, rfl, rfl⟩ | ⟨x, t, rfl, rfl⟩ <;> rfl
  pyHash := fun hv h => by
    rcases keyIs_shape hv with ⟨i, t, rfl, rfl⟩ | ⟨x, t, rfl, rfl⟩
    · exact wpAny_pyHash_int h
    · exact wpAny_pyHash_str h
  eqBool := fun hu hv h => by
    rcases keyIs_shape hu with ⟨i, t, rfl, rfl⟩ | ⟨x, t, rfl, rfl⟩
    · rcases keyIs_shape hv with ⟨j, u, rfl, rfl⟩ | ⟨y, u, rfl, rfl⟩
      · rw [key_ll] at h; exact wpAny_eqBool_int h
      · rw [key_lr] at h; exact SeqAt.EqAt.int_str i t y u _ _ _ _ h
    · rcases keyIs_shape hv with ⟨j, u, rfl, rfl⟩ | ⟨y, u, rfl, rfl⟩
      · rw [key_rl] at h; exact SeqAt.EqAt.str_int x t j u _ _ _ _ h
      · rw [key_rr] at h; exact wpAny_eqBool_str h
  «strs» := fun k x t v h => by
    rcases keyIs_shape h with ⟨i, u, rfl, e⟩ | ⟨y, u, rfl, e⟩
    · exact nomatch e
    · injection e with e1 _
      subst e1
      cases v <;> rfl
end L2
namespace L2
open PySem PySem.Spec PyProof.Rows
/-- a value, without the heap -/
inductive V where
  | non | bl (b : Bool) | int (i : Int) | str (x : Str) | byt (b : Array UInt8) | flt (b : UInt64) | ref (a : Addr) | ty (n : String)
  deriving DecidableEq
def RelV : V → Value → Prop
  | .non, u => u = Value.none
  | .bl b, u => u = Value.bool b
  | .int i, u => ∃ t, u = Value.int i t
  | .str x, u => ∃ t, u = Value.str x t
  | .byt b, u => ∃ t, u = Value.bytes b t
  | .flt b, u => ∃ t, u = Value.float b t
  | .ref a, u => u = Value.ref a
  | .ty n, u => u = Value.type n
abbrev Vals : List V → List Value → Prop := Paired RelV
theorem Vals.length {xs : List V} {us : List Value} (r : Vals xs us) : xs.length = us.length := Paired.length r
theorem Vals.get : ∀ {xs : List V} {us : List Value} {i : Nat} {x : V}, Vals xs us → xs[i]? = some x → ∃ u, us[i]? = some u ∧ RelV x u
  | _, _, _, _, .nil, e => by simp at e
  | _, _, 0, _, .cons r _, e => by simp at e; subst e; exact ⟨_, rfl, r⟩
  | _, _, i + 1, x, .cons _ t, e => by
    obtain ⟨u, h1, h2⟩ := Vals.get (i := i) (x := x) t (by simpa using e)
    exact ⟨u, by simpa using h1, h2⟩
theorem Vals.set {x : V} {u : Value} (r : RelV x u) : ∀ {xs : List V} {us : List Value} (i : Nat), Vals xs us → Vals (xs.set i x) (us.set i u)
  | _, _, _, .nil => .nil
  | _, _, 0, .cons _ t => .cons r t
  | _, _, i + 1, .cons q t => .cons q (Vals.set r i t)
theorem Vals.append : ∀ {xs ys : List V} {us ws : List Value}, Vals xs us → Vals ys ws → Vals (xs ++ ys) (us ++ ws)
  | _, _, _, _, .nil, s => s
  | _, _, _, _, .cons r t, s => .cons r (Vals.append t s)
theorem Vals.take : ∀ {xs : List V} {us : List Value} (n : Nat), Vals xs us → Vals (xs.take n) (us.take n)
  | _, _, 0, _ => .nil
  | _, _, _ + 1, .nil => .nil
  | _, _, n + 1, .cons r t => .cons r (Vals.take n t)
theorem Vals.drop : ∀ {xs : List V} {us : List Value} (n : Nat), Vals xs us → Vals (xs.drop n) (us.drop n)
  | _, _, 0, r => r
  | _, _, _ + 1, .nil => .nil
  | _, _, n + 1, .cons _ t => Vals.drop n t
theorem Vals.none_of : ∀ {xs : List V} {us : List Value} {i : Nat}, Vals xs us → xs[i]? = none → us[i]? = none := fun {xs us i} r e => by
  have h1 := r.length
  have h2 : xs.length ≤ i := List.getElem?_eq_none_iff.mp e
  exact List.getElem?_eq_none_iff.mpr (by omega)
def RelO : Option V → Option Value → Prop
  | some v, some u => RelV v u
  | none, none => True
  | _, _ => False
def KV {κ : Type} : List (κ × V) → List (κ × Value) → Prop := Paired fun (p : κ × V) (q : κ × Value) => p.1 = q.1 ∧ RelV p.2 q.2
/-- a key of a dict (00_mix): an int or a text -/
def kV : Key → V
  | .inl i => .int i
  | .inr x => .str x
/-- a tuple without a dict of its own -/
def IsTupN (h : Heap) (a : Addr) (items : Array Value) : Prop := ∃ o, h.get? a = some o ∧ o.cls = .type "tuple" ∧ (∃ n, o.data = .seq items n) ∧ o.dict = none
theorem IsTupN.tup {h : Heap} {a : Addr} {items : Array Value} (x : IsTupN h a items) : IsTup h a items := let ⟨o, h1, h2, h3, _⟩ := x; ⟨o, h1, h2, h3⟩
theorem IsTupN.lt {h : Heap} {a : Addr} {items : Array Value} (x : IsTupN h a items) : a < h.objs.size := x.tup.lt
theorem IsTupN.new (h : Heap) (items : Array Value) : IsTupN (h.push { cls := .type "tuple", data := .seq items }) h.objs.size items := ⟨_, Heap.get?_push_size _ rfl, rfl, ⟨_, rfl⟩, rfl⟩
/-- what stands at a tracked address -/
inductive HO where
  /-- a list -/
  | lst (xs : List V)
  /-- a tuple (never changes) -/
  | tup (xs : List V)
  /-- a dict whose keys are ints and texts; one whose keys are tuples of ints and texts (the empty one is both) -/
  | dK (kvs : List (Key × V)) | dT (kvs : List (List Key × V))
  /-- a set of ints: its members, its size -/
  | set (S : Int → Bool) (n : Nat)
  /-- an instance of the class at C, its dict at dx, its attributes -/
  | ins (C dx : Addr) (fs : List (Str × V))
  /-- the dict of the instance at x -/
  | own (x : Addr)
  /-- the dict of an exception -/
  | xd (fs : List (Str × V))
  /-- a bound method, f of x -/
  | met (f x : Addr)
  /-- a range object lo, lo + 1, .. below hi -/
  | rng (lo hi : Int)
  /-- a thing that is known to the object (the script; a dict while a loop walks it): read, never written while it is so -/
  | frz (o : Obj) (u : HO)
  /-- a code object's table -/
  | tbl (ps : Array Value)
  /-- any other thing, by what is true of its one object (a def of one's own: SetO a S n := HO.ext fun h => ..) -/
  | ext (φ : Heap → Prop)
abbrev Hp := Addr → Option HO
def upd (H : Hp) (a : Addr) (o : HO) : Hp := fun b => if b = a then some o else H b
theorem upd_same {H : Hp} {a : Addr} {o : HO} : upd H a o a = some o := by unfold upd; rw [if_pos rfl]
theorem upd_ne {H : Hp} {a b : Addr} {o : HO} (h : b ≠ a) : upd H a o b = H b := by unfold upd; rw [if_neg h]
theorem ne_of_none {H : Hp} {a b : Addr} {o : HO} (h : H a = some o) (h' : H b = none) : a ≠ b := by
  intro e; subst e; rw [h] at h'; cases h'
section
variable (P : Program) (w : World)
def ObjOk (H : Hp) (h : Heap) (a : Addr) : HO → Prop
  | .lst xs => xs.length ≤ sizeLine ∧ ∃ (its : List Value) (n : Nat), Vals xs its ∧ h.get? a = some { cls := .type "list", data := .seq its.toArray n }
  | .tup xs => xs.length ≤ sizeLine ∧ ∃ its : List Value, Vals xs its ∧ IsTupN h a its.toArray
  | .dK kvs => kvs.length ≤ sizeLine ∧ (a == sysModules) = false ∧ ∃ vs, KV kvs vs ∧ h.DictOf (mixKind P w) a vs
  | .dT kvs => kvs.length ≤ sizeLine ∧ (a == sysModules) = false ∧ ∃ xs : List (List Key × Addr × Value),
      Paired (fun (p : List Key × V) (q : List Key × Addr × Value) => p.1 = q.1 ∧ H q.2.1 = some (.tup (p.1.map kV)) ∧ RelV p.2 q.2.2) kvs xs ∧
      ∃ o es ep, h.get? a = some o ∧ o.ExactDict ∧ o.data = .dict es ep ∧ es.toList = xs.map (entryOfKey (tupleKind (mixKind P w))) ∧ (xs.map (·.1)).Nodup
  | .set S n => h.SetOf (intKind P w) a S n
  | .ins C dx fs => H dx = some (.own a) ∧ fs.length ≤ 1000 ∧ dx ≠ a ∧ h.get? a = some (PySem.W.instObj C dx) ∧
      ∃ mA, h.Ns1 dx mA ∧ (∀ f, RelO (fs.lookup f) (mA f)) ∧ PySem.Within mA (fs.map (·.1))
  | .own _ => ∃ o, h.get? a = some o
  | .xd fs => ∃ mA, h.Ns1 a mA ∧ ∀ f, RelO (fs.lookup f) (mA f)
  | .rng lo hi => ∃ t u v, h.get? a = some { cls := .type "range", data := .fields #[.int lo t, .int hi u, .int 1 v] }
  | .frz o u => h.get? a = some o ∧ ObjOk H h a u
  | .tbl ps => h.get? a = some { cls := .none, data := .fields ps }
  | .met f x => h.get? a = some (PySem.W.methodObj (.ref f) (.ref x))
  | .ext φ => φ h ∧ (∃ o, h.get? a = some o) ∧ ∀ h1 h2 : Heap, φ h1 → (∀ o, h1.get? a = some o → h2.get? a = some o) → φ h2
/-- the abstract heap is held -/
def HOk (H : Hp) (h : Heap) : Prop := ∀ a o, H a = some o → ObjOk P w H h a o
end
section
variable {P : Program} {w : World} {H H' : Hp} {h h' : Heap} {a : Addr} {o : HO}
theorem ObjOk.lt (x : ObjOk P w H h a o) : a < h.objs.size := by
  cases o with
  | lst xs => obtain ⟨_, _, _, _, e⟩ := x; exact Heap.lt_size e
  | tup xs => obtain ⟨_, _, _, p⟩ := x; exact p.lt
  | dK kvs => obtain ⟨_, _, _, _, o, _, _, e, _⟩ := x; exact Heap.lt_size e
  | dT kvs => obtain ⟨_, _, _, _, o, _, _, e, _⟩ := x; exact Heap.lt_size e
  | set S n => obtain ⟨o, _, _, _, e, _⟩ := x; exact Heap.lt_size e
  | ins C dx fs => obtain ⟨_, _, _, e, _⟩ := x; exact Heap.lt_size e
  | own y => obtain ⟨_, e⟩ := x; exact Heap.lt_size e
  | xd fs => obtain ⟨_, ⟨_, _, _, e, _⟩, _⟩ := x; exact Heap.lt_size e
  | rng lo hi => obtain ⟨_, _, _, e⟩ := x; exact Heap.lt_size e
  | frz ob u => obtain ⟨e, _⟩ := x; exact Heap.lt_size e
  | tbl ps => exact Heap.lt_size (show h.get? a = some _ from x)
  | met f y => exact Heap.lt_size (show h.get? a = some _ from x)
  | ext φ => obtain ⟨_, ⟨_, e⟩, _⟩ := x; exact Heap.lt_size e
theorem Paired.mapP {α β : Type} {F G : α → β → Prop} : ∀ {l₁ : List α} {l₂ : List β}, Paired F l₁ l₂ → (∀ a b, F a b → G a b) → Paired G l₁ l₂
  | _, _, .nil, _ => .nil
  | _, _, .cons r t, f => .cons (f _ _ r) (Paired.mapP t f)
/-- what an object's description leans on: its own object, its own dict, the tuples -/
theorem ObjOk.stay (x : ObjOk P w H h a o) (k : ∀ b u, (b = a ∨ H b = some (.own a)) → h.get? b = some u → h'.get? b = some u)
    (ho : ∀ b, H b = some (.own a) → H' b = some (.own a)) (ht : ∀ b xs, H b = some (.tup xs) → H' b = some (.tup xs)) : ObjOk P w H' h' a o := by
  induction o with
  | lst xs => obtain ⟨z, its, n, r, e⟩ := x; exact ⟨z, its, n, r, k _ _ (.inl rfl) e⟩
  | tup xs => obtain ⟨z, its, r, ob, e, c⟩ := x; exact ⟨z, its, r, ob, k _ _ (.inl rfl) e, c⟩
  | dK kvs => obtain ⟨z, y, vs, r, ob, es, ep, e, c⟩ := x; exact ⟨z, y, vs, r, ob, es, ep, k _ _ (.inl rfl) e, c⟩
  | dT kvs =>
    obtain ⟨z, y, xs, r, ob, es, ep, e, c⟩ := x
    exact ⟨z, y, xs, Paired.mapP r fun p q z => ⟨z.1, ht _ _ z.2.1, z.2.2⟩, ob, es, ep, k _ _ (.inl rfl) e, c⟩
  | set S n => obtain ⟨ob, es, ep, t, e, c⟩ := x; exact ⟨ob, es, ep, t, k _ _ (.inl rfl) e, c⟩
  | ins C dx fs =>
    obtain ⟨d, z, ne, e, mA, ⟨od, es, ep, e2, c⟩, r⟩ := x
    exact ⟨ho _ d, z, ne, k _ _ (.inl rfl) e, mA, ⟨od, es, ep, k _ _ (.inr d) e2, c⟩, r⟩
  | own y => obtain ⟨ob, e⟩ := x; exact ⟨ob, k _ _ (.inl rfl) e⟩
  | xd fs => obtain ⟨mA, ⟨od, es, ep, e, c⟩, r⟩ := x; exact ⟨mA, ⟨od, es, ep, k _ _ (.inl rfl) e, c⟩, r⟩
  | rng lo hi => obtain ⟨t, u, v, e⟩ := x; exact ⟨t, u, v, k _ _ (.inl rfl) e⟩
  | frz ob u ih => obtain ⟨e, q⟩ := x; exact ⟨k _ _ (.inl rfl) e, ih q⟩
  | tbl ps =>
    have e : h.get? a = some { cls := .none, data := .fields ps } := x
    show h'.get? a = some { cls := .none, data := .fields ps }
    exact k a _ (.inl rfl) e
  | met f y =>
    have e : h.get? a = some (PySem.W.methodObj (.ref f) (.ref y)) := x
    show h'.get? a = some (PySem.W.methodObj (.ref f) (.ref y))
    exact k a _ (.inl rfl) e
  | ext φ => obtain ⟨p, ⟨o, e⟩, st⟩ := x; exact ⟨st _ _ p fun o q => k _ _ (.inl rfl) q, ⟨o, k _ _ (.inl rfl) e⟩, st⟩
theorem HOk.lt (x : HOk P w H h) (e : H a = some o) : a < h.objs.size := (x a o e).lt
theorem HOk.fresh (x : HOk P w H h) (e : h.objs.size ≤ a) : H a = none := by
  cases q : H a with
  | none => rfl
  | some u => exact absurd (Nat.lt_of_lt_of_le (x.lt q) e) (Nat.lt_irrefl _)
/-- every object of the heap is kept -/
theorem HOk.kept (x : HOk P w H h) (k : ∀ b u, h.get? b = some u → h'.get? b = some u) : HOk P w H h' := fun a o e =>
  (x a o e).stay (fun b u _ q => k b u q) (fun _ q => q) fun _ _ q => q
/-- a new object is laid and tracked -/
theorem HOk.laid (x : HOk P w H h) (k : ∀ b u, h.get? b = some u → h'.get? b = some u) (hp : h.objs.size ≤ a) (new : ObjOk P w (upd H a o) h' a o) : HOk P w (upd H a o) h' := fun b u e => by
  have hn := x.fresh hp
  by_cases hb : b = a
  · subst hb; rw [upd_same] at e; cases e; exact new
  · rw [upd_ne hb] at e
    exact (x b u e).stay (fun c v _ q => k c v q) (fun c q => by rw [upd_ne (ne_of_none q hn)]; exact q) fun c xs q => by rw [upd_ne (ne_of_none q hn)]; exact q
end
/-- what may be read as u: it is u, or a known u -/
def Rd (H : Hp) (a : Addr) (u : HO) : Prop := H a = some u ∨ ∃ o, H a = some (.frz o u)
theorem Rd.of {H : Hp} {a : Addr} {u : HO} (h : H a = some u) : Rd H a u := .inl h
theorem Rd.ok {P : Program} {w : World} {H : Hp} {h : Heap} {a : Addr} {u : HO} (r : Rd H a u) (x : HOk P w H h) : ObjOk P w H h a u := by
  rcases r with r | ⟨o, r⟩
  · exact x a u r
  · obtain ⟨_, q⟩ := x a _ r
    exact q
/-- what may be written -/
def Mut : Option HO → Prop
  | some (.lst _) => True
  | some (.dK _) => True
  | some (.dT _) => True
  | some (.set _ _) => True
  | some (.ins _ _ _) => True
  | some (.ext _) => True
  | _ => False
section
variable {P : Program} {w : World} {H : Hp} {h h' : Heap} {x e : Addr} {o' : HO}
/-- the object at e is changed: x itself, or the dict of the instance x -/
theorem HOk.write (ok : HOk P w H h) (mu : Mut (H x)) (he : e = x ∨ H e = some (.own x)) (k : ∀ b u, b ≠ e → h.get? b = some u → h'.get? b = some u) (heo : ∃ u, h'.get? e = some u)
    (new : ObjOk P w (upd H x o') h' x o') : HOk P w (upd H x o') h' := fun b u q => by
  have nown : ∀ c y, H c = some (.own y) → c ≠ x := fun c y r z => by subst z; rw [r] at mu; exact mu
  have ntup : ∀ c xs, H c = some (.tup xs) → c ≠ x := fun c xs r z => by subst z; rw [r] at mu; exact mu
  by_cases hb : b = x
  · subst hb; rw [upd_same] at q; cases q; exact new
  · rw [upd_ne hb] at q
    by_cases hbe : b = e
    · have q' : H b = some (.own x) := by
        rcases he with z | z
        · exact absurd (hbe.trans z) hb
        · rw [hbe]; exact z
      rw [q] at q'; cases q'
      obtain ⟨v, hv⟩ := heo
      exact ⟨v, by rw [hbe]; exact hv⟩
    · refine (ok b u q).stay (fun c v hc r => k c v ?_ r) (fun c r => by rw [upd_ne (nown c b r)]; exact r) fun c xs r => by rw [upd_ne (ntup c xs r)]; exact r
      rcases hc with rfl | hc
      · exact hbe
      · rintro rfl
        rcases he with z | z
        · exact nown c b hc z
        · rw [hc] at z; cases z; exact hb rfl
end
structure Un (fs ex : List Addr) (H H' : Hp) (h h' : Heap) : Prop where
  keep : ∀ b o, h.get? b = some o → H b = none → b ∉ fs → b ∉ ex → h'.get? b = some o
  slot : ∀ b o, h.get? b = some o → H b = none → b ∈ fs → b ∉ ex → ∃ sl, h'.get? b = some { o with slots := sl }
  free : ∀ b o, h.get? b = some o → H b = none → b ∉ ex → H' b = none
  there : ∀ b o, h.get? b = some o → b ∉ ex → ∃ o', h'.get? b = some o'
  tups : ∀ b xs, H b = some (.tup xs) → H' b = some (.tup xs)
  frzs : ∀ b o u, H b = some (.frz o u) → H' b = some (.frz o u)
  tbls : ∀ b ps, H b = some (.tbl ps) → ∃ more, H' b = some (.tbl (ps ++ more))
section
variable {fs fs' ex ex' : List Addr} {H H1 H2 : Hp} {h h1 h2 h' : Heap} {a x e : Addr} {o : HO}
theorem Un.any (u : Un fs ex H H1 h h1) {b : Addr} {ob : Obj} (q : h.get? b = some ob) (n : H b = none) (hx : b ∉ ex) : ∃ sl, h1.get? b = some { ob with slots := sl } := by
  by_cases hb : b ∈ fs
  · exact u.slot b ob q n hb hx
  · exact ⟨ob.slots, u.keep b ob q n hb hx⟩
theorem Un.trans (a : Un fs ex H H1 h h1) (b : Un fs ex H1 H2 h1 h2) : Un fs ex H H2 h h2 where
  keep := fun c ob q n hc hx => b.keep c ob (a.keep c ob q n hc hx) (a.free c ob q n hx) hc hx
  slot := fun c ob q n hc hx => by
    obtain ⟨sl, e1⟩ := a.slot c ob q n hc hx
    obtain ⟨sl', e2⟩ := b.slot c _ e1 (a.free c ob q n hx) hc hx
    exact ⟨sl', e2⟩
  free := fun c ob q n hx => by
    obtain ⟨o', e1⟩ := a.there c ob q hx
    exact b.free c o' e1 (a.free c ob q n hx) hx
  there := fun c ob q hx => by
    obtain ⟨o', e1⟩ := a.there c ob q hx
    exact b.there c o' e1 hx
  tups := fun c xs q => b.tups c xs (a.tups c xs q)
  frzs := fun c ob xs q => b.frzs c ob xs (a.frzs c ob xs q)
  tbls := fun c ps q => by
    obtain ⟨m1, e1⟩ := a.tbls c ps q
    obtain ⟨m2, e2⟩ := b.tbls c _ e1
    exact ⟨m1 ++ m2, by rw [e2, Array.append_assoc]⟩
theorem Un.kept (k : ∀ b u, h.get? b = some u → h'.get? b = some u) : Un fs ex H H h h' :=
  ⟨fun b ob q _ _ _ => k b ob q, fun b ob q _ _ _ => ⟨ob.slots, k b ob q⟩, fun _ _ _ n _ => n, fun b ob q _ => ⟨ob, k b ob q⟩, fun _ _ q => q, fun _ _ _ q => q, fun _ ps q => ⟨#[], by rw [q]; simp⟩⟩
theorem Un.refl : Un fs ex H H h h := Un.kept fun _ _ q => q
theorem Un.laid (k : ∀ b u, h.get? b = some u → h'.get? b = some u) (hp : h.objs.size ≤ a) (hn : H a = none) : Un fs ex H (upd H a o) h h' where
  keep := fun b u q _ _ _ => k b u q
  slot := fun b u q _ _ _ => ⟨u.slots, k b u q⟩
  free := fun b u q n _ => by rw [upd_ne (Nat.ne_of_lt (Nat.lt_of_lt_of_le (Heap.lt_size q) hp))]; exact n
  there := fun b u q _ => ⟨u, k b u q⟩
  tups := fun b xs q => by rw [upd_ne (ne_of_none q hn)]; exact q
  frzs := fun b u xs q => by rw [upd_ne (ne_of_none q hn)]; exact q
  tbls := fun b ps q => ⟨#[], by rw [upd_ne (ne_of_none q hn), q]; simp⟩
theorem Un.write (mu : Mut (H x)) (he : e = x ∨ H e = some (.own x)) (k : ∀ b u, b ≠ e → h.get? b = some u → h'.get? b = some u) (heo : ∃ u, h'.get? e = some u) : Un fs ex H (upd H x o) h h' := by
  have hx : ∀ b, H b = none → b ≠ x := fun b n z => by subst z; rw [n] at mu; exact mu
  have hb : ∀ b, H b = none → b ≠ e := fun b n z => by
    subst z
    rcases he with r | r
    · exact hx b n r
    · rw [n] at r; cases r
  have hm : ∀ b u, H b = some u → ¬ Mut (some u) → b ≠ x := fun b u q nm z => by subst z; rw [q] at mu; exact nm mu
  refine ⟨fun b u q n _ _ => k b u (hb b n) q, fun b u q n _ _ => ⟨u.slots, k b u (hb b n) q⟩, fun b u q n _ => by rw [upd_ne (hx b n)]; exact n, fun b u q _ => ?_,
    fun b xs q => by rw [upd_ne (hm b _ q fun z => z)]; exact q, fun b u xs q => by rw [upd_ne (hm b _ q fun z => z)]; exact q, fun b ps q => ⟨#[], by rw [upd_ne (hm b _ q fun z => z), q]; simp⟩⟩
  by_cases hbe : b = e
  · subst hbe; exact heo
  · exact ⟨u, k b u hbe q⟩
theorem Un.mono (u : Un fs ex H H1 h h1) (hs : ∀ b ∈ fs, b ∈ fs') (hx : ∀ b ∈ ex, b ∈ ex') : Un fs' ex' H H1 h h1 :=
  ⟨fun b ob q n hb he => u.keep b ob q n (fun z => hb (hs b z)) fun z => he (hx b z), fun _ _ q n _ he => u.any q n fun z => he (hx _ z), fun b ob q n he => u.free b ob q n fun z => he (hx b z), fun b ob q he => u.there b ob q fun z => he (hx b z), u.tups, u.frzs, u.tbls⟩
end
def trk (h : Heap) (H : Hp) : List Addr := (List.range h.objs.size).filter fun a => (H a).isSome
def hidT (h : Heap) (H : Hp) : Heap := PySem.W.hideAll h (trk h H)
theorem hidT_size (h : Heap) (H : Hp) : (hidT h H).objs.size = h.objs.size := PySem.W.hideAll_size _ _
theorem hidT_get {h : Heap} {H : Hp} {b : Addr} {o : Obj} (e : h.get? b = some o) (n : H b = none) : (hidT h H).get? b = some o :=
  PySem.W.hideAll_get _ e fun hm => by
    have q : (H b).isSome = true := (List.mem_filter.mp hm).2
    rw [n] at q; simp at q
theorem of_hidT {h : Heap} {H : Hp} {b : Addr} {o : Obj} (e : (hidT h H).get? b = some o) : h.get? b = some o ∧ H b = none := by
  have e' : h.get? b = some o := PySem.W.of_hideAll (trk h H) e
  refine ⟨e', ?_⟩
  cases q : H b with
  | none => rfl
  | some x =>
    have hm : b ∈ trk h H := List.mem_filter.mpr ⟨List.mem_range.mpr (Heap.lt_size e'), by simp [q]⟩
    have z : (hidT h H).get? b = none := PySem.W.hideAll_none (trk h H) hm
    rw [z] at e; cases e
def allNews (g h : Heap) (L : Addr) : List (Addr × Obj) := (List.range h.objs.size).filterMap fun a => if a = L ∨ (g.get? a).isSome = true then none else (h.get? a).map fun o => (a, o)
def rest (g h : Heap) (L d : Addr) : List (Addr × Obj) := (allNews g h L).filter fun p => decide (p.1 ≠ d)
end L2
namespace L2
open PySem PySem.Spec PyProof.Rows
/-- the module's facts, over the base: the heap at the law's entry without what is tracked there -/
structure Mod (K : PySem.W.Frag) (mg : Str → Option Value) (base : Heap) : Prop where
  kin : K.In base
  glob : base.Ns mainGlobals mg
  blt : ∃ mb, base.Ns builtinsNs mb ∧ ∀ x : Str, x ≠ "__name__" → mb x = bootBuiltins x
  nolimit : base.NoLimit
/-- the context: a def's body (or a comprehension's block) running. base: fixed through the whole law; s₀, H₀: the entry; outer: the frames whose slots others may change (a def's callers); stack: all frames that run;
   ex: iterators that were made ahead of the entry and are walked here (a comprehension's); fn: the names whose cells were made at the entry (a def: all; a comprehension's block: its own); calm: not within an except suite; pn: pins that every state bears; xe: what is wanted of an exception that leaves the code -/
structure Cx where
  prog : Program
  w : World
  K : PySem.W.Frag
  mg : Str → Option Value
  base : Heap
  A : Around
  N : List Str
  s_0 : Shared
  H_0 : Hp
  env : Env
  outer : List Env
  stack : List Env
  ex : List Addr
  fn : Str → Bool
  calm : Bool
  pn : List (Addr × Obj)
  xe : Value → Shared → Prop
/-- the callers' frames -/
def frs (l : List Env) : List Addr := l.filterMap (·.frame)
abbrev Cx.fs (X : Cx) : List Addr := frs X.outer
def Vis (sc : Scope) (x : Str) : Prop := sc.names.lookup x = some .local ∨ sc.names.lookup x = some .cell ∨ sc.names.lookup x = some .free
def Loc (sc : Scope) (x : Str) : Prop := sc.names.lookup x = some .local ∨ sc.names.lookup x = some .cell
def Look (env : Env) (h : Heap) (m : Str → Option Value) (x : Str) (u : Value) : Prop :=
  (env.kindOf x = some .local ∧ m x = some u) ∨ ((env.kindOf x = some .cell ∨ env.kindOf x = some .free) ∧ ∃ c, env.cells.lookup x = some c ∧ h.IsCell c (some u))
structure Cx.Ok (X : Cx) : Prop where
  mod : Mod X.K X.mg X.base
  kind : X.env.scope.kind = .function
  glob : X.env.globals = mainGlobals
  blt : X.env.builtins = builtinsNs
  above : X.s_0.heap.objs.size ≤ X.env.locals
  inj : ∀ x y c, X.env.cells.lookup x = some c → X.env.cells.lookup y = some c → x = y
  has : ∀ x, (X.env.kindOf x = some .cell ∨ X.env.kindOf x = some .free) → ∃ c, X.env.cells.lookup x = some c
  cab : ∀ x c, X.fn x = true → X.env.cells.lookup x = some c → X.s_0.heap.objs.size ≤ c
  hd : X.calm = true → X.A.handled = none
  frames : X.A.frames = some X.stack
  stk : X.stack = X.outer ∨ (X.stack = X.env :: X.outer ∧ X.env.frame = some X.env.locals)
  exf : ∀ b ∈ X.ex, b ≠ X.env.locals ∧ ∀ x c, X.env.cells.lookup x = some c → c ≠ b
  bs : ∀ b o, X.base.get? b = some o → X.s_0.heap.get? b = some o ∧ X.H_0 b = none
  bsz : X.base.objs.size ≤ X.s_0.heap.objs.size
  noex : ∀ b o, X.base.get? b = some o → b ∉ X.ex
  exfs : ∀ b ∈ X.ex, b ∉ X.fs
  funs : X.s_0.heap.FunFrames X.base X.outer
  frf : ∀ b ∈ X.fs, X.H_0 b = none
/-- no generator is left with a cleanup, and there are no fewer than n -/
structure GB (n : Nat) (g : Array GenState) : Prop where
  all : AllBare g
  sz : n ≤ g.size
theorem GB.self {n : Nat} {g : Array GenState} (h : GB n g) : GB g.size g := ⟨h.all, Nat.le_refl _⟩
theorem GB.step {n : Nat} {g g' : Array GenState} (h : GB n g) (h' : GB g.size g') : GB n g' := ⟨h'.all, Nat.le_trans h.sz h'.sz⟩
structure Inv (X : Cx) (pins : List (Addr × Obj)) (σ : List (Option V)) (H : Hp) (s : Shared) : Prop where
  ok : X.Ok
  os : s.os = X.s_0.os
  bare : GB X.s_0.gens.size s.gens
  base : Un X.fs X.ex X.H_0 H X.s_0.heap s.heap
  loc : ∃ m, s.heap.Ns X.env.locals m ∧ ∀ (i : Nat) (x : Str) (v : V), X.N[i]? = some x → σ[i]? = some (some v) → Vis X.env.scope x → ∃ u, RelV v u ∧ Look X.env s.heap m x u
  cell : ∀ x c, X.env.cells.lookup x = some c → ∃ v, s.heap.IsCell c v
  free : H X.env.locals = none
  freeC : ∀ x c, X.env.cells.lookup x = some c → H c = none
  pin : ∀ p ∈ X.pn ++ pins, s.heap.get? p.1 = some p.2 ∧ H p.1 = none ∧ p.1 ≠ X.env.locals ∧ p.1 ∉ X.fs ∧ ∀ v, p.2.data ≠ .cell v
  hok : HOk X.prog X.w H s.heap
  len : σ.length = X.N.length
section
variable {X : Cx} {pins : List (Addr × Obj)} {σ : List (Option V)} {H H' : Hp} {s : Shared} {h' : Heap}
theorem Cx.Ok.nofr (ok : X.Ok) {b : Addr} {o : Obj} (e : X.base.get? b = some o) : b ∉ X.fs := fun hb => by
  have := (ok.funs.mem hb).1
  rw [e] at this; cases this
theorem Inv.bs (I : Inv X pins σ H s) : ∀ b o, X.base.get? b = some o → s.heap.get? b = some o ∧ H b = none := fun b o e =>
  ⟨I.base.keep b o (I.ok.bs b o e).1 (I.ok.bs b o e).2 (I.ok.nofr e) (I.ok.noex b o e), I.base.free b o (I.ok.bs b o e).1 (I.ok.bs b o e).2 (I.ok.noex b o e)⟩
theorem Inv.bk (I : Inv X pins σ H s) : ∀ b o, X.base.get? b = some o → s.heap.get? b = some o := fun b o e => (I.bs b o e).1
theorem Inv.mod (I : Inv X pins σ H s) : Mod X.K X.mg X.base := I.ok.mod
theorem Inv.kIn (I : Inv X pins σ H s) : X.K.In s.heap := I.ok.mod.kin.keeps I.bk
theorem Inv.nolimit (I : Inv X pins σ H s) : s.heap.NoLimit := I.ok.mod.nolimit.keeps I.bk
theorem Inv.lt (I : Inv X pins σ H s) : X.env.locals < s.heap.objs.size := let ⟨_, hn, _⟩ := I.loc; hn.lt
theorem Inv.sz (I : Inv X pins σ H s) : X.s_0.heap.objs.size ≤ s.heap.objs.size := Nat.le_trans I.ok.above (Nat.le_of_lt I.lt)
theorem Inv.nofs (I : Inv X pins σ H s) {a : Addr} (h : s.heap.objs.size ≤ a) : a ∉ X.fs := fun hb => by
  obtain ⟨_, o, ho, _⟩ := I.ok.funs.mem hb
  exact absurd (Nat.lt_of_lt_of_le (Heap.lt_size ho) (Nat.le_trans I.sz h)) (Nat.lt_irrefl _)
theorem Inv.cne (I : Inv X pins σ H s) : ∀ x c, X.env.cells.lookup x = some c → c ≠ X.env.locals := fun x c e z => by
  obtain ⟨v, o, ho, hd⟩ := I.cell x c e
  obtain ⟨m, ⟨o', es, ep, ho', hd', _⟩, _⟩ := I.loc
  rw [z, ho'] at ho; cases ho; rw [hd'] at hd; cases hd
theorem Inv.funs (I : Inv X pins σ H s) : s.heap.FunFrames X.base X.outer := by
  have all : ∀ (l : List Env), (∀ b ∈ frs l, b ∈ X.fs) → X.s_0.heap.FunFrames X.base l → s.heap.FunFrames X.base l := by
    intro l
    induction l with
    | nil => intro _ _; trivial
    | cons env r ih =>
      intro hs hl
      obtain ⟨hk, ⟨L, o, hf, hn, ho, hd⟩, hr⟩ := hl
      have hL : L ∈ X.fs := hs L (by unfold frs; rw [List.filterMap_cons, hf]; exact List.mem_cons_self)
      obtain ⟨sl, e⟩ := I.base.slot L o ho (I.ok.frf L hL) hL fun z => I.ok.exfs L z hL
      exact ⟨hk, ⟨L, _, hf, hn, e, hd⟩, ih (fun b hb => hs b (by unfold frs; rw [List.filterMap_cons, hf]; exact List.mem_cons_of_mem _ hb)) hr⟩
  exact all X.outer (fun _ hb => hb) I.ok.funs
/-- the frames that run, for a call -/
theorem Inv.stack (I : Inv X pins σ H s) : s.heap.FunFrames X.base X.stack := by
  rcases I.ok.stk with e | ⟨e, hf⟩
  · rw [e]; exact I.funs
  · rw [e]
    obtain ⟨m, hn, _⟩ := I.loc
    refine .cons (by rw [I.ok.kind]; decide) hf hn ?_ I.funs
    exact Heap.get?_none_of_le (Nat.le_trans I.ok.bsz I.ok.above)
theorem Inv.stkSub (I : Inv X pins σ H s) : ∀ b ∈ frs X.stack, b ∈ X.env.locals :: X.fs := fun b hb => by
  rcases I.ok.stk with e | ⟨e, hf⟩
  · rw [e] at hb; exact List.mem_cons_of_mem _ hb
  · rw [e] at hb
    unfold frs at hb
    rw [List.filterMap_cons, hf] at hb
    exact hb
theorem Inv.stkFree (I : Inv X pins σ H s) : ∀ b ∈ frs X.stack, H b = none := fun b hb => by
  rcases List.mem_cons.mp (I.stkSub b hb) with e | hb
  · rw [e]; exact I.free
  · obtain ⟨_, o, ho, _⟩ := I.ok.funs.mem hb
    exact I.base.free b o ho (I.ok.frf b hb) fun z => I.ok.exfs b z hb
/-- THE STEP: the untracked objects but the frame and the records at ch are kept (the callers' frames up to slots), the frame's map is kept, the new abstract heap is held -/
theorem Inv.step {g' : Array GenState} {t' : Nat} {d' : Drawn} {ch : List Addr} (I : Inv X pins σ H s)
    (hch : ∀ b ∈ ch, (b ∈ X.ex ∨ X.s_0.heap.objs.size ≤ b) ∧ b ≠ X.env.locals ∧ (∀ x c, X.env.cells.lookup x = some c → c ≠ b) ∧ ∀ p ∈ X.pn ++ pins, p.1 ≠ b)
    (keep : ∀ b o, b ≠ X.env.locals → b ∉ X.fs → b ∉ ch → s.heap.get? b = some o → H b = none → h'.get? b = some o)
    (slot : ∀ b o, b ≠ X.env.locals → b ∈ X.fs → b ∉ ch → s.heap.get? b = some o → H b = none → ∃ sl, h'.get? b = some { o with slots := sl }) (free : ∀ b o, b ∉ ch → s.heap.get? b = some o → H b = none → H' b = none)
    (there : ∀ b o, b ∉ ch → s.heap.get? b = some o → ∃ o', h'.get? b = some o')
    (tups : ∀ b xs, H b = some (.tup xs) → H' b = some (.tup xs)) (frzs : ∀ b o u, H b = some (.frz o u) → H' b = some (.frz o u)) (tbls : ∀ b ps, H b = some (.tbl ps) → ∃ more, H' b = some (.tbl (ps ++ more)))
    (ns : ∀ m, s.heap.Ns X.env.locals m → h'.Ns X.env.locals m) (hok : HOk X.prog X.w H' h') (hg : GB s.gens.size g') :
    Inv X pins σ H' { s with heap := h', gens := g', drawn := d', toks := t' } := by
  have neL : ∀ b o, X.s_0.heap.get? b = some o → b ≠ X.env.locals := fun b o e => Nat.ne_of_lt (Nat.lt_of_lt_of_le (Heap.lt_size e) I.ok.above)
  have neC : ∀ b o, X.s_0.heap.get? b = some o → b ∉ X.ex → b ∉ ch := fun b o e hx hb => by
    rcases (hch b hb).1 with z | z
    · exact hx z
    · exact absurd (Nat.lt_of_lt_of_le (Heap.lt_size e) z) (Nat.lt_irrefl _)
  have cellK : ∀ x c, X.env.cells.lookup x = some c → ∀ v, s.heap.IsCell c v → h'.IsCell c v := fun x c e v ⟨o, ho, hd⟩ => by
    have nch : c ∉ ch := fun z => (hch c z).2.2.1 x c e rfl
    by_cases hc : c ∈ X.fs
    · obtain ⟨sl, q⟩ := slot c o (I.cne x c e) hc nch ho (I.freeC x c e)
      exact ⟨_, q, hd⟩
    · exact ⟨o, keep c o (I.cne x c e) hc nch ho (I.freeC x c e), hd⟩
  refine ⟨I.ok, I.os, I.bare.step hg, ⟨fun b o e n hb hx => ?_, fun b o e n hb hx => ?_, fun b o e n hx => ?_, fun b o e hx => ?_, fun b xs e => tups b xs (I.base.tups b xs e), fun b o xs e => frzs b o xs (I.base.frzs b o xs e), fun b ps e => ?_⟩, ?_, fun x c e => ?_, ?_, fun x c e => ?_, fun p hp => ?_, hok, I.len⟩
  · exact keep b o (neL b o e) hb (neC b o e hx) (I.base.keep b o e n hb hx) (I.base.free b o e n hx)
  · obtain ⟨sl, e1⟩ := I.base.slot b o e n hb hx
    obtain ⟨sl', e2⟩ := slot b _ (neL b o e) hb (neC b o e hx) e1 (I.base.free b o e n hx)
    exact ⟨sl', e2⟩
  · obtain ⟨o', e1⟩ := I.base.there b o e hx
    exact free b o' (neC b o e hx) e1 (I.base.free b o e n hx)
  · obtain ⟨o', e1⟩ := I.base.there b o e hx
    exact there b o' (neC b o e hx) e1
  · obtain ⟨m1, e1⟩ := I.base.tbls b ps e
    obtain ⟨m2, e2⟩ := tbls b _ e1
    exact ⟨m1 ++ m2, by rw [e2, Array.append_assoc]⟩
  · obtain ⟨m, hn, hl⟩ := I.loc
    refine ⟨m, ns m hn, fun i x v e1 e2 e3 => ?_⟩
    obtain ⟨u, r, l⟩ := hl i x v e1 e2 e3
    refine ⟨u, r, ?_⟩
    rcases l with l | ⟨k, c, e, z⟩
    · exact .inl l
    · exact .inr ⟨k, c, e, cellK x c e _ z⟩
  · obtain ⟨v, z⟩ := I.cell x c e
    exact ⟨v, cellK x c e v z⟩
  · obtain ⟨m, ⟨o, _, _, ho, _⟩, _⟩ := I.loc
    exact free _ o (fun z => (hch _ z).2.1 rfl) ho I.free
  · obtain ⟨v, o, ho, hd⟩ := I.cell x c e
    exact free c o (fun z => (hch c z).2.2.1 x c e rfl) ho (I.freeC x c e)
  · obtain ⟨e, n, ne, nf, d⟩ := I.pin p hp
    have nch : p.1 ∉ ch := fun z => (hch p.1 z).2.2.2 p hp rfl
    exact ⟨keep p.1 p.2 ne nf nch e n, free p.1 p.2 nch e n, ne, nf, d⟩
/-- .. where the frame's own object is kept too -/
theorem Inv.un {t' : Nat} (I : Inv X pins σ H s) (u : Un X.fs [] H H' s.heap h') (hok : HOk X.prog X.w H' h') : Inv X pins σ H' { s with heap := h', toks := t' } := by
  obtain ⟨m, ⟨o, es, ep, ho, r⟩, _⟩ := id I.loc
  obtain ⟨sl, hL⟩ := u.any ho I.free (by simp)
  exact I.step (g' := s.gens) (d' := s.drawn) (ch := []) (fun _ z => nomatch z) (fun b o _ hb _ e n => u.keep b o e n hb (by simp)) (fun b o _ hb _ e n => u.slot b o e n hb (by simp)) (fun b o _ e n => u.free b o e n (by simp)) (fun b o _ e => u.there b o e (by simp)) u.tups u.frzs u.tbls (fun m' hm => by
    obtain ⟨o', es', ep', ho', r'⟩ := hm
    rw [ho] at ho'; cases ho'
    exact ⟨_, es', ep', hL, r'⟩) hok I.bare.self
/-- behind a call (or a comprehension's block): the slots of this frame may have changed too, the records at ch may have turned -/
theorem Inv.call {g' : Array GenState} {t' : Nat} {d' : Drawn} {ch : List Addr} (I : Inv X pins σ H s) (u : Un (frs X.stack) ch H H' s.heap h') (hok : HOk X.prog X.w H' h') (hg : GB s.gens.size g')
    (hch : ∀ b ∈ ch, (b ∈ X.ex ∨ X.s_0.heap.objs.size ≤ b) ∧ b ≠ X.env.locals ∧ (∀ x c, X.env.cells.lookup x = some c → c ≠ b) ∧ ∀ p ∈ X.pn ++ pins, p.1 ≠ b) :
    Inv X pins σ H' { s with heap := h', gens := g', drawn := d', toks := t' } := by
  obtain ⟨m, ⟨o, es, ep, ho, r⟩, _⟩ := id I.loc
  obtain ⟨sl, hL⟩ := u.any ho I.free fun z => (hch _ z).2.1 rfl
  exact I.step (ch := ch) hch (fun b o hL hb hc e n => u.keep b o e n (fun z => (List.mem_cons.mp (I.stkSub b z)).elim hL hb) hc) (fun b o _ _ hc e n => u.any e n hc) (fun b o hc e n => u.free b o e n hc) (fun b o hc e => u.there b o e hc) u.tups u.frzs u.tbls (fun m' hm => by
    obtain ⟨o', es', ep', ho', r'⟩ := hm
    rw [ho] at ho'; cases ho'
    exact ⟨_, es', ep', hL, r'⟩) hok hg
/-- an untracked record of ours (an iterator) has turned -/
theorem Inv.turned {t' : Nat} {it : Addr} (I : Inv X pins σ H s) (k : ∀ b o, b ≠ it → s.heap.get? b = some o → h'.get? b = some o) (hn : H it = none) (hL : it ≠ X.env.locals)
    (h1 : it ∈ X.ex ∨ X.s_0.heap.objs.size ≤ it) (h2 : ∀ x c, X.env.cells.lookup x = some c → c ≠ it) (h3 : ∀ p ∈ X.pn ++ pins, p.1 ≠ it) : Inv X pins σ H { s with heap := h', toks := t' } := by
  have nit : ∀ b u, H b = some u → b ≠ it := fun b u e z => by rw [z, hn] at e; cases e
  refine I.step (g' := s.gens) (d' := s.drawn) (ch := [it]) (fun b hb => ?_) (fun b o _ _ hc e _ => k b o (fun z => hc (by simp [z])) e) (fun b o _ _ hc e _ => ⟨o.slots, k b o (fun z => hc (by simp [z])) e⟩) (fun _ _ _ _ n => n)
    (fun b o hc e => ⟨o, k b o (fun z => hc (by simp [z])) e⟩) (fun _ _ e => e) (fun _ _ _ e => e) (fun b ps e => ⟨#[], by rw [e]; simp⟩) (fun m hm => ?_) (fun b u e => ?_) I.bare.self
  · have e : b = it := by simpa using hb
    subst e
    exact ⟨h1, hL, h2, h3⟩
  · obtain ⟨o, es, ep, ho, r⟩ := hm
    exact ⟨o, es, ep, k _ o (Ne.symm hL) ho, r⟩
  · refine (I.hok b u e).stay (fun c v hc q => k c v ?_ q) (fun _ q => q) fun _ _ q => q
    rcases hc with z | z
    · rw [z]; exact nit b u e
    · exact nit c _ z
theorem Inv.tok (I : Inv X pins σ H s) (t : Nat) : Inv X pins σ H { s with toks := t } := I.un (h' := s.heap) (t' := t) Un.refl I.hok
/-- all objects kept -/
theorem Inv.kept {t' : Nat} (I : Inv X pins σ H s) (k : ∀ b u, s.heap.get? b = some u → h'.get? b = some u) : Inv X pins σ H { s with heap := h', toks := t' } := I.un (Un.kept k) (I.hok.kept k)
/-- a new object laid and tracked -/
theorem Inv.laid {a : Addr} {o : HO} {t' : Nat} (I : Inv X pins σ H s) (k : ∀ b u, s.heap.get? b = some u → h'.get? b = some u) (hp : s.heap.objs.size ≤ a) (new : ObjOk X.prog X.w (upd H a o) h' a o) :
    Inv X pins σ (upd H a o) { s with heap := h', toks := t' } := I.un (Un.laid k hp (I.hok.fresh hp)) (I.hok.laid k hp new)
/-- an object written -/
theorem Inv.write {x e : Addr} {o : HO} {t' : Nat} (I : Inv X pins σ H s) (mu : Mut (H x)) (he : e = x ∨ H e = some (.own x)) (k : ∀ b u, b ≠ e → s.heap.get? b = some u → h'.get? b = some u) (heo : ∃ u, h'.get? e = some u)
    (new : ObjOk X.prog X.w (upd H x o) h' x o) : Inv X pins σ (upd H x o) { s with heap := h', toks := t' } := I.un (Un.write mu he k heo) (I.hok.write mu he k heo new)
/-- forgetting slots, pins -/
theorem Inv.weak {σ' : List (Option V)} (I : Inv X pins σ H s) (hl : σ'.length = σ.length) (w : ∀ (i : Nat) v, σ'[i]? = some (some v) → σ[i]? = some (some v)) : Inv X pins σ' H s :=
  ⟨I.ok, I.os, I.bare, I.base, let ⟨m, hn, hl'⟩ := I.loc; ⟨m, hn, fun i x v e1 e2 e3 => hl' i x v e1 (w i v e2) e3⟩, I.cell, I.free, I.freeC, I.pin, I.hok, hl.trans I.len⟩
theorem Inv.pins_of {pins' : List (Addr × Obj)} (I : Inv X pins σ H s) (h : ∀ p ∈ pins', s.heap.get? p.1 = some p.2 ∧ H p.1 = none ∧ p.1 ≠ X.env.locals ∧ p.1 ∉ X.fs ∧ ∀ v, p.2.data ≠ .cell v) : Inv X pins' σ H s :=
  ⟨I.ok, I.os, I.bare, I.base, I.loc, I.cell, I.free, I.freeC, fun p hp => (List.mem_append.mp hp).elim (fun z => I.pin p (List.mem_append_left _ z)) (h p), I.hok, I.len⟩
theorem nodup_ix {N : List Str} (hN : N.Nodup) {i j : Nat} {x : Str} (a : N[i]? = some x) (b : N[j]? = some x) : i = j := by
  obtain ⟨h1, e1⟩ := List.getElem?_eq_some_iff.mp a
  obtain ⟨h2, e2⟩ := List.getElem?_eq_some_iff.mp b
  exact (List.getElem_inj hN).mp (e1.trans e2.symm)
/-- a name is stored; what changed -/
theorem store_ok2 {M : Model} {A : Around} {E : Value → Shared → Prop} {i : Nat} {x : Str} {v : V} {u : Value} {Q : Unit → Shared → Prop} (I : Inv X pins σ H s) (hN : X.N.Nodup) (hi : X.N[i]? = some x) (hx : Loc X.env.scope x) (r : RelV v u)
    (h : ∀ s', Inv X pins (σ.set i (some v)) H s' → (∃ a, Heap.SameBut a s.heap s'.heap ∧ (a = X.env.locals ∨ X.env.cells.lookup x = some a)) → Q () s') (hf : X.fn x = true ∨ X.env.scope.names.lookup x = some .local := by first | exact .inl rfl | exact .inr rfl | assumption) : wpAny M A (storeName X.env x u) Q E s := by
  obtain ⟨m, hn, hl⟩ := id I.loc
  have hcls : (X.env.scope.kind == .class || (X.env.scope.kind == .module && X.env.locals != X.env.globals)) = false := by rw [I.ok.kind]; rfl
  have hiσ : i < σ.length := by rw [I.len]; exact (List.getElem?_eq_some_iff.mp hi).1
  have cne := I.cne
  have tracked : ∀ {a : Addr} {h' : Heap}, (∃ o, s.heap.get? a = some o ∧ H a = none) → Heap.SameBut a s.heap h' → HOk X.prog X.w H h' := fun {a h'} ha hs b ob e => by
    obtain ⟨_, _, hfree⟩ := ha
    refine (I.hok b ob e).stay (fun c w' hc q => (hs.2 c ?_).trans q) (fun _ q => q) fun _ _ q => q
    rintro rfl
    rcases hc with rfl | hc
    · rw [hfree] at e; cases e
    · rw [hfree] at hc; cases hc
  rcases hx with hk | hk
  · refine wpAny_storeName_local hk hn (fun h' hn' hs => ?_) hcls
    obtain ⟨oL, _, _, hoL, _⟩ := id hn
    refine h _ ⟨I.ok, I.os, I.bare, ⟨fun b o e n hb hx => ?_, fun b o e n hb hx => ?_, I.base.free, fun b o e hx => ?_, I.base.tups, I.base.frzs, I.base.tbls⟩, ⟨_, hn', fun j y v' e1 e2 e3 => ?_⟩, fun y c e => ?_, I.free, I.freeC, fun p hp => ?_, tracked ⟨oL, hoL, I.free⟩ hs, by simpa using I.len⟩ ⟨_, hs, .inl rfl⟩
    · exact (hs.2 b (Nat.ne_of_lt (Nat.lt_of_lt_of_le (Heap.lt_size e) I.ok.above))).trans (I.base.keep b o e n hb hx)
    · obtain ⟨sl, e1⟩ := I.base.slot b o e n hb hx
      exact ⟨sl, (hs.2 b (Nat.ne_of_lt (Nat.lt_of_lt_of_le (Heap.lt_size e) I.ok.above))).trans e1⟩
    · obtain ⟨o', e1⟩ := I.base.there b o e hx
      exact ⟨o', (hs.2 b (Nat.ne_of_lt (Nat.lt_of_lt_of_le (Heap.lt_size e) I.ok.above))).trans e1⟩
    · by_cases hj : j = i
      · subst hj
        rw [hi] at e1; cases e1
        rw [List.getElem?_set_self hiσ] at e2
        cases e2
        exact ⟨u, r, .inl ⟨hk, by simp⟩⟩
      · rw [List.getElem?_set_ne (Ne.symm hj)] at e2
        obtain ⟨u', r', q⟩ := hl j y v' e1 e2 e3
        refine ⟨u', r', ?_⟩
        rcases q with ⟨k, e⟩ | ⟨k, c, e, z⟩
        · refine .inl ⟨k, ?_⟩
          have : y ≠ x := fun e => hj (nodup_ix hN e1 (e ▸ hi))
          simp [this, e]
        · exact .inr ⟨k, c, e, z.sameBut hs (cne y c e)⟩
    · obtain ⟨w', z⟩ := I.cell y c e
      exact ⟨w', z.sameBut hs (cne y c e)⟩
    · obtain ⟨e, n, ne, nf, d⟩ := I.pin p hp
      exact ⟨(hs.2 p.1 ne).trans e, n, ne, nf, d⟩
  · have hfn : X.fn x = true := by
      rcases hf with z | z
      · exact z
      · rw [z] at hk; cases hk
    obtain ⟨c, hc⟩ := I.ok.has x (.inl hk)
    obtain ⟨w', z⟩ := I.cell x c hc
    refine wpAny_storeName_cell I.ok.kind hk hc z (fun h' hc' hs => ?_)
    obtain ⟨oc, hoc, hocd⟩ := id z
    refine h { s with heap := h' } ⟨I.ok, I.os, I.bare, ⟨fun b o e n hb hx => ?_, fun b o e n hb hx => ?_, I.base.free, fun b o e hx => ?_, I.base.tups, I.base.frzs, I.base.tbls⟩, ⟨m, hn.sameBut hs (Ne.symm (cne x c hc)), fun j y v' e1 e2 e3 => ?_⟩, fun y c' e => ?_, I.free, I.freeC, fun p hp => ?_, tracked ⟨oc, hoc, I.freeC x c hc⟩ hs, by simpa using I.len⟩ ⟨c, hs, .inr hc⟩
    · exact (hs.2 b (Nat.ne_of_lt (Nat.lt_of_lt_of_le (Heap.lt_size e) (I.ok.cab x c hfn hc)))).trans (I.base.keep b o e n hb hx)
    · obtain ⟨sl, e1⟩ := I.base.slot b o e n hb hx
      exact ⟨sl, (hs.2 b (Nat.ne_of_lt (Nat.lt_of_lt_of_le (Heap.lt_size e) (I.ok.cab x c hfn hc)))).trans e1⟩
    · obtain ⟨o', e1⟩ := I.base.there b o e hx
      exact ⟨o', (hs.2 b (Nat.ne_of_lt (Nat.lt_of_lt_of_le (Heap.lt_size e) (I.ok.cab x c hfn hc)))).trans e1⟩
    · by_cases hj : j = i
      · subst hj
        rw [hi] at e1; cases e1
        rw [List.getElem?_set_self hiσ] at e2
        cases e2
        exact ⟨u, r, .inr ⟨.inl hk, c, hc, hc'⟩⟩
      · rw [List.getElem?_set_ne (Ne.symm hj)] at e2
        obtain ⟨u', r', q⟩ := hl j y v' e1 e2 e3
        refine ⟨u', r', ?_⟩
        rcases q with q | ⟨k, c', e, z'⟩
        · exact .inl q
        · refine .inr ⟨k, c', e, z'.sameBut hs ?_⟩
          rintro rfl
          exact hj (nodup_ix hN e1 (I.ok.inj _ _ _ e hc ▸ hi))
    · by_cases hcc : c' = c
      · subst hcc; exact ⟨_, hc'⟩
      · obtain ⟨w2, z2⟩ := I.cell y c' e
        exact ⟨w2, z2.sameBut hs hcc⟩
    · obtain ⟨e, n, ne, nf, d⟩ := I.pin p hp
      refine ⟨(hs.2 p.1 ?_).trans e, n, ne, nf, d⟩
      intro q
      rw [q, hoc] at e
      have q' : oc = p.2 := Option.some.inj e
      exact d w' (by rw [← q']; exact hocd)
theorem store_ok {M : Model} {A : Around} {E : Value → Shared → Prop} {i : Nat} {x : Str} {v : V} {u : Value} {Q : Unit → Shared → Prop} (I : Inv X pins σ H s) (hN : X.N.Nodup) (hi : X.N[i]? = some x) (hx : Loc X.env.scope x) (r : RelV v u)
    (h : ∀ s', Inv X pins (σ.set i (some v)) H s' → Q () s') (hf : X.fn x = true ∨ X.env.scope.names.lookup x = some .local := by first | exact .inl rfl | exact .inr rfl | assumption) : wpAny M A (storeName X.env x u) Q E s :=
  store_ok2 I hN hi hx r (fun s' I' _ => h s' I') hf
/-- behind a call or a block, the state as it is -/
theorem Inv.call' {s' : Shared} {ch : List Addr} (I : Inv X pins σ H s) (ho : s'.os = s.os) (u : Un (frs X.stack) ch H H' s.heap s'.heap) (hok : HOk X.prog X.w H' s'.heap) (hg : GB s.gens.size s'.gens)
    (hch : ∀ b ∈ ch, (b ∈ X.ex ∨ X.s_0.heap.objs.size ≤ b) ∧ b ≠ X.env.locals ∧ (∀ x c, X.env.cells.lookup x = some c → c ≠ b) ∧ ∀ p ∈ X.pn ++ pins, p.1 ≠ b) : Inv X pins σ H' s' := by
  obtain ⟨h', g', d', t', o'⟩ := s'
  have e : o' = s.os := ho
  subst e
  exact I.call (g' := g') (t' := t') (d' := d') u hok hg hch
end
/-- an exception: its class, its own dict's address (where it has one), the abstract heap behind it -/
abbrev XK := Value → Option Addr → Hp → Prop
abbrev St := List (Option V)
abbrev VK := V → Hp → Prop
/-- an expression's reading; a test's; an argument list's -/
abbrev TE := St → Hp → VK → Prop
abbrev TT := St → Hp → (Bool → Hp → Prop) → Prop
abbrev TA := St → Hp → (List V → Hp → Prop) → Prop
/-- what is wanted behind a statement -/
structure Ends where
  nx : St → Hp → Prop
  rt : VK
  bk : St → Hp → Prop := fun _ _ => False
  ct : St → Hp → Prop := fun _ _ => False
abbrev TS := Ends → St → Hp → Prop
def EP (X : Cx) (pins : List (Addr × Obj)) (σ : St) (Q : VK) (u : Value) (s' : Shared) : Prop := ∃ v H', Inv X pins σ H' s' ∧ RelV v u ∧ Q v H'
def TP (X : Cx) (pins : List (Addr × Obj)) (σ : St) (Q : Bool → Hp → Prop) (b : Bool) (s' : Shared) : Prop := ∃ H', Inv X pins σ H' s' ∧ Q b H'
def AP (X : Cx) (pins : List (Addr × Obj)) (σ : St) (Q : List V → Hp → Prop) (us : List Value) (s' : Shared) : Prop := ∃ vs H', Inv X pins σ H' s' ∧ Vals vs us ∧ Q vs H'
def SP (X : Cx) (pins : List (Addr × Obj)) (D : Ends) (f : Flow) (s' : Shared) : Prop :=
  match f with
  | .next => ∃ σ' H', Inv X pins σ' H' s' ∧ D.nx σ' H'
  | .brk => ∃ σ' H', Inv X pins σ' H' s' ∧ D.bk σ' H'
  | .cont => ∃ σ' H', Inv X pins σ' H' s' ∧ D.ct σ' H'
  | .ret u => ∃ v σ' H', Inv X pins σ' H' s' ∧ RelV v u ∧ D.rt v H'
def PE (X : Cx) (e : Expr) (t : TE) : Prop :=
  ∀ ⦃pins : List (Addr × Obj)⦄ (s : Shared) (σ : St) (H : Hp) (Q : VK), Inv X pins σ H s → t σ H Q → wpAny (model X.prog X.w) X.A (eval e X.env) (EP X pins σ Q) X.xe s
def PT (X : Cx) (e : Expr) (t : TT) : Prop :=
  ∀ ⦃pins : List (Addr × Obj)⦄ (s : Shared) (σ : St) (H : Hp) (Q : Bool → Hp → Prop), Inv X pins σ H s → t σ H Q → wpAny (model X.prog X.w) X.A (isTrue e X.env (eval e X.env)) (TP X pins σ Q) X.xe s
/-- a test whatever its 'whole' is (and, or) -/
def PW (X : Cx) (e : Expr) (t : TT) : Prop :=
  ∀ ⦃pins : List (Addr × Obj)⦄ (whole : Sem Value) (s : Shared) (σ : St) (H : Hp) (Q : Bool → Hp → Prop), Inv X pins σ H s → t σ H Q → wpAny (model X.prog X.w) X.A (isTrue e X.env whole) (TP X pins σ Q) X.xe s
theorem PW.pt {X : Cx} {e : Expr} {t : TT} (h : PW X e t) : PT X e t := fun pins => @h pins _
/-- an argument list (no star), from the left -/
def PA (X : Cx) (es : List Expr) (t : TA) : Prop :=
  ∀ ⦃pins : List (Addr × Obj)⦄ (pos : Pos) (s : Shared) (σ : St) (H : Hp) (Q : List V → Hp → Prop), Inv X pins σ H s → t σ H Q → wpAny (model X.prog X.w) X.A (spliced (backTo pos (starEach es X.env))) (AP X pins σ Q) X.xe s
def PS (X : Cx) (st : Stmt) (t : TS) : Prop :=
  ∀ ⦃pins : List (Addr × Obj)⦄ (s : Shared) (σ : St) (H : Hp) (D : Ends), Inv X pins σ H s → t D σ H → wpAny (model X.prog X.w) X.A (exec st X.env) (SP X pins D) X.xe s
def PSs (X : Cx) (st : List Stmt) (t : TS) : Prop :=
  ∀ ⦃pins : List (Addr × Obj)⦄ (s : Shared) (σ : St) (H : Hp) (D : Ends), Inv X pins σ H s → t D σ H → wpAny (model X.prog X.w) X.A (execs st X.env) (SP X pins D) X.xe s
/-- weaken the end -/
theorem thn {α : Type} {t : Sem α} {Q Q' : α → Shared → Prop} {M : Model} {A : Around} {E : Value → Shared → Prop} {s : Shared} (h : wpAny M A t Q E s) (hQ : ∀ a s, Q a s → Q' a s) : wpAny M A t Q' E s := wpAny_mono h hQ fun _ _ x => x
end L2
namespace L2
open PySem PySem.Spec PyProof.Rows
section
variable {X : Cx}
def tVar (i : Nat) : TE := fun σ H Q => ∃ v, σ[i]? = some (some v) ∧ Q v H
def tC (v : V) : TE := fun _ H Q => Q v H
theorem pe_var {i : Nat} {x : Str} {pos : Pos} (hN : X.N[i]? = some x) (hv : Vis X.env.scope x) (hd : (x == ("__debug__" : Str)) = false := by decide) (hcd : (x == ("__classdict__" : Str)) = false := by decide) : PE X (.Name x pos) (tVar i) := by
  intro pins s σ H Q I h
  obtain ⟨v, e, h⟩ := h
  obtain ⟨m, hn, hl⟩ := I.loc
  obtain ⟨u, r, l⟩ := hl i x v hN e hv
  have fin : EP X pins σ Q u s := ⟨v, H, I, r, h⟩
  rcases l with ⟨hk, hm⟩ | ⟨hk, c, hc, hcell⟩
  · exact wpAny_Name (wpAny_loadName_local I.ok.kind hk hn hm fin) hd
  · rcases hk with hk | hk
    · exact wpAny_Name (wpAny_loadName_cell I.ok.kind hk hc hcell fin) hd
    · exact wpAny_Name (wpAny_loadName_free I.ok.kind hk hc hcell fin hcd) hd
theorem pe_int {i j pos} : PE X (.Constant (.int i) j pos) (tC (.int i)) := fun _ _ _ H _ I h => wpAny_Constant_int ⟨.int i, H, I.tok _, ⟨_, rfl⟩, h⟩
theorem pe_bl {b j pos} : PE X (.Constant (.bool b) j pos) (tC (.bl b)) := fun _ _ _ H _ I h => Constant_bool ⟨.bl b, H, I, rfl, h⟩
theorem pe_non {j pos} : PE X (.Constant .none j pos) (tC .non) := fun _ _ _ H _ I h => Constant_none ⟨.non, H, I, rfl, h⟩
theorem pe_str {x j pos} : PE X (.Constant (.str x) j pos) (tC (.str x)) := fun _ _ _ H _ I h => Calls.Constant_str ⟨.str x, H, I.tok _, ⟨_, rfl⟩, h⟩
/-- a global name of the def -/
def Gl (X : Cx) (x : Str) : Prop := X.env.kindOf x = some .globalImplicit
theorem ld_glob {E : Value → Shared → Prop} {pins : List (Addr × Obj)} {s : Shared} {σ : St} {H : Hp} {x : Str} {u : Value} {pos : Pos} {Q : Value → Shared → Prop} (I : Inv X pins σ H s) (hg : Gl X x) (hm : X.mg x = some u) (h : Q u s)
    (hd : (x == ("__debug__" : Str)) = false := by decide) : wpAny (model X.prog X.w) X.A (eval (.Name x pos) X.env) Q E s :=
  Calls.Name_function_global I.ok.kind hg (Calls.loadGlobal_global (by rw [I.ok.glob]; exact I.mod.glob.keeps I.bk) hm h) hd
theorem ld_blt {E : Value → Shared → Prop} {pins : List (Addr × Obj)} {s : Shared} {σ : St} {H : Hp} {x : Str} {u : Value} {pos : Pos} {Q : Value → Shared → Prop} (I : Inv X pins σ H s) (hg : Gl X x) (hm : X.mg x = none) (hv : bootBuiltins x = some u) (h : Q u s)
    (hn : x ≠ "__name__" := by decide) (hd : (x == ("__debug__" : Str)) = false := by decide) : wpAny (model X.prog X.w) X.A (eval (.Name x pos) X.env) Q E s := by
  obtain ⟨mb, h1, h2⟩ := I.mod.blt
  exact Calls.Name_function_global I.ok.kind hg (Calls.loadGlobal_builtin (by rw [I.ok.glob]; exact I.mod.glob.keeps I.bk) hm (by rw [I.ok.blt]; exact h1.keeps I.bk) ((h2 x hn).trans hv) h) hd
/-- a module's constant, a class, a function, as a value -/
theorem pe_glob {x : Str} {v : V} {u : Value} {pos : Pos} (hg : Gl X x) (hm : X.mg x = some u) (r : RelV v u) (hd : (x == ("__debug__" : Str)) = false := by decide) : PE X (.Name x pos) (tC v) :=
  fun _ _ _ H _ I h => ld_glob I hg hm ⟨v, H, I, r, h⟩ hd
theorem pe_bltn {x : Str} {v : V} {u : Value} {pos : Pos} (hg : Gl X x) (hm : X.mg x = none) (hv : bootBuiltins x = some u) (r : RelV v u) (hn : x ≠ "__name__" := by decide) (hd : (x == ("__debug__" : Str)) = false := by decide) : PE X (.Name x pos) (tC v) :=
  fun _ _ _ H _ I h => ld_blt I hg hm hv ⟨v, H, I, r, h⟩ hn hd
variable {a b : Expr} {ta tb : TE} {pos : Pos}
def PC (X : Cx) (op : CmpOp) (a b : Expr) (t : TE) : Prop :=
  ∀ ⦃pins : List (Addr × Obj)⦄ (s : Shared) (σ : St) (H : Hp) (Q : VK), Inv X pins σ H s → t σ H Q →
    wpAny (model X.prog X.w) X.A (eval a X.env) (fun v s₁ => wpAny (model X.prog X.w) X.A (eval b X.env) (fun u s₂ => wpAny (model X.prog X.w) X.A (compareOp op v u) (EP X pins σ Q) X.xe s₂) X.xe s₁) X.xe s
theorem nobehind (b : Expr) {op : CmpOp} (h : op ≠ .In) (h2 : op ≠ .NotIn) : behindInMarks op b = false := by
  have e1 : (op == CmpOp.In) = false := by cases op <;> first | rfl | exact absurd rfl h
  have e2 : (op == CmpOp.NotIn) = false := by cases op <;> first | rfl | exact absurd rfl h2
  cases b <;> simp [behindInMarks, e1, e2]
/-- is None -/
def tIsN (ta : TE) : TE := fun σ H Q => ta σ H fun x H1 => Q (.bl (decide (x = .non))) H1
theorem RelV.none_iff {x : V} {v : Value} (r : RelV x v) : (v == Value.none) = decide (x = .non) := by
  cases x with
  | non => cases r; rfl
  | bl _ => cases r; rfl
  | int _ => obtain ⟨t, rfl⟩ := r; rfl
  | str _ => obtain ⟨t, rfl⟩ := r; rfl
  | byt _ => obtain ⟨t, rfl⟩ := r; rfl
  | flt _ => obtain ⟨t, rfl⟩ := r; rfl
  | ref _ => cases r; rfl
  | ty _ => cases r; rfl
theorem pc_isN {j pos'} (ha : PE X a ta) : PC X .Is a (.Constant .none j pos') (tIsN ta) := by
  intro pins s σ H Q I h
  refine thn (ha s σ H _ I h) fun v s1 ⟨x, H1, I1, r1, q1⟩ => ?_
  exact Constant_none (is_none_gen ⟨.bl _, H1, I1, by rw [r1.none_iff]; rfl, q1⟩)
/-- a comparison as a value, as a test -/
def tB (t : TE) : TT := fun σ H Q => t σ H fun x H1 => ∃ c, x = .bl c ∧ Q c H1
theorem pt_cmp {op : CmpOp} {t : TE} (h : PC X op a b t) (h1 : behindInMarks op b = false := by first | exact nobehind _ (by decide) (by decide) | rfl) : PT X (.Compare a [op] [b] pos) (tB t) := by
  intro pins s σ H Q I hw
  refine wpAny_isTrue_Compare1 (thn (h s σ H _ I hw) fun v s1 h1 => thn h1 fun u s2 h2 => thn h2 fun c s3 ⟨x, H1, I1, r1, q1⟩ => ?_) h1
  obtain ⟨d, rfl, q⟩ := q1
  cases r1
  exact wpAny_truthy_bool ⟨H1, I1, q⟩
/-- an expression whose value is a bool, as a test -/
theorem pt_val {e : Expr} {t : TE} (h : PE X e t) (he : ∀ whole, isTrue e X.env whole = (do let v ← whole; standAt e.pos; holding [v] (truthy v)) := by intro _; rfl) : PT X e (tB t) := by
  intro pins s σ H Q I hw
  refine isTrue_plain (thn (h s σ H _ I hw) fun v s1 ⟨x, H1, I1, r1, q1⟩ => ?_) (he _)
  obtain ⟨d, rfl, q⟩ := q1
  cases r1
  exact wpAny_truthy_bool ⟨H1, I1, q⟩
variable {tA tB' : TT} {rest : List Expr}
def tAnd (t u : TT) : TT := fun σ H Q => t σ H fun c H1 => if c = true then u σ H1 Q else Q false H1
def tOr (t u : TT) : TT := fun σ H Q => t σ H fun c H1 => if c = true then Q true H1 else u σ H1 Q
def tNot (t : TT) : TT := fun σ H Q => t σ H fun c H1 => Q (!c) H1
theorem pw_and1 (ha : PT X a tA) : PW X (.BoolOp .And [a] pos) tA := by
  intro pins wh s σ H Q I h
  refine isTrue_and (thn (ha s σ H Q I h) fun c s1 e => ?_)
  cases c with
  | true => exact isTrue_and_nil e
  | false => exact e
theorem pw_or1 (ha : PT X a tA) : PW X (.BoolOp .Or [a] pos) tA := by
  intro pins wh s σ H Q I h
  refine isTrue_or (thn (ha s σ H Q I h) fun c s1 e => ?_)
  cases c with
  | false => exact isTrue_or_nil e
  | true => exact e
theorem pw_and (ha : PT X a tA) (hb : PW X (.BoolOp .And (b :: rest) pos) tB') : PW X (.BoolOp .And (a :: b :: rest) pos) (tAnd tA tB') := by
  intro pins wh s σ H Q I h
  refine isTrue_and (thn (ha s σ H _ I h) fun c s1 ⟨H1, I1, q1⟩ => ?_)
  cases c with
  | true => exact hb wh s1 σ H1 Q I1 q1
  | false => exact ⟨H1, I1, q1⟩
theorem pw_or (ha : PT X a tA) (hb : PW X (.BoolOp .Or (b :: rest) pos) tB') : PW X (.BoolOp .Or (a :: b :: rest) pos) (tOr tA tB') := by
  intro pins wh s σ H Q I h
  refine isTrue_or (thn (ha s σ H _ I h) fun c s1 ⟨H1, I1, q1⟩ => ?_)
  cases c with
  | true => exact ⟨H1, I1, q1⟩
  | false => exact hb wh s1 σ H1 Q I1 q1
theorem pt_not (ha : PT X a tA) : PT X (.UnaryOp .Not a pos) (tNot tA) := by
  intro pins s σ H Q I h
  exact isTrue_not (ha s σ H (fun c H1 => Q (!c) H1) I h)
/-- .. as values (bools) -/
def tAndV (ta tb : TE) : TE := fun σ H Q => ta σ H fun x H1 => ∃ c, x = .bl c ∧ if c = true then tb σ H1 Q else Q (.bl false) H1
def tNotV (ta : TE) : TE := fun σ H Q => ta σ H fun x H1 => ∃ c, x = .bl c ∧ Q (.bl (!c)) H1
theorem pe_one {op} {t : TE} (h : PE X a t) : PE X (.BoolOp op [a] pos) t := fun pins s σ H Q I hw => BoolOp_one (h s σ H Q I hw)
theorem pe_and (ha : PE X a ta) (hb : PE X (.BoolOp .And (b :: rest) pos) tb) : PE X (.BoolOp .And (a :: b :: rest) pos) (tAndV ta tb) := by
  intro pins s σ H Q I h
  refine BoolOp_and (thn (ha s σ H _ I h) fun v s1 ⟨x, H1, I1, r1, q1⟩ => ?_)
  obtain ⟨c, rfl, q1⟩ := q1
  cases r1
  refine wpAny_truthy_bool ?_
  cases c with
  | true => exact hb s1 σ H1 Q I1 q1
  | false => exact ⟨.bl false, H1, I1, rfl, q1⟩
theorem pe_not (ha : PE X a ta) : PE X (.UnaryOp .Not a pos) (tNotV ta) := by
  intro pins s σ H Q I h
  refine UnaryOp_ (thn (ha s σ H _ I h) fun v s1 ⟨x, H1, I1, r1, q1⟩ => ?_)
  obtain ⟨c, rfl, q1⟩ := q1
  cases r1
  exact not_of (wpAny_truthy_bool ⟨.bl (!c), H1, I1, rfl, q1⟩)
/-- a if t else b -/
def tIf (t : TT) (ta tb : TE) : TE := fun σ H Q => t σ H fun c H1 => if c = true then ta σ H1 Q else tb σ H1 Q
theorem pe_ifExp {c : Expr} (hc : PT X c tA) (ha : PE X a ta) (hb : PE X b tb) : PE X (.IfExp c a b pos) (tIf tA ta tb) := by
  intro pins s σ H Q I h
  refine wpAny_IfExp (thn (hc s σ H _ I h) fun d s1 ⟨H1, I1, q1⟩ => ?_)
  cases d with
  | true => exact ha s1 σ H1 Q I1 q1
  | false => exact hb s1 σ H1 Q I1 q1
end
end L2
namespace L2
open PySem PySem.Spec PyProof.Rows
def SqL (K : PySem.W.Frag) (H : Hp) (a : Addr) (xs : List V) : Prop :=
  Rd H a (.lst xs) ∨
    ∃ (o : Obj) (its : Array Value) (n : Nat), K.lookup a = some o ∧ o.cls = .type "list" ∧ o.dict = none ∧ o.data = .seq its n ∧ its.size ≤ sizeLine ∧ Vals xs its.toList
def SqT (K : PySem.W.Frag) (H : Hp) (a : Addr) (xs : List V) : Prop :=
  Rd H a (.tup xs) ∨
    ∃ (o : Obj) (its : Array Value) (n : Nat), K.lookup a = some o ∧ o.cls = .type "tuple" ∧ o.data = .seq its n ∧ its.size ≤ sizeLine ∧ Vals xs its.toList
def absV : Value → Option V
  | .none => some .non
  | .bool b => some (.bl b)
  | .int i _ => some (.int i)
  | .str x _ => some (.str x)
  | .bytes b _ => some (.byt b)
  | .float b _ => some (.flt b)
  | .ref a => some (.ref a)
  | .type n => some (.ty n)
  | _ => none
theorem RelV.abs {x : V} {u : Value} (r : RelV x u) : absV u = some x := by
  cases x with
  | non => cases r; rfl
  | bl _ => cases r; rfl
  | int _ => obtain ⟨t, rfl⟩ := r; rfl
  | str _ => obtain ⟨t, rfl⟩ := r; rfl
  | byt _ => obtain ⟨t, rfl⟩ := r; rfl
  | flt _ => obtain ⟨t, rfl⟩ := r; rfl
  | ref _ => cases r; rfl
  | ty _ => cases r; rfl
theorem RelV.inj {x y : V} {u : Value} (r : RelV x u) (q : RelV y u) : x = y := Option.some.inj (r.abs.symm.trans q.abs)
theorem Vals.inj : ∀ {xs ys : List V} {us : List Value}, Vals xs us → Vals ys us → xs = ys
  | _, _, _, .nil, .nil => rfl
  | _, _, _, .cons r t, .cons r' t' => by rw [r.inj r', Vals.inj t t']
section
variable {X : Cx} {pins : List (Addr × Obj)} {σ : St} {H : Hp} {s : Shared} {a : Addr} {xs ys : List V}
theorem SqL.of {K : PySem.W.Frag} (h : H a = some (.lst xs)) : SqL K H a xs := .inl (.inl h)
theorem SqT.of {K : PySem.W.Frag} (h : H a = some (.tup xs)) : SqT K H a xs := .inl (.inl h)
theorem Inv.list (I : Inv X pins σ H s) (h : SqL X.K H a xs) : ∃ its : List Value, Vals xs its ∧ PlainL s.heap a its.toArray ∧ xs.length ≤ sizeLine := by
  rcases h with h | ⟨o, its, n, hk, hc, hd, hs, hz, r⟩
  · obtain ⟨z, its, n, r, e⟩ := h.ok I.hok
    exact ⟨its, r, ⟨_, n, e, rfl, rfl, rfl⟩, z⟩
  · refine ⟨its.toList, r, ⟨o, n, I.kIn a o hk, hc, hd, by simpa using hs⟩, ?_⟩
    have e := r.length
    simp only [Array.length_toList] at e
    omega
theorem Inv.tuple (I : Inv X pins σ H s) (h : SqT X.K H a xs) : ∃ its : List Value, Vals xs its ∧ IsTup s.heap a its.toArray ∧ xs.length ≤ sizeLine := by
  rcases h with h | ⟨o, its, n, hk, hc, hs, hz, r⟩
  · obtain ⟨z, its, r, p⟩ := h.ok I.hok
    exact ⟨its, r, p.tup, z⟩
  · refine ⟨its.toList, r, ⟨o, I.kIn a o hk, hc, n, by simpa using hs⟩, ?_⟩
    have e := r.length
    simp only [Array.length_toList] at e
    omega
theorem Inv.list_inj (I : Inv X pins σ H s) (h : SqL X.K H a xs) (h' : SqL X.K H a ys) : xs = ys := by
  obtain ⟨its, r, ⟨o, n, e, _, _, d⟩, _⟩ := I.list h
  obtain ⟨its', r', ⟨o', n', e', _, _, d'⟩, _⟩ := I.list h'
  rw [e] at e'; cases e'
  rw [d] at d'
  injection d' with d1 _
  have : its = its' := by simpa using congrArg Array.toList d1
  subst this
  exact r.inj r'
theorem Inv.tuple_inj (I : Inv X pins σ H s) (h : SqT X.K H a xs) (h' : SqT X.K H a ys) : xs = ys := by
  obtain ⟨its, r, ⟨o, e, _, n, d⟩, _⟩ := I.tuple h
  obtain ⟨its', r', ⟨o', e', _, n', d'⟩, _⟩ := I.tuple h'
  rw [e] at e'; cases e'
  rw [d] at d'
  injection d' with d1 _
  have : its = its' := by simpa using congrArg Array.toList d1
  subst this
  exact r.inj r'
end
abbrev Cx.wish (X : Cx) (E : Value → Shared → Prop) : Cx := { X with xe := E }
/-- no exception leaves -/
abbrev Cx.nox (X : Cx) : Cx := X.wish fun _ _ => False
theorem Cx.Ok.wish {X : Cx} (ok : X.Ok) (E : Value → Shared → Prop) : (X.wish E).Ok :=
  ⟨ok.mod, ok.kind, ok.glob, ok.blt, ok.above, ok.inj, ok.has, ok.cab, ok.hd, ok.frames, ok.stk, ok.exf, ok.bs, ok.bsz, ok.noex, ok.exfs, ok.funs, ok.frf⟩
theorem Cx.Ok.unwish {X : Cx} {E : Value → Shared → Prop} (ok : (X.wish E).Ok) : X.Ok :=
  ⟨ok.mod, ok.kind, ok.glob, ok.blt, ok.above, ok.inj, ok.has, ok.cab, ok.hd, ok.frames, ok.stk, ok.exf, ok.bs, ok.bsz, ok.noex, ok.exfs, ok.funs, ok.frf⟩
section
variable {X : Cx} {pins : List (Addr × Obj)} {σ : St} {H : Hp} {s : Shared} {E : Value → Shared → Prop}
theorem Inv.wish (I : Inv X pins σ H s) (E : Value → Shared → Prop) : Inv (X.wish E) pins σ H s := ⟨I.ok.wish E, I.os, I.bare, I.base, I.loc, I.cell, I.free, I.freeC, I.pin, I.hok, I.len⟩
theorem Inv.unwish (I : Inv (X.wish E) pins σ H s) : Inv X pins σ H s := ⟨I.ok.unwish, I.os, I.bare, I.base, I.loc, I.cell, I.free, I.freeC, I.pin, I.hok, I.len⟩
theorem SP.unwish {D : Ends} {f : Flow} {s' : Shared} (h : SP (X.wish E) pins D f s') : SP X pins D f s' := by
  cases f with
  | next => obtain ⟨σ', H', I, q⟩ := h; exact ⟨σ', H', I.unwish, q⟩
  | brk => obtain ⟨σ', H', I, q⟩ := h; exact ⟨σ', H', I.unwish, q⟩
  | cont => obtain ⟨σ', H', I, q⟩ := h; exact ⟨σ', H', I.unwish, q⟩
  | ret u => obtain ⟨v, σ', H', I, r, q⟩ := h; exact ⟨v, σ', H', I.unwish, r, q⟩
theorem PE.nox {e : Expr} {t : TE} (h : PE X.nox e t) : PE X e t := fun pins s σ H Q I hw =>
  wpAny_mono (h s σ H Q (I.wish _) hw) (fun _ _ ⟨v, H', I', r, q⟩ => ⟨v, H', I'.unwish, r, q⟩) fun _ _ z => False.elim z
theorem PT.nox {e : Expr} {t : TT} (h : PT X.nox e t) : PT X e t := fun pins s σ H Q I hw =>
  wpAny_mono (h s σ H Q (I.wish _) hw) (fun _ _ ⟨H', I', q⟩ => ⟨H', I'.unwish, q⟩) fun _ _ z => False.elim z
theorem PSs.nox {st : List Stmt} {t : TS} (h : PSs X.nox st t) : PSs X st t := fun pins s σ H D I hw =>
  wpAny_mono (h s σ H D (I.wish _) hw) (fun _ _ q => q.unwish) fun _ _ z => False.elim z
end
section
variable {X : Cx} {st : Stmt} {rest : List Stmt} {t u : TS} {e : Expr} {te : TE} {pos : Pos}
def tNext : TS := fun D σ H => D.nx σ H
def tSeq (t u : TS) : TS := fun D σ H => t { D with nx := u D } σ H
theorem pss_nil : PSs X [] tNext := fun _ _ σ H _ I h => wpAny_execs_nil ⟨σ, H, I, h⟩
theorem pss_cons (h1 : PS X st t) (h2 : PSs X rest u) : PSs X (st :: rest) (tSeq t u) := by
  intro pins s σ H D I h
  refine wpAny_execs_cons (thn (h1 s σ H { D with nx := u D } I h) fun f s1 q => ?_)
  cases f with
  | next =>
    obtain ⟨σ', H', I', q⟩ := q
    exact h2 s1 σ' H' D I' q
  | ret v => exact q
  | brk => exact q
  | cont => exact q
theorem pss_one (h1 : PS X st t) : PSs X [st] t := by
  intro pins s σ H D I h
  refine wpAny_execs_cons (thn (h1 s σ H D I h) fun f s1 q => ?_)
  cases f with
  | next => exact wpAny_execs_nil q
  | ret v => exact q
  | brk => exact q
  | cont => exact q
/-- in a def's body nothing is shown -/
theorem Inv.quiet {pins : List (Addr × Obj)} {σ : St} {H : Hp} {s : Shared} (I : Inv X pins σ H s) : interactive X.env = false := by simp [interactive, I.ok.kind]
/-- an expression whose value is dropped -/
def tDrop (te : TE) : TS := fun D σ H => te σ H fun _ H1 => D.nx σ H1
theorem ps_expr (he : PE X e te) (hs : swapsWith e none pos.line X.env = pure false := by rfl) : PS X (.Expr e pos) (tDrop te) := by
  intro pins s σ H D I h
  exact wpAny_Expr_any (thn (he s σ H _ I h) fun v s1 ⟨x, H1, I1, r1, q1⟩ => ⟨σ, H1, I1, q1⟩) I.quiet hs
def tRet (te : TE) : TS := fun D σ H => te σ H D.rt
theorem ps_ret (he : PE X e te) : PS X (.Return (some e) pos) (tRet te) := by
  intro pins s σ H D I h
  exact wpAny_Return_some (thn (he s σ H _ I h) fun v s1 ⟨x, H1, I1, r1, q1⟩ => ⟨x, σ, H1, I1, r1, q1⟩)
def tIfS (c : TT) (t u : TS) : TS := fun D σ H => c σ H fun b H1 => if b = true then t D σ H1 else u D σ H1
theorem ps_if {c : Expr} {a b : List Stmt} {tc : TT} (hc : PT X c tc) (ha : PSs X a t) (hb : PSs X b u) : PS X (.If c a b pos) (tIfS tc t u) := by
  intro pins s σ H D I h
  refine wpAny_If (thn (hc s σ H _ I h) fun d s1 ⟨H1, I1, q1⟩ => ?_)
  cases d with
  | true => exact ha s1 σ H1 D I1 q1
  | false => exact hb s1 σ H1 D I1 q1
/-- code that the proof never comes to -/
def tNever : TS := fun _ _ _ => False
theorem pss_never {sts : List Stmt} : PSs X sts tNever := fun _ _ _ _ _ _ h => h.elim
end
abbrev TG := V → St → Hp → (St → Hp → Prop) → Prop
abbrev TGs := List V → St → Hp → (St → Hp → Prop) → Prop
def PG (X : Cx) (target : Expr) (t : TG) : Prop :=
  ∀ ⦃pins : List (Addr × Obj)⦄ (s : Shared) (σ : St) (H : Hp) (v : V) (u : Value) (Q : St → Hp → Prop), Inv X pins σ H s → RelV v u → t v σ H Q →
    wpAny (model X.prog X.w) X.A (assign target X.env u) (fun _ s' => ∃ σ' H', Inv X pins σ' H' s' ∧ Q σ' H') X.xe s
/-- several targets, one after another -/
def PGs (X : Cx) (ts : List Expr) (t : TGs) : Prop :=
  ∀ ⦃pins : List (Addr × Obj)⦄ (s : Shared) (σ : St) (H : Hp) (vs : List V) (us : List Value) (Q : St → Hp → Prop), Inv X pins σ H s → Vals vs us → t vs σ H Q →
    wpAny (model X.prog X.w) X.A (assignInOrder ((assignEach ts X.env).map (·.2)) us) (fun _ s' => ∃ σ' H', Inv X pins σ' H' s' ∧ Q σ' H') X.xe s
/-- o[i] = v, by values -/
abbrev TSet := V → V → V → Hp → (Hp → Prop) → Prop
def PSet (X : Cx) (t : TSet) : Prop :=
  ∀ ⦃pins : List (Addr × Obj)⦄ (s : Shared) (σ : St) (H : Hp) (o i v : V) (ov iv u : Value) (Q : Hp → Prop), Inv X pins σ H s → RelV o ov → RelV i iv → RelV v u → t o i v H Q →
    wpAny (model X.prog X.w) X.A (setItem ov iv u) (fun _ s' => ∃ H', Inv X pins σ H' s' ∧ Q H') X.xe s
/-- a op= b, by values -/
abbrev TIp := V → V → Hp → VK → Prop
def PIp (X : Cx) (op : Operator) (t : TIp) : Prop :=
  ∀ ⦃pins : List (Addr × Obj)⦄ (s : Shared) (σ : St) (H : Hp) (x y : V) (v u : Value) (Q : VK), Inv X pins σ H s → RelV x v → RelV y u → t x y H Q →
    wpAny (model X.prog X.w) X.A (inplaceOp op v u) (EP X pins σ Q) X.xe s
section
variable {X : Cx} {pos : Pos}
def gName (i : Nat) : TG := fun v σ H Q => Q (σ.set i (some v)) H
theorem pg_name {i : Nat} {x : Str} (hN : X.N.Nodup) (hi : X.N[i]? = some x) (hx : Loc X.env.scope x) (hf : X.fn x = true ∨ X.env.scope.names.lookup x = some .local := by first | exact .inl rfl | exact .inr rfl | assumption) : PG X (.Name x pos) (gName i) := by
  intro pins s σ H v u Q I r h
  exact wpAny_assign_Name (store_ok I hN hi hx r (fun s' I' => ⟨_, H, I', h⟩) hf)
def gNil : TGs := fun vs σ H Q => vs = [] ∧ Q σ H
def gCons (t : TG) (u : TGs) : TGs := fun vs σ H Q => ∃ v r, vs = v :: r ∧ t v σ H fun σ' H' => u r σ' H' Q
theorem pgs_nil : PGs X [] gNil := by
  intro pins s σ H vs us Q I r h
  obtain ⟨e, h⟩ := h
  subst e
  cases r
  exact assignInOrder_nil ⟨σ, H, I, h⟩
theorem pgs_cons {e : Expr} {es : List Expr} {t : TG} {u : TGs} (h1 : PG X e t) (h2 : PGs X es u)
    (hs : (assignEach (e :: es) X.env).map (·.2) = assign e X.env :: (assignEach es X.env).map (·.2) := by rfl) : PGs X (e :: es) (gCons t u) := by
  intro pins s σ H vs us Q I r h
  obtain ⟨v, vr, e1, h⟩ := h
  subst e1
  cases r with
  | cons r rr =>
    rw [hs]
    refine assignInOrder_cons (thn (h1 s σ H _ _ _ I r h) fun _ s1 ⟨σ1, H1, I1, q1⟩ => ?_)
    exact h2 s1 σ1 H1 _ _ Q I1 rr q1
/-- (a, b, ..) = a tuple of that length -/
def gTup (K : PySem.W.Frag) (n : Nat) (t : TGs) : TG := fun v σ H Q => ∃ a xs, v = .ref a ∧ SqT K H a xs ∧ xs.length = n ∧ t xs σ H Q
theorem pg_tup {es : List Expr} {k : Nat} {t : TGs} {n : Nat} (hc : X.calm = true) (h : PGs X es t)
    (hn : (assignEach es X.env).length = n := by rfl) (hst : (assignEach es X.env).findIdx? (·.1) = none := by rfl) : PG X (.Tuple es k pos) (gTup X.K n t) := by
  intro pins s σ H v u Q I r hw
  obtain ⟨a, xs, e1, hq, hl, hw⟩ := hw
  subst e1
  cases r
  obtain ⟨its, rv, ht, hz⟩ := I.tuple hq
  refine assign_Tuple_tuple (I.ok.hd hc) ht (by simp [hn, ← hl, rv.length]) hst fun h' hx => ?_
  have I1 : Inv X pins σ H { s with heap := h' } := I.kept (t' := s.toks) fun b o e => hx b o (Nat.ne_of_lt (Heap.lt_size e)) e
  exact h _ σ H xs _ Q I1 (by simpa using rv) hw
/-- o[i] = .. -/
def gSub (to ti : TE) (t : TSet) : TG := fun v σ H Q => to σ H fun o H1 => ti σ H1 fun i H2 => t o i v H2 fun H3 => Q σ H3
theorem pg_sub {o i : Expr} {to ti : TE} {t : TSet} (ho : PE X o to) (hi : PE X i ti) (hs : PSet X t)
    (ha : ∀ v, assign (.Subscript o i pos) X.env v = (do
      let ov ← holding [v] (eval o X.env)
      let iv ← holding [v, ov] (eval i X.env)
      standAt pos
      holding [v, ov, iv] (setItem ov iv v)
      release [v, ov, iv] []) := by intro _; rfl) : PG X (.Subscript o i pos) (gSub to ti t) := by
  intro pins s σ H v u Q I r h
  rw [ha]
  refine wpAny_bind (wpAny_holding (thn (ho s σ H _ I h) fun ov s1 ⟨x, H1, I1, r1, q1⟩ => ?_))
  refine wpAny_bind (wpAny_holding (thn (hi s1 σ H1 _ I1 q1) fun iv s2 ⟨y, H2, I2, r2, q2⟩ => ?_))
  refine wpAny_bind (wpAny_standAt (wpAny_bind (wpAny_holding (thn (hs s2 σ H2 x y v ov iv u _ I2 r1 r2 r q2) fun _ s3 ⟨H3, I3, q3⟩ => ?_))))
  exact wpAny_release ⟨σ, H3, I3, q3⟩
/-- target = value -/
def tAsg (te : TE) (g : TG) : TS := fun D σ H => te σ H fun x H1 => g x σ H1 D.nx
theorem ps_asg {tg e : Expr} {te : TE} {g : TG} (he : PE X e te) (hg : PG X tg g) (hs : swapsWithSole [tg] e pos.line X.env = pure false := by rfl) (hw : swappedStores [tg] e X.env = pure none := by rfl)
    (h1 : (assignEach [tg] X.env).map (·.2) = [assign tg X.env] := by rfl) : PS X (.Assign [tg] e pos) (tAsg te g) := by
  intro pins s σ H D I h
  refine wpAny_Assign_stores (thn (he s σ H _ I h) fun v s1 ⟨x, H1, I1, r1, q1⟩ => ?_) hs hw
  rw [h1]
  exact thn (hg s1 σ H1 x v _ I1 r1 q1) fun _ s2 q => q
/-- name = value -/
theorem ps_set {i : Nat} {x : Str} {e : Expr} {te : TE} {pos' : Pos} (hN : X.N.Nodup) (hi : X.N[i]? = some x) (hx : Loc X.env.scope x) (he : PE X e te) (hs : swapsWith e (some (.Name x pos')) pos.line X.env = pure false := by rfl) (hf : X.fn x = true ∨ X.env.scope.names.lookup x = some .local := by first | exact .inl rfl | exact .inr rfl | assumption) :
    PS X (.Assign [.Name x pos'] e pos) (tAsg te (gName i)) := by
  intro pins s σ H D I h
  refine wpAny_Assign_Name (thn (he s σ H _ I h) fun v s1 ⟨y, H1, I1, r1, q1⟩ => ?_) hs
  exact store_ok I1 hN hi hx r1 (fun s2 I2 => ⟨_, H1, I2, q1⟩) hf
/-- o[i] op= e -/
def tAugS (to ti te : TE) (tget : V → V → Hp → VK → Prop) (tip : TIp) (tset : TSet) : TS := fun D σ H => to σ H fun o H1 => ti σ H1 fun i H2 => tget o i H2 fun x H3 => te σ H3 fun y H4 => tip x y H4 fun z H5 => tset o i z H5 fun H6 => D.nx σ H6
/-- o[i], by values -/
def PGet (X : Cx) (t : V → V → Hp → VK → Prop) : Prop :=
  ∀ ⦃pins : List (Addr × Obj)⦄ (s : Shared) (σ : St) (H : Hp) (o i : V) (ov iv : Value) (Q : VK), Inv X pins σ H s → RelV o ov → RelV i iv → t o i H Q →
    wpAny (model X.prog X.w) X.A (getItem ov iv) (EP X pins σ Q) X.xe s
theorem ps_augS {o i e : Expr} {to ti te : TE} {tget : V → V → Hp → VK → Prop} {tip : TIp} {tset : TSet} {op : Operator} {tpos : Pos} (ho : PE X o to) (hi : PE X i ti) (hg : PGet X tget) (he : PE X e te) (hp : PIp X op tip) (hs : PSet X tset)
    (ha : ∀ ov iv new, augStore i ov iv new = (do holding [new, ov, iv] (setItem ov iv new); release [new, ov, iv] []; pure .next) := by intros; rfl) : PS X (.AugAssign (.Subscript o i tpos) op e pos) (tAugS to ti te tget tip tset) := by
  intro pins s σ H D I h
  refine wpAny_AugAssign_SubscriptAny (thn (ho s σ H _ I h) fun ov s1 ⟨x1, H1, I1, r1, q1⟩ => ?_) ha
  refine thn (hi s1 σ H1 _ I1 q1) fun iv s2 ⟨x2, H2, I2, r2, q2⟩ => ?_
  refine thn (hg s2 σ H2 x1 x2 ov iv _ I2 r1 r2 q2) fun old s3 ⟨x3, H3, I3, r3, q3⟩ => ?_
  refine thn (he s3 σ H3 _ I3 q3) fun v s4 ⟨x4, H4, I4, r4, q4⟩ => ?_
  refine thn (hp s4 σ H4 x3 x4 old v _ I4 r3 r4 q4) fun new s5 ⟨x5, H5, I5, r5, q5⟩ => ?_
  exact thn (hs s5 σ H5 x1 x2 x5 ov iv new _ I5 r1 r2 r5 q5) fun _ s6 ⟨H6, I6, q6⟩ => ⟨σ, H6, I6, q6⟩
/-- ints -/
def ipI (f : Int → Int → Int) : TIp := fun x y H Q => ∃ i j, x = .int i ∧ y = .int j ∧ Q (.int (f i j)) H
theorem ip_add : PIp X .Add (ipI fun i j => i + j) := by
  intro pins s σ H x y v u Q I r1 r2 h
  obtain ⟨i, j, e1, e2, q⟩ := h
  subst e1; subst e2
  obtain ⟨t, rfl⟩ := r1
  obtain ⟨t', rfl⟩ := r2
  exact iadd_int ⟨.int _, H, I.tok _, ⟨_, rfl⟩, q⟩
end
section
variable {X : Cx} {pos : Pos}
/-- the invariant W with its measure -/
def tWhile (c : TT) (tb : TS) : TS := fun D σ H => ∃ W : Nat → St → Hp → Prop, (∃ m, W m σ H) ∧ ∀ m σ H, W m σ H →
  c σ H fun b H1 => if b = true then ∃ N : St → Hp → Prop, (∀ σ' H', N σ' H' → ∃ m', m' < m ∧ W m' σ' H') ∧ tb { D with nx := N, ct := N, bk := D.nx } σ H1 else D.nx σ H1
theorem ps_while {c : Expr} {body : List Stmt} {tc : TT} {tb : TS} (hp : PassesOwn (model X.prog X.w) X.A X.env X.xe) (hc : PT X c tc) (hb : PSs X body tb) : PS X (.While c body [] pos) (tWhile tc tb) := by
  intro pins s σ H D I h
  obtain ⟨W, ⟨m0, w0⟩, turn⟩ := h
  refine wpAny_While (codeAny_whileLoop (fun n s' => ∃ σ' H', Inv X pins σ' H' s' ∧ W n σ' H') ?_ m0 ⟨σ, H, I, w0⟩)
  rintro n s1 ⟨σ1, H1, I1, w1⟩
  refine wpAny_passesOwn hp (thn (hc s1 σ1 H1 _ I1 (turn n σ1 H1 w1)) fun b s2 ⟨H2, I2, q2⟩ => ?_)
  cases b with
  | true =>
    obtain ⟨N, hN, q2⟩ := q2
    rw [if_pos rfl]
    refine wpAny_passesOwn hp (thn (hb s2 σ1 H2 _ I2 q2) fun f s3 q3 => ?_)
    cases f with
    | next =>
      obtain ⟨σ3, H3, I3, n3⟩ := q3
      obtain ⟨m', hm, w3⟩ := hN σ3 H3 n3
      exact ⟨m', hm, σ3, H3, I3, w3⟩
    | cont =>
      obtain ⟨σ3, H3, I3, n3⟩ := q3
      obtain ⟨m', hm, w3⟩ := hN σ3 H3 n3
      exact ⟨m', hm, σ3, H3, I3, w3⟩
    | brk => exact q3
    | ret v => exact q3
  | false =>
    rw [if_neg Bool.false_ne_true]
    exact wpAny_execs_nil ⟨σ1, H2, I2, q2⟩
end
/-- at turn i: it yields x (the heap may grow), or it stops -/
structure It where
  go : Nat → Hp → Prop
  yld : Nat → Hp → V → Hp → Prop
  stop : Nat → Hp → Prop
/-- the iterator's own objects may turn: they are not the frame's, not pinned, younger than the entry (or a comprehension's own) -/
def FpOk (X : Cx) (pins : List (Addr × Obj)) (H : Hp) (b : Addr) : Prop :=
  H b = none ∧ b ≠ X.env.locals ∧ b ∉ X.fs ∧ (b ∈ X.ex ∨ X.s_0.heap.objs.size ≤ b) ∧ (∀ x c, X.env.cells.lookup x = some c → c ≠ b) ∧ ∀ p ∈ X.pn ++ pins, p.1 ≠ b
theorem Inv.fpOk {X : Cx} {pins : List (Addr × Obj)} {σ : St} {H H' : Hp} {s : Shared} {b : Addr} (I : Inv X pins σ H s) (hb : s.heap.objs.size ≤ b) (hn : H' b = none) : FpOk X pins H' b := by
  refine ⟨hn, Nat.ne_of_gt (Nat.lt_of_lt_of_le I.lt hb), I.nofs hb, .inr (Nat.le_trans I.sz hb), fun x c e z => ?_, fun p hp z => ?_⟩
  · obtain ⟨v, q⟩ := I.cell x c e
    exact absurd (Nat.lt_of_lt_of_le q.lt (by rw [z]; exact hb)) (Nat.lt_irrefl _)
  · exact absurd (Nat.lt_of_lt_of_le (Heap.lt_size (I.pin p hp).1) (by rw [z]; exact hb)) (Nat.lt_irrefl _)
structure Turn (P : Program) (w : World) (K : PySem.W.Frag) (tg : Expr) (J : It) (fp : List Addr) (it : Addr) (tn : Nat → Heap → Prop) : Prop where
  mem : it ∈ fp
  obj : ∀ i h, tn i h → ∀ b ∈ fp, ∃ o, h.get? b = some o ∧ ∀ v, o.data ≠ .cell v
  keep : ∀ i h h', tn i h → (∀ b ∈ fp, ∀ o, h.get? b = some o → h'.get? b = some o) → tn i h'
  item : ∀ (X : Cx), X.prog = P → X.w = w → X.K = K → X.calm = true → ∀ (i : Nat) ⦃pins : List (Addr × Obj)⦄ (s : Shared) (σ : St) (H : Hp) (E : Value → Shared → Prop), Inv X pins σ H s → (∀ b ∈ fp, FpOk X pins H b) → tn i s.heap → J.go i H →
    wpAny (model P w) X.A (pyNext (.ref it)) (fun r s1 => ∃ u, r = some u ∧
      wpAny (model P w) X.A (letOwnedTupleGo tg (.ref it) u) (fun _ s2 => ∃ x H', Inv X pins σ H' s2 ∧ RelV x u ∧ J.yld i H x H' ∧ tn (i + 1) s2.heap ∧ ∀ b ∈ fp, H' b = none) E s1) E s
  done : ∀ (X : Cx), X.prog = P → X.w = w → X.K = K → X.calm = true → ∀ (i : Nat) ⦃pins : List (Addr × Obj)⦄ (s : Shared) (σ : St) (H : Hp) (E : Value → Shared → Prop), Inv X pins σ H s → (∀ b ∈ fp, FpOk X pins H b) → tn i s.heap → J.stop i H →
    wpAny (model P w) X.A (pyNext (.ref it)) (fun r s1 => r = none ∧ Inv X pins σ H s1) E s
  self : ∀ (A : Around) (i : Nat) (s : Shared) (Q : Value → Shared → Prop) (E : Value → Shared → Prop), tn i s.heap → Q (.ref it) s → wpAny (model P w) A (pyIter (.ref it)) Q E s
abbrev TI := St → Hp → (It → Hp → Prop) → Prop
/-- an iterator has come -/
def PIE (X : Cx) (pins : List (Addr × Obj)) (σ : St) (tg : Expr) (R : It → Hp → Prop) (itv : Value) (s2 : Shared) : Prop :=
  ∃ (it : Addr) (fp : List Addr) (tn : Nat → Heap → Prop) (J : It) (H' : Hp), itv = .ref it ∧ Inv X pins σ H' s2 ∧ Turn X.prog X.w X.K tg J fp it tn ∧ tn 0 s2.heap ∧ (∀ b ∈ fp, FpOk X pins H' b) ∧ R J H'
def PI (X : Cx) (tg iter : Expr) (wi : TI) : Prop :=
  ∀ ⦃pins : List (Addr × Obj)⦄ (s : Shared) (σ : St) (H : Hp) (R : It → Hp → Prop), Inv X pins σ H s → wi σ H R →
    wpAny (model X.prog X.w) X.A (eval iter X.env) (fun v s1 => wpAny (model X.prog X.w) X.A (pyIter v) (PIE X pins σ tg R) X.xe s1) X.xe s
/-- the step ahead of the store is nothing for an iterator that keeps no tuple -/
theorem go_of {M : Model} {A : Around} {E : Value → Shared → Prop} {s : Shared} {tg : Expr} {it : Addr} {u : Value} {o : Obj} {n : String} {vs : Array Value} {Q : Unit → Shared → Prop} (ho : s.heap.get? it = some o) (hc : o.cls = .type n) (hd : o.data = .fields vs)
    (hn : ["enumerate", "zip", "dict_itemiterator", "dict_reverseitemiterator", "odict_iterator", "itertools.zip_longest", "itertools.pairwise"].contains n = false) (hQ : Q () s) : wpAny M A (letOwnedTupleGo tg (.ref it) u) Q E s := by
  unfold letOwnedTupleGo
  cases tg <;> first
    | exact wpAny_pure hQ
    | (cases u <;> first
        | exact wpAny_pure hQ
        | (refine wpAny_bind (wpAny_load ho ?_)
           rw [hc, hd]
           show wpAny M A (if (["enumerate", "zip", "dict_itemiterator", "dict_reverseitemiterator", "odict_iterator", "itertools.zip_longest", "itertools.pairwise"].contains n && vs[0]? == some (rawInt _)) = true then _ else _) Q E s
           rw [if_neg (by intro h; rw [hn, Bool.false_and] at h; cases h)]
           exact wpAny_pure hQ))
/-- the list at a, as it stands at each turn (a loop may append to it) -/
def Itl (K : PySem.W.Frag) (a : Addr) : It :=
  ⟨fun i H => ∃ xs x, SqL K H a xs ∧ xs[i]? = some x, fun i H x H' => H' = H ∧ ∀ xs, SqL K H a xs → xs[i]? = some x, fun i H => ∃ xs, SqL K H a xs ∧ xs.length ≤ i⟩
def Itt (K : PySem.W.Frag) (a : Addr) : It :=
  ⟨fun i H => ∃ xs x, SqT K H a xs ∧ xs[i]? = some x, fun i H x H' => H' = H ∧ ∀ xs, SqT K H a xs → xs[i]? = some x, fun i H => ∃ xs, SqT K H a xs ∧ xs.length ≤ i⟩
/-- lo, lo + 1, .. (n of them) -/
def Itr (lo : Int) (n : Nat) : It := ⟨fun i _ => i < n, fun i H x H' => H' = H ∧ x = .int (lo + i), fun i _ => n ≤ i⟩
theorem turn_list {P : Program} {w : World} {K : PySem.W.Frag} {tg : Expr} (a it : Addr) : Turn P w K tg (Itl K a) [it] it (fun i h => h.IsListIter it a i) where
  mem := by simp
  obj := fun i h st b hb => by
    have e : b = it := by simpa using hb
    subst e
    obtain ⟨o, e, c, d⟩ := st
    exact ⟨o, e, fun v z => by rw [d] at z; cases z⟩
  keep := fun i h h' st k => st.at fun o e => k it (by simp) o e
  item := by
    intro X hP hw hK hc i pins s σ H E I hf st hg
    subst hP hw hK
    obtain ⟨xs, x, hq, hx⟩ := hg
    obtain ⟨its, rv, p, hz⟩ := I.list hq
    obtain ⟨u, hu, ru⟩ := rv.get hx
    obtain ⟨f0, f1, f2, f3, f4, f5⟩ := hf it (by simp)
    refine wpAny_pyNext_list_item st p.isList (x := u) (by simpa using hu) fun h' st' sb => ?_
    have I1 : Inv X pins σ H { s with heap := h' } := I.turned (t' := s.toks) (fun b o hb e => (sb.2 b hb).trans e) f0 f1 f3 f4 f5
    obtain ⟨o, e, c, d⟩ := id st'
    exact ⟨u, rfl, go_of (s := { s with heap := h' }) e c d (by decide) ⟨x, H, I1, ru, ⟨rfl, fun ys hy => by rw [I.list_inj hy hq]; exact hx⟩, st', fun b hb => (hf b hb).1⟩⟩
  done := by
    intro X hP hw hK hc i pins s σ H E I hf st hg
    subst hP hw hK
    obtain ⟨xs, hq, hx⟩ := hg
    obtain ⟨its, rv, p, hz⟩ := I.list hq
    obtain ⟨f0, f1, f2, f3, f4, f5⟩ := hf it (by simp)
    have hl := rv.length
    exact wpAny_pyNext_list_end (I.ok.hd hc) st p.isList (by simp; omega) fun h' eb => ⟨rfl, I.turned (t' := s.toks) (fun b o hb e => eb b o hb e) f0 f1 f3 f4 f5⟩
  self := fun _ _ _ _ _ st h => wpAny_pyIter_listiter st h
theorem turn_tuple {P : Program} {w : World} {K : PySem.W.Frag} {tg : Expr} (a it : Addr) : Turn P w K tg (Itt K a) [it] it (fun i h => h.IsTupleIter it a i) where
  mem := by simp
  obj := fun i h st b hb => by
    have e : b = it := by simpa using hb
    subst e
    obtain ⟨o, e, c, d⟩ := st
    exact ⟨o, e, fun v z => by rw [d] at z; cases z⟩
  keep := fun i h h' st k => st.at fun o e => k it (by simp) o e
  item := by
    intro X hP hw hK hc i pins s σ H E I hf st hg
    subst hP hw hK
    obtain ⟨xs, x, hq, hx⟩ := hg
    obtain ⟨its, rv, p, hz⟩ := I.tuple hq
    obtain ⟨u, hu, ru⟩ := rv.get hx
    obtain ⟨f0, f1, f2, f3, f4, f5⟩ := hf it (by simp)
    refine wpAny_pyNext_tuple_item st (show s.heap.IsTuple a its.toArray from p) (x := u) (by simpa using hu) fun h' st' sb => ?_
    have I1 : Inv X pins σ H { s with heap := h' } := I.turned (t' := s.toks) (fun b o hb e => (sb.2 b hb).trans e) f0 f1 f3 f4 f5
    obtain ⟨o, e, c, d⟩ := id st'
    exact ⟨u, rfl, go_of (s := { s with heap := h' }) e c d (by decide) ⟨x, H, I1, ru, ⟨rfl, fun ys hy => by rw [I.tuple_inj hy hq]; exact hx⟩, st', fun b hb => (hf b hb).1⟩⟩
  done := by
    intro X hP hw hK hc i pins s σ H E I hf st hg
    subst hP hw hK
    obtain ⟨xs, hq, hx⟩ := hg
    obtain ⟨its, rv, p, hz⟩ := I.tuple hq
    obtain ⟨f0, f1, f2, f3, f4, f5⟩ := hf it (by simp)
    have hl := rv.length
    exact wpAny_pyNext_tuple_end (I.ok.hd hc) st (show s.heap.IsTuple a its.toArray from p) (by simp; omega) fun h' eb => ⟨rfl, I.turned (t' := s.toks) (fun b o hb e => eb b o hb e) f0 f1 f3 f4 f5⟩
  self := fun _ _ _ _ _ st h => wpAny_pyIter_tupleiter st h
theorem turn_range {P : Program} {w : World} {K : PySem.W.Frag} {tg : Expr} (it : Addr) (lo : Int) (n : Nat) : Turn P w K tg (Itr lo n) [it] it (fun i h => IsRangeIter h it (lo + (i : Nat) * 1) ((n : Int) - (i : Nat)) 1) where
  mem := by simp
  obj := fun i h st b hb => by
    have e : b = it := by simpa using hb
    subst e
    exact ⟨_, st, fun v z => by
      have z' : Data.fields _ = Data.cell v := z
      cases z'⟩
  keep := fun i h h' st k => k it (by simp) _ st
  item := by
    intro X hP hw hK hc i pins s σ H E I hf st hg
    subst hP hw hK
    obtain ⟨f0, f1, f2, f3, f4, f5⟩ := hf it (by simp)
    have W := Walks.range (prog := X.prog) (w := X.w) (I.ok.hd hc) it lo 1 n
    refine W.item i s _ _ hg st fun v h' tk hv st' kk => ?_
    obtain ⟨t, rfl⟩ := hv
    have I1 : Inv X pins σ H { s with heap := h', toks := tk } := I.turned (fun b o hb e => kk b o (by simpa using hb) e) f0 f1 f3 f4 f5
    refine ⟨_, rfl, go_of (s := { s with heap := h', toks := tk }) (n := "range_iterator") st' rfl rfl (by decide) ⟨.int (lo + i), H, I1, ⟨t, ?_⟩, ⟨rfl, rfl⟩, st', fun b hb => (hf b hb).1⟩⟩
    rw [Int.mul_one]
  done := by
    intro X hP hw hK hc i pins s σ H E I hf st hg
    subst hP hw hK
    obtain ⟨f0, f1, f2, f3, f4, f5⟩ := hf it (by simp)
    exact wpAny_pyNext_range_end (I.ok.hd hc) st (by have : n ≤ i := hg; omega) fun h' eb => ⟨rfl, I.turned (t' := s.toks) (fun b o hb e => eb b o hb e) f0 f1 f3 f4 f5⟩
  self := fun _ _ _ _ _ st h => wpAny_pyIter_rangeiter st h
end L2
namespace L2
open PySem PySem.Spec PyProof.Rows
section
variable {X : Cx} {tg : Expr}
def iList (K : PySem.W.Frag) (tl : TE) : TI := fun σ H R => tl σ H fun x H1 => ∃ a, x = .ref a ∧ (∃ xs, SqL K H1 a xs) ∧ R (Itl K a) H1
def iTup (K : PySem.W.Frag) (tl : TE) : TI := fun σ H R => tl σ H fun x H1 => ∃ a, x = .ref a ∧ (∃ xs, SqT K H1 a xs) ∧ R (Itt K a) H1
theorem pi_list {l : Expr} {tl : TE} (hl : PE X l tl) : PI X tg l (iList X.K tl) := by
  intro pins s σ H R I h
  refine thn (hl s σ H _ I h) fun v s1 ⟨x, H1, I1, r1, q1⟩ => ?_
  obtain ⟨a, e, ⟨xs, hq⟩, q⟩ := q1
  subst e
  cases r1
  obtain ⟨its, rv, p, hz⟩ := I1.list hq
  refine wpAny_pyIter_list p.isList ?_
  refine ⟨s1.heap.objs.size, [s1.heap.objs.size], _, _, H1, rfl, I1.kept (t' := s1.toks) fun b o e => Heap.get?_push_of_some _ e, turn_list a _, ⟨_, Heap.get?_push_size _ rfl, rfl, rfl⟩, fun b hb => ?_, q⟩
  have e : b = s1.heap.objs.size := by simpa using hb
  subst e
  exact I1.fpOk (Nat.le_refl _) (I1.hok.fresh (Nat.le_refl _))
theorem pi_tup {l : Expr} {tl : TE} (hl : PE X l tl) : PI X tg l (iTup X.K tl) := by
  intro pins s σ H R I h
  refine thn (hl s σ H _ I h) fun v s1 ⟨x, H1, I1, r1, q1⟩ => ?_
  obtain ⟨a, e, ⟨xs, hq⟩, q⟩ := q1
  subst e
  cases r1
  obtain ⟨its, rv, p, hz⟩ := I1.tuple hq
  refine wpAny_pyIter_tuple (show s1.heap.IsTuple a its.toArray from p) ?_
  refine ⟨s1.heap.objs.size, [s1.heap.objs.size], _, _, H1, rfl, I1.kept (t' := s1.toks) fun b o e => Heap.get?_push_of_some _ e, turn_tuple a _, ⟨_, Heap.get?_push_size _ rfl, rfl, rfl⟩, fun b hb => ?_, q⟩
  have e : b = s1.heap.objs.size := by simpa using hb
  subst e
  exact I1.fpOk (Nat.le_refl _) (I1.hok.fresh (Nat.le_refl _))
/-- a range object just made, walked -/
theorem range_it {pins : List (Addr × Obj)} {σ : St} {H : Hp} {s : Shared} {R : It → Hp → Prop} {E : Value → Shared → Prop} {lo hi : Int} {t u v : Tok} {tk : Nat} (I : Inv X pins σ H s) (h1 : -(2 ^ 62) ≤ lo) (h2 : lo < 2 ^ 62) (h3 : -(2 ^ 62) ≤ hi) (h4 : hi < 2 ^ 62)
    (q : R (Itr lo (hi - lo).toNat) H) : wpAny (model X.prog X.w) X.A (pyIter (.ref s.heap.objs.size)) (PIE X pins σ tg R) E { s with heap := s.heap.push { cls := .type "range", data := .fields #[.int lo t, .int hi u, .int 1 v] }, toks := tk } := by
  refine wpAny_pyIter_range (IsRange.new ..) (small_one h1 h2 h3 h4) ?_
  have I1 : Inv X pins σ H { s with heap := s.heap.push { cls := .type "range", data := .fields #[.int lo t, .int hi u, .int 1 v] }, toks := tk } := I.kept fun b o e => Heap.get?_push_of_some _ e
  refine ⟨(s.heap.push { cls := .type "range", data := .fields #[.int lo t, .int hi u, .int 1 v] }).objs.size, [(s.heap.push { cls := .type "range", data := .fields #[.int lo t, .int hi u, .int 1 v] }).objs.size], _, _, H, rfl,
    I1.kept (t' := tk) fun b o e => Heap.get?_push_of_some _ e, turn_range _ lo (hi - lo).toNat, ?_, fun b hb => ?_, q⟩
  · have e1 : lo + ((0 : Nat) : Int) * 1 = lo := by simp
    have e2 : (((hi - lo).toNat : Nat) : Int) - ((0 : Nat) : Int) = Builtin.Range.rangeSize lo hi 1 := by rw [rangeSize_one]; split <;> omega
    show IsRangeIter _ _ (lo + ((0 : Nat) : Int) * 1) ((((hi - lo).toNat : Nat) : Int) - ((0 : Nat) : Int)) 1
    rw [e1, e2]
    exact Heap.get?_push_size _ rfl
  · have e : b = (s.heap.push { cls := .type "range", data := .fields #[.int lo t, .int hi u, .int 1 v] }).objs.size := by simpa using hb
    subst e
    exact I1.fpOk (Nat.le_refl _) (I1.hok.fresh (Nat.le_refl _))
def iRng1 (ta : TA) : TI := fun σ H R => ta σ H fun vs H1 => ∃ j : Int, vs = [.int j] ∧ -(2 ^ 62) ≤ j ∧ j < 2 ^ 62 ∧ R (Itr 0 j.toNat) H1
theorem pi_range1 {a : Expr} {ta : TA} {p pos : Pos} (hg : Gl X "range") (hm : X.mg "range" = none) (ha : PA X [a] ta) (hs : starEach [a] X.env = [(false, eval a X.env)] := by rfl) : PI X tg (.Call (.Name "range" p) [a] [] pos) (iRng1 ta) := by
  intro pins s σ H R I h
  refine Call_ (ld_blt I hg hm boot_range (PyProof.Rows.callWith_type1 (thn (ha pos s σ H _ I h) fun us s1 ⟨vs, H1, I1, r1, q1⟩ => ?_) hs rfl))
  obtain ⟨j, e, q1, q2, q⟩ := q1
  subst e
  cases r1 with
  | cons r rr =>
    cases rr
    obtain ⟨t, rfl⟩ := r
    exact call_range_1 (range_it I1 (by omega) (by omega) q1 q2 (by simpa using q))
/-- W: the invariant by the turn and a measure; N: what the body is to reach -/
def tFor (wi : TI) (g : TG) (tb : TS) : TS := fun D σ H => wi σ H fun J H1 => ∃ W : Nat → Nat → St → Hp → Prop, (∃ m, W 0 m σ H1) ∧ ∀ i m σ H, W i m σ H →
  (J.stop i H ∧ D.nx σ H) ∨ (J.go i H ∧ ∃ N : St → Hp → Prop, (∀ σ' H', N σ' H' → ∃ m', m' < m ∧ W (i + 1) m' σ' H') ∧ ∀ x H', J.yld i H x H' → g x σ H' fun σ2 H2 => tb { D with nx := N, ct := N, bk := D.nx } σ2 H2)
/-- the records at fp as they stand -/
def pinsAt (fp : List Addr) (h : Heap) : List (Addr × Obj) := fp.filterMap fun b => (h.get? b).map fun o => (b, o)
theorem mem_pinsAt {fp : List Addr} {h : Heap} {b : Addr} {o : Obj} (hb : b ∈ fp) (e : h.get? b = some o) : (b, o) ∈ pinsAt fp h := List.mem_filterMap.mpr ⟨b, hb, by rw [e]; rfl⟩
theorem of_pinsAt {fp : List Addr} {h : Heap} {p : Addr × Obj} (hp : p ∈ pinsAt fp h) : p.1 ∈ fp ∧ h.get? p.1 = some p.2 := by
  obtain ⟨b, hb, e⟩ := List.mem_filterMap.mp hp
  cases q : h.get? b with
  | none => rw [q] at e; cases e
  | some o =>
    rw [q] at e
    have e' : (b, o) = p := Option.some.inj e
    subst e'
    exact ⟨hb, q⟩
theorem Inv.pinned {pins : List (Addr × Obj)} {σ : St} {H : Hp} {s : Shared} {fp : List Addr} (I : Inv X pins σ H s) (hf : ∀ b ∈ fp, FpOk X pins H b) (ho : ∀ b ∈ fp, ∃ o, s.heap.get? b = some o ∧ ∀ v, o.data ≠ .cell v) : Inv X (pins ++ pinsAt fp s.heap) σ H s :=
  I.pins_of fun p hp => (List.mem_append.mp hp).elim (fun z => I.pin p (List.mem_append_right _ z)) fun z => by
    obtain ⟨hb, e⟩ := of_pinsAt z
    obtain ⟨f0, f1, f2, _⟩ := hf p.1 hb
    obtain ⟨o, e', d⟩ := ho p.1 hb
    rw [e] at e'; cases e'
    exact ⟨e, f0, f1, f2, d⟩
theorem Inv.unpinned {pins pl : List (Addr × Obj)} {σ : St} {H : Hp} {s : Shared} (I : Inv X (pins ++ pl) σ H s) : Inv X pins σ H s := I.pins_of fun p hp => I.pin p (List.mem_append_right _ (List.mem_append_left _ hp))
theorem ps_for {iter : Expr} {body : List Stmt} {wi : TI} {g : TG} {tb : TS} {pos : Pos} (hp : PassesOwn (model X.prog X.w) X.A X.env X.xe) (hc : X.calm = true) (hi : PI X tg iter wi) (hg : PG X tg g) (hb : PSs X body tb)
    (hs : ∀ x, foldedSetIterable iter X.env x = pure x := by intro _; rfl) : PS X (.For tg iter body [] pos) (tFor wi g tb) := by
  intro pins s σ H D I h
  refine wpAny_For (thn (hi s σ H _ I h) fun v s1 h1 => thn h1 fun itv s2 h2 => ?_) hs
  obtain ⟨it, fp, tn, J, H2, e, I2, T, st2, f2, W, ⟨m0, w0⟩, turn⟩ := h2
  subst e
  -- what stays true of the iterator's objects through the loop
  have stat : ∀ {H' : Hp}, (∀ b ∈ fp, H' b = none) → ∀ b ∈ fp, FpOk X pins H' b := fun hn b hb => ⟨hn b hb, (f2 b hb).2⟩
  refine codeAny_forLoop_any (fun n s' => ∃ i σ' H', Inv X pins σ' H' s' ∧ tn i s'.heap ∧ (∀ b ∈ fp, H' b = none) ∧ W i n σ' H') ?_ m0 ⟨0, σ, H2, I2, st2, fun b hb => (f2 b hb).1, w0⟩
  rintro n s3 ⟨i, σ3, H3, I3, st3, fr3, w3⟩
  rcases turn i n σ3 H3 w3 with ⟨stop, qn⟩ | ⟨go, N, hN, step⟩
  · refine wpAny_passesOwn hp (thn (T.done X rfl rfl rfl hc i s3 σ3 H3 X.xe I3 (stat fr3) st3 stop) fun r s4 ⟨hr, I4⟩ => ?_)
    subst hr
    exact wpAny_execs_nil ⟨σ3, H3, I4, qn⟩
  · refine wpAny_passesOwn hp (thn (T.item X rfl rfl rfl hc i s3 σ3 H3 X.xe I3 (stat fr3) st3 go) fun r s4 ⟨u, hr, h4⟩ => ?_)
    subst hr
    refine wpAny_passesOwn hp (thn h4 fun _ s5 ⟨x, H5, I5, r5, y5, st5, fr5⟩ => ?_)
    have I5' := I5.pinned (stat fr5) (T.obj _ _ st5)
    refine wpAny_passesOwn hp (thn (hg s5 σ3 H5 x u _ I5' r5 (step x H5 y5)) fun _ s6 ⟨σ6, H6, I6, q6⟩ => ?_)
    refine wpAny_passesOwn hp (thn (hb s6 σ6 H6 _ I6 q6) fun f s7 q7 => ?_)
    have again : ∀ {σ7 : St} {H7 : Hp}, Inv X (pins ++ pinsAt fp s5.heap) σ7 H7 s7 → N σ7 H7 → ∃ m, m < n ∧ ∃ i σ' H', Inv X pins σ' H' s7 ∧ tn i s7.heap ∧ (∀ b ∈ fp, H' b = none) ∧ W i m σ' H' := fun {σ7 H7} I7 n7 => by
      obtain ⟨m', hm, w7⟩ := hN σ7 H7 n7
      refine ⟨m', hm, i + 1, σ7, H7, I7.unpinned, T.keep _ _ _ st5 fun b hb o e => (I7.pin (b, o) (List.mem_append_right _ (List.mem_append_right _ (mem_pinsAt hb e)))).1, fun b hb => ?_, w7⟩
      obtain ⟨o, e, d⟩ := T.obj _ _ st5 b hb
      exact (I7.pin (b, o) (List.mem_append_right _ (List.mem_append_right _ (mem_pinsAt hb e)))).2.1
    cases f with
    | next => obtain ⟨σ7, H7, I7, n7⟩ := q7; exact again I7 n7
    | cont => obtain ⟨σ7, H7, I7, n7⟩ := q7; exact again I7 n7
    | brk => obtain ⟨σ7, H7, I7, q7⟩ := q7; exact ⟨σ7, H7, I7.unpinned, q7⟩
    | ret v => obtain ⟨x7, σ7, H7, I7, r7, q7⟩ := q7; exact ⟨x7, σ7, H7, I7.unpinned, r7, q7⟩
end
theorem for_range {lo : Int} {n : Nat} {g : TG} {tb : TS} {D : Ends} {σ : St} {H : Hp} (Pv : Nat → St → Hp → Prop) (h0 : Pv 0 σ H)
    (hs : ∀ i σ H, i < n → Pv i σ H → g (.int (lo + i)) σ H fun σ2 H2 => tb { D with nx := Pv (i + 1), ct := Pv (i + 1), bk := D.nx } σ2 H2) (hd : ∀ σ H, Pv n σ H → D.nx σ H) :
    ∃ W : Nat → Nat → St → Hp → Prop, (∃ m, W 0 m σ H) ∧ ∀ i m σ H, W i m σ H →
      ((Itr lo n).stop i H ∧ D.nx σ H) ∨ ((Itr lo n).go i H ∧ ∃ N : St → Hp → Prop, (∀ σ' H', N σ' H' → ∃ m', m' < m ∧ W (i + 1) m' σ' H') ∧ ∀ x H', (Itr lo n).yld i H x H' → g x σ H' fun σ2 H2 => tb { D with nx := N, ct := N, bk := D.nx } σ2 H2) := by
  refine ⟨fun i m σ H => m = n - i ∧ i ≤ n ∧ Pv i σ H, ⟨n, by simp, Nat.zero_le _, h0⟩, ?_⟩
  rintro i m σ H ⟨rfl, hi, p⟩
  by_cases hlt : i < n
  · refine .inr ⟨hlt, Pv (i + 1), fun σ' H' p' => ⟨n - (i + 1), by omega, rfl, hlt, p'⟩, fun x H' y => ?_⟩
    obtain ⟨e, y⟩ := y
    subst e y
    exact hs i σ _ hlt p
  · have e : i = n := by omega
    subst e
    exact .inl ⟨Nat.le_refl _, hd σ H p⟩
end L2
namespace L2
open PySem PySem.Spec PyProof.Rows
abbrev R2 := V → V → Hp → VK → Prop
/-- a two-place operation on values: f is binaryOp op, inplaceOp op or compareOp op -/
def OpR (X : Cx) (f : Value → Value → Sem Value) (r : R2) : Prop :=
  ∀ ⦃pins : List (Addr × Obj)⦄ (s : Shared) (σ : St) (H : Hp) (x y : V) (v u : Value) (Q : VK), Inv X pins σ H s → RelV x v → RelV y u → r x y H Q →
    wpAny (model X.prog X.w) X.A (f v u) (EP X pins σ Q) X.xe s
/-- a one-place operation -/
def UnR (X : Cx) (f : Value → Sem Value) (r : V → Hp → VK → Prop) : Prop :=
  ∀ ⦃pins : List (Addr × Obj)⦄ (s : Shared) (σ : St) (H : Hp) (x : V) (v : Value) (Q : VK), Inv X pins σ H s → RelV x v → r x H Q →
    wpAny (model X.prog X.w) X.A (f v) (EP X pins σ Q) X.xe s
/-- a call of a value that is known (a builtin, a type) with values -/
def CallR (X : Cx) (f : Value) (r : List V → Hp → VK → Prop) : Prop :=
  ∀ ⦃pins : List (Addr × Obj)⦄ (s : Shared) (σ : St) (H : Hp) (xs : List V) (us : List Value) (Q : VK), Inv X pins σ H s → Vals xs us → r xs H Q →
    wpAny (model X.prog X.w) X.A (call f us) (EP X pins σ Q) X.xe s
def tOp (r : R2) (ta tb : TE) : TE := fun σ H Q => ta σ H fun x H1 => tb σ H1 fun y H2 => r x y H2 Q
def tUn (r : V → Hp → VK → Prop) (ta : TE) : TE := fun σ H Q => ta σ H fun x H1 => r x H1 Q
/-- ints in, under C, and a value out -/
def rI (C : Int → Int → Prop) (g : Int → Int → V) : R2 := fun x y H Q => ∃ i j, x = .int i ∧ y = .int j ∧ C i j ∧ Q (g i j) H
def rI0 (g : Int → Int → V) : R2 := fun x y H Q => ∃ i j, x = .int i ∧ y = .int j ∧ Q (g i j) H
def rU (g : Int → V) : V → Hp → VK → Prop := fun x H Q => ∃ i, x = .int i ∧ Q (g i) H
section
variable {X : Cx} {a b c : Expr} {ta tb tc : TE} {pos : Pos}
theorem binT (ha : PE X a ta) (hb : PE X b tb) {pins : List (Addr × Obj)} {s : Shared} {σ : St} {H : Hp} {R : V → V → Hp → Prop} (I : Inv X pins σ H s)
    (h : ta σ H fun x H1 => tb σ H1 fun y H2 => R x y H2) {Q : Value → Shared → Prop} {f : Value → Value → Sem Value}
    (hf : ∀ v u s2 x y H2, Inv X pins σ H2 s2 → RelV x v → RelV y u → R x y H2 → wpAny (model X.prog X.w) X.A (f v u) Q X.xe s2) :
    wpAny (model X.prog X.w) X.A (eval a X.env) (fun v s₁ => wpAny (model X.prog X.w) X.A (eval b X.env) (fun u s₂ => wpAny (model X.prog X.w) X.A (f v u) Q X.xe s₂) X.xe s₁) X.xe s := by
  refine thn (ha s σ H _ I h) fun v s1 ⟨x, H1, I1, r1, q1⟩ => ?_
  refine thn (hb s1 σ H1 _ I1 q1) fun u s2 ⟨y, H2, I2, r2, q2⟩ => ?_
  exact hf v u s2 x y H2 I2 r1 r2 q2
theorem pe_op {op : Operator} {r : R2} (ho : OpR X (binaryOp op) r) (ha : PE X a ta) (hb : PE X b tb) : PE X (.BinOp a op b pos) (tOp r ta tb) := by
  intro pins s σ H Q I h
  exact wpAny_BinOp (binT ha hb I h fun v u s2 x y H2 I2 rx ry q => ho s2 σ H2 x y v u Q I2 rx ry q)
theorem pe_un {op : UnaryOp} {r : V → Hp → VK → Prop} (ho : UnR X (unaryOp op) r) (ha : PE X a ta) : PE X (.UnaryOp op a pos) (tUn r ta) := by
  intro pins s σ H Q I h
  exact UnaryOp_ (thn (ha s σ H _ I h) fun v s1 ⟨x, H1, I1, r1, q1⟩ => ho s1 σ H1 x v Q I1 r1 q1)
theorem opI {f : Value → Value → Sem Value} {C : Int → Int → Prop} {g : Int → Int → Int}
    (rule : ∀ (i j : Int) (t u : Tok) (s : Shared) (Q : Value → Shared → Prop) (E : Value → Shared → Prop), C i j → Q (.int (g i j) s.toks) { s with toks := s.toks + 1 } → wpAny (model X.prog X.w) X.A (f (.int i t) (.int j u)) Q E s) :
    OpR X f (rI C fun i j => .int (g i j)) := by
  intro pins s σ H x y v u Q I rx ry h
  obtain ⟨i, j, rfl, rfl, hc, q⟩ := h
  obtain ⟨t, rfl⟩ := rx
  obtain ⟨t', rfl⟩ := ry
  exact rule i j t t' s _ _ hc ⟨.int (g i j), H, I.tok _, ⟨_, rfl⟩, q⟩
theorem opI0 {f : Value → Value → Sem Value} {g : Int → Int → Int}
    (rule : ∀ (i j : Int) (t u : Tok) (s : Shared) (Q : Value → Shared → Prop) (E : Value → Shared → Prop), Q (.int (g i j) s.toks) { s with toks := s.toks + 1 } → wpAny (model X.prog X.w) X.A (f (.int i t) (.int j u)) Q E s) :
    OpR X f (rI0 fun i j => .int (g i j)) := by
  intro pins s σ H x y v u Q I rx ry h
  obtain ⟨i, j, rfl, rfl, q⟩ := h
  obtain ⟨t, rfl⟩ := rx
  obtain ⟨t', rfl⟩ := ry
  exact rule i j t t' s _ _ ⟨.int (g i j), H, I.tok _, ⟨_, rfl⟩, q⟩
theorem opB0 {f : Value → Value → Sem Value} {g : Int → Int → Bool}
    (rule : ∀ (i j : Int) (t u : Tok) (s : Shared) (Q : Value → Shared → Prop) (E : Value → Shared → Prop), Q (.bool (g i j)) s → wpAny (model X.prog X.w) X.A (f (.int i t) (.int j u)) Q E s) :
    OpR X f (rI0 fun i j => .bl (g i j)) := by
  intro pins s σ H x y v u Q I rx ry h
  obtain ⟨i, j, rfl, rfl, q⟩ := h
  obtain ⟨t, rfl⟩ := rx
  obtain ⟨t', rfl⟩ := ry
  exact rule i j t t' s _ _ ⟨.bl (g i j), H, I, rfl, q⟩
def CDiv (i j : Int) : Prop := 0 < j ∧ j < 1073741824
def CPow (i j : Int) : Prop := 0 ≤ j ∧ j ≤ 1000000 ∧ i.natAbs < 2 ^ 64
def CMul (i j : Int) : Prop := (-(2 ^ 64) < i ∧ i < 2 ^ 64) ∨ (-(2 ^ 64) < j ∧ j < 2 ^ 64)
theorem CMul.ok {i j : Int} (h : CMul i j) : IntMulOk i j := by
  rcases h with ⟨h1, h2⟩ | ⟨h1, h2⟩
  · exact .of_left (intBits_le_64 h1 h2)
  · exact .of_right (intBits_le_64 h1 h2)
theorem op_add : OpR X (binaryOp .Add) (rI0 fun i j => .int (i + j)) := opI0 fun _ _ _ _ _ _ _ q => add_int q
theorem op_sub : OpR X (binaryOp .Sub) (rI0 fun i j => .int (i - j)) := opI0 fun _ _ _ _ _ _ _ q => sub_int q
theorem op_mul : OpR X (binaryOp .Mult) (rI CMul fun i j => .int (i * j)) := opI fun _ _ _ _ _ _ _ hc q => mul_int q hc.ok
/-- // by a positive divisor -/
theorem op_fdiv : OpR X (binaryOp .FloorDiv) (rI CDiv fun i j => .int (i / j)) := opI fun i j _ _ _ _ _ hc q => by
  have h1 : (0 : Int) < j := hc.1
  have h2 : j < 1073741824 := hc.2
  exact floordiv_int (by omega) (by rw [Int.fdiv_eq_ediv_of_nonneg i (by omega)]; exact q) (.inl (PyProof.noPylong_small (by omega)))
/-- % by a positive divisor of any size -/
theorem op_mod : OpR X (binaryOp .Mod) (rI (fun _ j => 0 < j) fun i j => .int (i % j)) := opI fun i j _ _ _ _ _ hc q => by
  have h1 : (0 : Int) < j := hc
  exact mod_int' (by omega) (by rw [Int.fmod_eq_emod_of_nonneg i (by omega)]; exact q)
theorem op_pow : OpR X (binaryOp .Pow) (rI CPow fun i j => .int (i ^ j.toNat)) := opI fun _ _ _ _ _ _ _ hc q => pow_int_small hc.1 hc.2.1 hc.2.2 q
theorem op_shl : OpR X (binaryOp .LShift) (rI CPow fun i j => .int (i * 2 ^ j.toNat)) := opI fun _ _ _ _ _ _ _ hc q => lshift_int_small hc.1 hc.2.1 hc.2.2 q
theorem unI {f : Value → Sem Value} {g : Int → Int}
    (rule : ∀ (i : Int) (t : Tok) (s : Shared) (Q : Value → Shared → Prop) (E : Value → Shared → Prop), Q (.int (g i) s.toks) { s with toks := s.toks + 1 } → wpAny (model X.prog X.w) X.A (f (.int i t)) Q E s) :
    UnR X f (rU fun i => .int (g i)) := by
  intro pins s σ H x v Q I rx h
  obtain ⟨i, rfl, q⟩ := h
  obtain ⟨t, rfl⟩ := rx
  exact rule i t s _ _ ⟨.int (g i), H, I.tok _, ⟨_, rfl⟩, q⟩
theorem un_neg : UnR X (unaryOp .USub) (rU fun i => .int (-i)) := unI fun _ _ _ _ _ q => neg_int q
end
/-- the scalars that == tells apart as data does -/
def scal : V → V → Bool
  | .non, .non => true | .non, .int _ => true | .int _, .non => true | .non, .bl _ => true | .bl _, .non => true | .non, .str _ => true | .str _, .non => true
  | .int _, .int _ => true | .bl _, .bl _ => true | .str _, .str _ => true | .byt _, .byt _ => true
  | .int _, .str _ => true | .str _, .int _ => true | .bl _, .str _ => true | .str _, .bl _ => true
  | _, _ => false
def rEq : R2 := fun x y H Q => scal x y = true ∧ Q (.bl (decide (x = y))) H
def rNe : R2 := fun x y H Q => scal x y = true ∧ Q (.bl (!decide (x = y))) H
theorem dec_int {i j : Int} : decide (V.int i = V.int j) = (i == j) := by
  rw [Bool.eq_iff_iff]
  simp
theorem dec_bl {i j : Bool} : decide (V.bl i = V.bl j) = (i == j) := by
  rw [Bool.eq_iff_iff]
  simp
theorem dec_str {i j : Str} : decide (V.str i = V.str j) = (i == j) := by
  rw [Bool.eq_iff_iff]
  simp
theorem dec_byt {i j : Array UInt8} : decide (V.byt i = V.byt j) = (i.toList == j.toList) := by
  rw [Bool.eq_iff_iff]
  cases i
  cases j
  simp
section
variable {X : Cx} {a b c : Expr} {ta tb tc : TE} {pos : Pos}
theorem fin_bl {pins : List (Addr × Obj)} {σ : St} {H : Hp} {s : Shared} {Q : VK} {k k' : Bool} (I : Inv X pins σ H s) (q : Q (.bl k) H) (e : k = k') : EP X pins σ Q (.bool k') s := by
  subst e
  exact ⟨.bl k, H, I, rfl, q⟩
theorem op_eq : OpR X (compareOp .Eq) rEq := by
  intro pins s σ H x y v u Q I rx ry h
  obtain ⟨hs, q⟩ := h
  cases x with
  | non =>
    cases rx
    cases y with
    | non => cases ry; exact PySem.EqNone.eq_none_none (fin_bl I q (by simp))
    | bl j => cases ry; exact PySem.EqNone.eq_none_bool (fin_bl I q (by simp))
    | int j => obtain ⟨t', rfl⟩ := ry; exact PySem.EqNone.eq_none_int (fin_bl I q (by simp))
    | str j => obtain ⟨t', rfl⟩ := ry; exact PySem.EqNone.eq_none_str (fin_bl I q (by simp))
    | _ => exact absurd (show false = true from hs) Bool.false_ne_true
  | bl i =>
    cases rx
    cases y with
    | non => cases ry; exact PySem.EqNone.eq_bool_none (fin_bl I q (by simp))
    | bl j => cases ry; exact eq_bool (fin_bl I q dec_bl)
    | str j => obtain ⟨t', rfl⟩ := ry; exact PySem.EqMixed.eq_bool_str (fin_bl I q (by simp))
    | _ => exact absurd (show false = true from hs) Bool.false_ne_true
  | int i =>
    obtain ⟨t, rfl⟩ := rx
    cases y with
    | non => cases ry; exact PySem.EqNone.eq_int_none (fin_bl I q (by simp))
    | int j => obtain ⟨t', rfl⟩ := ry; exact eq_int (fin_bl I q dec_int)
    | str j => obtain ⟨t', rfl⟩ := ry; exact PySem.EqMixed.eq_int_str (fin_bl I q (by simp))
    | _ => exact absurd (show false = true from hs) Bool.false_ne_true
  | str i =>
    obtain ⟨t, rfl⟩ := rx
    cases y with
    | non => cases ry; exact PySem.EqNone.eq_str_none (fin_bl I q (by simp))
    | bl j => cases ry; exact PySem.EqMixed.eq_str_bool (fin_bl I q (by simp))
    | int j => obtain ⟨t', rfl⟩ := ry; exact PySem.EqMixed.eq_str_int (fin_bl I q (by simp))
    | str j => obtain ⟨t', rfl⟩ := ry; exact eq_str (fin_bl I q dec_str)
    | _ => exact absurd (show false = true from hs) Bool.false_ne_true
  | byt i =>
    obtain ⟨t, rfl⟩ := rx
    cases y with
    | byt j => obtain ⟨t', rfl⟩ := ry; exact PySem.W.eq_bytes (fin_bl I q dec_byt)
    | _ => exact absurd (show false = true from hs) Bool.false_ne_true
  | _ => cases y <;> exact absurd (show false = true from hs) Bool.false_ne_true
theorem op_ne : OpR X (compareOp .NotEq) rNe := by
  intro pins s σ H x y v u Q I rx ry h
  obtain ⟨hs, q⟩ := h
  cases x with
  | non =>
    cases rx
    cases y with
    | non => cases ry; exact PySem.EqNone.ne_none_none (fin_bl I q (by simp))
    | bl j => cases ry; exact PySem.EqNone.ne_none_bool (fin_bl I q (by simp))
    | int j => obtain ⟨t', rfl⟩ := ry; exact PySem.EqNone.ne_none_int (fin_bl I q (by simp))
    | str j => obtain ⟨t', rfl⟩ := ry; exact PySem.EqNone.ne_none_str (fin_bl I q (by simp))
    | _ => exact absurd (show false = true from hs) Bool.false_ne_true
  | bl i =>
    cases rx
    cases y with
    | non => cases ry; exact PySem.EqNone.ne_bool_none (fin_bl I q (by simp))
    | bl j => cases ry; exact ne_bool (fin_bl I q (congrArg not dec_bl))
    | str j => obtain ⟨t', rfl⟩ := ry; exact PySem.EqMixed.ne_bool_str (fin_bl I q (by simp))
    | _ => exact absurd (show false = true from hs) Bool.false_ne_true
  | int i =>
    obtain ⟨t, rfl⟩ := rx
    cases y with
    | non => cases ry; exact PySem.EqNone.ne_int_none (fin_bl I q (by simp))
    | int j => obtain ⟨t', rfl⟩ := ry; exact ne_int (fin_bl I q (congrArg not dec_int))
    | str j => obtain ⟨t', rfl⟩ := ry; exact PySem.EqMixed.ne_int_str (fin_bl I q (by simp))
    | _ => exact absurd (show false = true from hs) Bool.false_ne_true
  | str i =>
    obtain ⟨t, rfl⟩ := rx
    cases y with
    | non => cases ry; exact PySem.EqNone.ne_str_none (fin_bl I q (by simp))
    | bl j => cases ry; exact PySem.EqMixed.ne_str_bool (fin_bl I q (by simp))
    | int j => obtain ⟨t', rfl⟩ := ry; exact PySem.EqMixed.ne_str_int (fin_bl I q (by simp))
    | str j => obtain ⟨t', rfl⟩ := ry; exact ne_str (fin_bl I q (congrArg not dec_str))
    | _ => exact absurd (show false = true from hs) Bool.false_ne_true
  | byt i =>
    obtain ⟨t, rfl⟩ := rx
    cases y with
    | byt j => obtain ⟨t', rfl⟩ := ry; exact PySem.W.ne_bytes (fin_bl I q (congrArg not dec_byt))
    | _ => exact absurd (show false = true from hs) Bool.false_ne_true
  | _ => cases y <;> exact absurd (show false = true from hs) Bool.false_ne_true
theorem op_lt : OpR X (compareOp .Lt) (rI0 fun i j => .bl (decide (i < j))) := opB0 fun _ _ _ _ _ _ _ q => lt_int q
theorem op_le : OpR X (compareOp .LtE) (rI0 fun i j => .bl (decide (i ≤ j))) := opB0 fun _ _ _ _ _ _ _ q => le_int q
theorem op_gt : OpR X (compareOp .Gt) (rI0 fun i j => .bl (decide (j < i))) := opB0 fun _ _ _ _ _ _ _ q => gt_int q
theorem op_lt_str : OpR X (compareOp .Lt) (fun x y H Q => ∃ i j, x = .str i ∧ y = .str j ∧ Q (.bl (decide (i.cps.toList < j.cps.toList))) H) := by
  intro pins s σ H x y v u Q I rx ry h
  obtain ⟨i, j, rfl, rfl, q⟩ := h
  obtain ⟨t, rfl⟩ := rx
  obtain ⟨t', rfl⟩ := ry
  exact lt_str (fin_bl I q rfl)
/-- two rules for one operation: by cases -/
theorem OpR.or {f : Value → Value → Sem Value} {r r' : R2} (h : OpR X f r) (h' : OpR X f r') : OpR X f (fun x y H Q => r x y H Q ∨ r' x y H Q) := by
  intro pins s σ H x y v u Q I rx ry q
  rcases q with q | q
  · exact h s σ H x y v u Q I rx ry q
  · exact h' s σ H x y v u Q I rx ry q
theorem nomark (b : Expr) {op : CmpOp} (h : op ≠ .In := by decide) (h2 : op ≠ .NotIn := by decide) : behindInMarks op b = false := by
  have e1 : (op == CmpOp.In) = false := by cases op <;> first | rfl | exact absurd rfl h
  have e2 : (op == CmpOp.NotIn) = false := by cases op <;> first | rfl | exact absurd rfl h2
  cases b <;> simp [behindInMarks, e1, e2]
/-- a comparison as a value; hm: nomark b, or (for in, not in) by with_unfolding_all rfl -/
theorem pe_cmpR {op : CmpOp} {r : R2} (ho : OpR X (compareOp op) r) (ha : PE X a ta) (hb : PE X b tb) (hm : behindInMarks op b = false) : PE X (.Compare a [op] [b] pos) (tOp r ta tb) := by
  intro pins s σ H Q I h
  exact wpAny_Compare1 (binT ha hb I h fun v u s2 x y H2 I2 rx ry q => ho s2 σ H2 x y v u Q I2 rx ry q) hm
/-- a reading of a value as a test -/
def tTest (t : TE) : TT := fun σ H Q => t σ H fun x H' => ∃ k, x = .bl k ∧ Q k H'
theorem pt_cmpR {op : CmpOp} {r : R2} (ho : OpR X (compareOp op) r) (ha : PE X a ta) (hb : PE X b tb) (hm : behindInMarks op b = false) : PT X (.Compare a [op] [b] pos) (tTest (tOp r ta tb)) := by
  intro pins s σ H Q I h
  refine wpAny_isTrue_Compare1 (thn (ha s σ H _ I h) fun v s1 ⟨x, H1, I1, r1, q1⟩ => thn (hb s1 σ H1 _ I1 q1) fun u s2 ⟨y, H2, I2, r2, q2⟩ =>
    thn (ho s2 σ H2 x y v u _ I2 r1 r2 q2) fun c s3 ⟨z, H3, I3, r3, k, e, q3⟩ => ?_) hm
  subst e
  cases r3
  exact wpAny_truthy_bool ⟨H3, I3, q3⟩
/-- a op1 b op2 c -/
def tChain (r r' : R2) (ta tb tc : TE) : TE := fun σ H Q => ta σ H fun x H1 => tb σ H1 fun y H2 => r x y H2 fun z H3 => ∃ k, z = .bl k ∧
  (if k = true then tc σ H3 fun w' H4 => r' y w' H4 Q else Q (.bl false) H3)
theorem pe_chain {op op' : CmpOp} {r r' : R2} (ho : OpR X (compareOp op) r) (ho' : OpR X (compareOp op') r') (ha : PE X a ta) (hb : PE X b tb) (hc : PE X c tc)
    (hm : lastMarks [op, op'] [b, c] = false := by with_unfolding_all rfl) : PE X (.Compare a [op, op'] [b, c] pos) (tChain r r' ta tb tc) := by
  intro pins s σ H Q I h
  refine Compare_chain (thn (ha s σ H _ I h) fun v s1 ⟨x, H1, I1, r1, q1⟩ => chain_link (thn (hb s1 σ H1 _ I1 q1) fun u s2 ⟨y, H2, I2, r2, q2⟩ =>
    thn (ho s2 σ H2 x y v u _ I2 r1 r2 q2) fun d s3 ⟨z, H3, I3, r3, k, e, q3⟩ => ?_)) hm
  subst e
  cases r3
  refine wpAny_truthy_bool ?_
  cases k with
  | false => exact ite_ff ⟨.bl false, H3, I3, rfl, q3⟩
  | true => exact ite_tt (chain_last (thn (hc s3 σ H3 _ I3 q3) fun w' s4 ⟨z', H4, I4, r4, q4⟩ => ho' s4 σ H4 y z' u w' Q I4 r2 r4 q4))
theorem pt_chain {op op' : CmpOp} {r r' : R2} (ho : OpR X (compareOp op) r) (ho' : OpR X (compareOp op') r') (ha : PE X a ta) (hb : PE X b tb) (hc : PE X c tc)
    (hm : lastMarks [op, op'] [b, c] = false := by with_unfolding_all rfl) : PT X (.Compare a [op, op'] [b, c] pos) (tTest (tChain r r' ta tb tc)) := by
  intro pins s σ H Q I h
  refine isTrue_chain (thn (ha s σ H _ I h) fun v s1 ⟨x, H1, I1, r1, q1⟩ => test_link (thn (hb s1 σ H1 _ I1 q1) fun u s2 ⟨y, H2, I2, r2, q2⟩ =>
    thn (ho s2 σ H2 x y v u _ I2 r1 r2 q2) fun d s3 ⟨z, H3, I3, r3, k, e, q3⟩ => ?_)) hm
  subst e
  cases r3
  refine wpAny_truthy_bool ?_
  cases k with
  | false =>
    obtain ⟨k', e', q'⟩ := q3
    cases e'
    exact ite_ff ⟨H3, I3, q'⟩
  | true =>
    refine ite_tt (test_last (thn (hc s3 σ H3 _ I3 q3) fun w' s4 ⟨z', H4, I4, r4, q4⟩ => thn (ho' s4 σ H4 y z' u w' _ I4 r2 r4 q4) fun d' s5 ⟨z2, H5, I5, r5, k2, e2, q5⟩ => ?_))
    subst e2
    cases r5
    exact wpAny_truthy_bool ⟨H5, I5, q5⟩
theorem line63 : (sizeLine : Nat) < 2 ^ 63 := by rw [sizeLine_eq]; decide
theorem op_add_str : OpR X (binaryOp .Add) (fun x y H Q => ∃ i j, x = .str i ∧ y = .str j ∧ i.length + j.length ≤ sizeLine ∧ Q (.str (i ++ j)) H) := by
  intro pins s σ H x y v u Q I rx ry h
  obtain ⟨i, j, rfl, rfl, hz, q⟩ := h
  obtain ⟨t, rfl⟩ := rx
  obtain ⟨t', rfl⟩ := ry
  exact add_str (fun t' tk => ⟨.str (i ++ j), H, I.tok _, ⟨_, rfl⟩, q⟩) hz
theorem vals1 {x : V} {us : List Value} (r : Vals [x] us) : ∃ u, us = [u] ∧ RelV x u := by
  cases r with
  | cons r1 r2 => cases r2; exact ⟨_, rfl, r1⟩
theorem vals2 {x y : V} {us : List Value} (r : Vals [x, y] us) : ∃ u w', us = [u, w'] ∧ RelV x u ∧ RelV y w' := by
  cases r with
  | cons r1 r2 =>
    cases r2 with
    | cons r3 r4 => cases r4; exact ⟨_, _, rfl, r1, r3⟩
theorem call_max2 (hc : X.calm = true) : CallR X (.builtin "max") (fun xs H Q => ∃ i j, xs = [.int i, .int j] ∧ Q (.int (if j > i then j else i)) H) := by
  intro pins s σ H xs us Q I r h
  obtain ⟨i, j, rfl, q⟩ := h
  obtain ⟨u, w', rfl, ⟨t, rfl⟩, ⟨t', rfl⟩⟩ := vals2 r
  refine max_two_ints (I.ok.hd hc) fun h' tk k => ⟨_, H, I.kept k, ?_, q⟩
  by_cases hj : j > i
  · rw [if_pos hj, if_pos hj]; exact ⟨_, rfl⟩
  · rw [if_neg hj, if_neg hj]; exact ⟨_, rfl⟩
theorem call_min2 (hc : X.calm = true) : CallR X (.builtin "min") (fun xs H Q => ∃ i j, xs = [.int i, .int j] ∧ Q (.int (if j < i then j else i)) H) := by
  intro pins s σ H xs us Q I r h
  obtain ⟨i, j, rfl, q⟩ := h
  obtain ⟨u, w', rfl, ⟨t, rfl⟩, ⟨t', rfl⟩⟩ := vals2 r
  refine min_two_ints (I.ok.hd hc) fun h' tk k => ⟨_, H, I.kept k, ?_, q⟩
  by_cases hj : j < i
  · rw [if_pos hj, if_pos hj]; exact ⟨_, rfl⟩
  · rw [if_neg hj, if_neg hj]; exact ⟨_, rfl⟩
theorem call_int1 : CallR X (.type "int") (fun xs H Q => (∃ i, xs = [.int i] ∧ Q (.int i) H) ∨ ∃ k, xs = [.bl k] ∧ Q (.int (if k then 1 else 0)) H) := by
  intro pins s σ H xs us Q I r h
  rcases h with ⟨i, rfl, q⟩ | ⟨k, rfl, q⟩
  · obtain ⟨u, rfl, t, rfl⟩ := vals1 r
    exact call_int_int ⟨.int i, H, I, ⟨_, rfl⟩, q⟩
  · obtain ⟨u, rfl, r1⟩ := vals1 r
    cases r1
    exact call_int_bool ⟨.int (if k then 1 else 0), H, I.tok _, ⟨_, rfl⟩, q⟩
theorem call_str_int : CallR X (.type "str") (fun xs H Q => ∃ i, xs = [.int i] ∧ i.natAbs.log2 < 1920 ∧ Q (.str (toString i)) H) := by
  intro pins s σ H xs us Q I r h
  obtain ⟨i, rfl, hz, q⟩ := h
  obtain ⟨u, rfl, t, rfl⟩ := vals1 r
  exact PySem.P.str_of_int hz ⟨.str _, H, I.tok _, ⟨_, rfl⟩, q⟩
end
end L2
namespace L2
open PySem PySem.Spec PyProof.Rows
structure ObjM (h : Heap) (x dx C : Addr) (mA : Str → Option Value) : Prop where
  obj : h.get? x = some (PySem.W.instObj C dx)
  ns : h.Ns1 dx mA
  ne : dx ≠ x
theorem lookIn_ns {h : Heap} {dx : Addr} {mA : Str → Option Value} (n : h.Ns1 dx mA) : ∃ od, h.get? dx = some od ∧ ∀ name, PySem.W.lookIn name od = some (mA name) := by
  obtain ⟨o, es, ep, ho, hd, hk, _, hm⟩ := n
  refine ⟨o, ho, fun name => ?_⟩
  have e := hm name
  unfold nsFind findBy at e
  rw [← Array.find?_toList] at e
  unfold PySem.W.lookIn
  rw [hd]
  dsimp only
  split
  · rename_i y q
    rw [q] at e
    exact congrArg some e
  · rename_i q
    rw [q] at e
    have a : es.toList.any (·.refKey) = false := by
      rw [List.any_eq_false]
      intro y hy
      obtain ⟨z, t, hkey⟩ := hk y (Array.mem_toList_iff.mp hy)
      simp [DictEntry.refKey, hkey]
    have a' : ¬ es.toList.any (·.refKey) = true := by rw [a]; exact Bool.false_ne_true
    rw [if_neg a']
    exact congrArg some e
theorem ObjM.look {h : Heap} {x dx C : Addr} {mA : Str → Option Value} (I : ObjM h x dx C mA) : ∃ od, PySem.W.InstAt h x (PySem.W.instObj C dx) C (some od) ∧ ∀ name, PySem.W.lookIn name od = some (mA name) :=
  let ⟨od, ho, hl⟩ := lookIn_ns I.ns
  ⟨od, ⟨I.obj, rfl, rfl, ho⟩, hl⟩
section
variable {prog : Program} {w : World} {A : Around} {E : Value → Shared → Prop} {s : Shared} {K : PySem.W.Frag} {x dx C f : Addr} {mA : Str → Option Value} {name : Str} {v : Value}
end
theorem RelO.some_of {v : V} {o : Option Value} (r : RelO (some v) o) : ∃ u, o = some u ∧ RelV v u := by
  cases o with
  | none => exact (show False from r).elim
  | some u => exact ⟨u, rfl, r⟩
theorem RelO.none_of {o : Option Value} (r : RelO none o) : o = none := by
  cases o with
  | none => rfl
  | some u => exact (show False from r).elim
theorem handed_of {v : V} {u : Value} (r : RelV v u) : PySem.W.handedIn u = true := by
  cases v with
  | non => cases (show u = Value.none from r); rfl
  | bl b => cases (show u = Value.bool b from r); rfl
  | int i => obtain ⟨t, e⟩ := (show ∃ t, u = Value.int i t from r); cases e; rfl
  | str x => obtain ⟨t, e⟩ := (show ∃ t, u = Value.str x t from r); cases e; rfl
  | byt b => obtain ⟨t, e⟩ := (show ∃ t, u = Value.bytes b t from r); cases e; rfl
  | flt b => obtain ⟨t, e⟩ := (show ∃ t, u = Value.float b t from r); cases e; rfl
  | ref a => cases (show u = Value.ref a from r); rfl
  | ty n => cases (show u = Value.type n from r); rfl
section
variable {P : Program} {w : World} {H H' : Hp} {h h' : Heap} {a C dx : Addr} {fs fs' : List (Str × V)}
theorem ins_get (hok : HOk P w H h) (e : H a = some (.ins C dx fs)) : ∃ mA, ObjM h a dx C mA ∧ (∀ f, RelO (fs.lookup f) (mA f)) ∧ PySem.Within mA (fs.map (·.1)) ∧ fs.length ≤ 1000 ∧ H dx = some (.own a) := by
  obtain ⟨d, z, ne, ob, mA, n, r, q⟩ := (show ObjOk P w H h a (.ins C dx fs) from hok a _ e)
  exact ⟨mA, ⟨ob, n, ne⟩, r, q, z, d⟩
end
structure Cls (K : PySem.W.Frag) (C : Addr) : Prop where
  pg : PySem.W.plainGet K C Str.empty = true
  hd : PySem.W.hasDictIn K C = true
  po : PySem.W.plainOver K C = true
  sa : PySem.W.findIn K (.ref C) "__setattr__" = some (some (.builtin "object.__setattr__"))
theorem Cls.get {K : PySem.W.Frag} {C : Addr} (c : Cls K C) (f : Str) : PySem.W.plainGet K C f = true := c.pg
/-- a constant of the class -/
structure Con (K : PySem.W.Frag) (C : Addr) (f : Str) (v : V) (u : Value) : Prop where
  at_ : PySem.W.findIn K (.ref C) f = some (some u)
  rel : RelV v u
  get : PySem.W.specialIn K u "__get__" = some none
  cp : PySem.W.copiedNames.contains f = false
/-- a method: a plain def of the class or of one above it -/
structure Meth (K : PySem.W.Frag) (C : Addr) (m : Str) (f : Addr) : Prop where
  at_ : PySem.W.findIn K (.ref C) m = some (some (.ref f))
  fn : PySem.W.isFn K (.ref f) = true
  kp : PySem.W.keepIn K (.ref f) = true
section
variable {X : Cx} {pins : List (Addr × Obj)} {σ : St} {H : Hp} {s : Shared} {a C dx : Addr} {fs : List (Str × V)} {f : Str} {v : V} {A : Around} {E : Value → Shared → Prop}
/-- a new instance, tracked, without attributes -/
theorem Inv.made (I : Inv X pins σ H s) : Inv X pins σ (upd (upd H s.heap.objs.size (.own (s.heap.objs.size + 1))) (s.heap.objs.size + 1) (.ins C s.heap.objs.size []))
    { s with heap := (s.heap.push PySem.W.emptyDict).push (PySem.W.instObj C s.heap.objs.size) } := by
  have e1 : (s.heap.push PySem.W.emptyDict).get? s.heap.objs.size = some PySem.W.emptyDict := Heap.get?_push_size s.heap rfl
  have e2 : ((s.heap.push PySem.W.emptyDict).push (PySem.W.instObj C s.heap.objs.size)).get? (s.heap.objs.size + 1) = some (PySem.W.instObj C s.heap.objs.size) := by
    have := Heap.get?_push_size (s.heap.push PySem.W.emptyDict) (o := PySem.W.instObj C s.heap.objs.size) rfl
    rwa [Heap.size_push] at this
  have e3 : (s.heap.push PySem.W.emptyDict).Ns s.heap.objs.size (fun _ => none) := ⟨PySem.W.emptyDict, #[], _, e1, rfl, (fun e he => absurd he (by simp)), fun _ => rfl⟩
  have I1 := I.laid (a := s.heap.objs.size) (o := .own (s.heap.objs.size + 1)) (h' := s.heap.push PySem.W.emptyDict) (t' := s.toks) (fun b u q => Heap.get?_push_of_some _ q) (Nat.le_refl _) ⟨_, e1⟩
  refine I1.laid (a := s.heap.objs.size + 1) (o := .ins C s.heap.objs.size []) (t' := s.toks) (fun b u q => Heap.get?_push_of_some _ q) (Nat.le_of_eq (Heap.size_push _ _)) ?_
  have ne : s.heap.objs.size ≠ s.heap.objs.size + 1 := Nat.ne_of_lt (Nat.lt_succ_self _)
  refine ⟨by rw [upd_ne ne, upd_same], Nat.zero_le _, ne, e2, fun _ => none, (Heap.Ns1.of_empty e3).at fun o q => Heap.get?_push_of_some _ q, fun _ => True.intro, fun y hy => absurd rfl hy⟩
/-- e.f where nothing but the object is asked: through attributeBase (super) and the last hold -/
theorem attr_of {prog : Program} {w : World} {env : Env} {e : Expr} {f : Str} {pos : Pos} {s : Shared} {Q : Value → Shared → Prop} (hb : attributeBase e f env (eval e env) = eval e env)
    (h : wpAny (model prog w) A (eval e env) (fun o s₁ => wpAny (model prog w) A (getAttr o f true) Q E s₁) E s) : wpAny (model prog w) A (eval (.Attribute e f pos) env) Q E s :=
  Attribute_any_ h (by rw [arm_eval_Attribute, hb])
end
section
variable {X : Cx} {o e value : Expr} {f : Str} {pos pos' tpos : Pos} {ta tv : TE}
end
section
variable {X : Cx} {pins : List (Addr × Obj)} {σ : St} {H : Hp} {s : Shared} {A : Around} {E : Value → Shared → Prop} {Q : Value → Shared → Prop} {c : Value} {b : Bool}
/-- the type of a value, as the fragment's deciders take it; for an instance its class -/
inductive TyOf (K : PySem.W.Frag) (H : Hp) : V → Value → Prop where
  | non : TyOf K H .non (.type "NoneType")
  | bl (x : Bool) : TyOf K H (.bl x) (.type "bool")
  | int (i : Int) : TyOf K H (.int i) (.type "int")
  | str (x : Str) : TyOf K H (.str x) (.type "str")
  | flt (x : UInt64) : TyOf K H (.flt x) (.type "float")
  | lst {a : Addr} {xs : List V} (e : H a = some (.lst xs)) : TyOf K H (.ref a) (.type "list")
  | frz {a : Addr} {o : Obj} {xs : List V} (e : H a = some (.frz o (.lst xs))) : TyOf K H (.ref a) (.type "list")
  | tup {a : Addr} {xs : List V} (e : H a = some (.tup xs)) : TyOf K H (.ref a) (.type "tuple")
  | dK {a : Addr} {kvs : List (Key × V)} (e : H a = some (.dK kvs)) : TyOf K H (.ref a) (.type "dict")
  | dT {a : Addr} {kvs : List (List Key × V)} (e : H a = some (.dT kvs)) : TyOf K H (.ref a) (.type "dict")
  | ins {a C dx : Addr} {fs : List (Str × V)} (e : H a = some (.ins C dx fs)) (cl : Cls K C) (ha : PySem.W.findIn K (.ref C) "__class__" = some (some (.builtin "object.__class__")))
      (hn : PySem.W.specialIn K (.builtin "object.__class__") "__get__" = some (some (.builtin "getset_descriptor.__get__"))) (htk : PySem.W.takesIn K (.builtin "object.__class__") = some true)
      (hm : PySem.W.mroIn K C (.type "object") = some true) : TyOf K H (.ref a) (.ref C)
/-- isinstance(x, c) for one class c, a built-in or an own one: kitOne's answer -/
theorem isinst_ok {x : V} {u t : Value} (I : Inv X pins σ H s) (rx : RelV x u) (ty : TyOf X.K H x t) (e : PySem.W.kitOne X.K t c = some b) (h : ∀ tk, Q (.bool b) { s with toks := tk }) :
    wpAny (model X.prog X.w) A (call (.builtin "isinstance") [u, c]) Q E s := by
  cases ty with
  | non => cases (show u = Value.none from rx); exact PySem.W.kia_one PySem.W.kitx_none I.kIn True.intro e (fun z => nomatch z) h
  | bl y => cases (show u = Value.bool y from rx); exact PySem.W.kia_one PySem.W.kitx_bool I.kIn True.intro e (fun z => nomatch z) h
  | int i => obtain ⟨t, q⟩ := (show ∃ t, u = Value.int i t from rx); cases q; exact PySem.W.kia_one PySem.W.kitx_int I.kIn True.intro e (fun z => nomatch z) h
  | str y => obtain ⟨t, q⟩ := (show ∃ t, u = Value.str y t from rx); cases q; exact PySem.W.kia_one PySem.W.kitx_str I.kIn True.intro e (fun z => nomatch z) h
  | flt y => obtain ⟨t, q⟩ := (show ∃ t, u = Value.float y t from rx); cases q; exact PySem.W.kia_one PySem.W.kitx_float I.kIn True.intro e (fun z => nomatch z) h
  | @lst a xs ea =>
    cases (show u = Value.ref a from rx)
    obtain ⟨_, _, n, _, h1⟩ := (show ObjOk X.prog X.w H s.heap a (.lst xs) from I.hok a _ ea)
    exact PySem.W.kia_one PySem.W.kitx_list I.kIn ⟨_, h1, rfl⟩ e (fun z => nomatch z) h
  | @frz a ob xs ea =>
    cases (show u = Value.ref a from rx)
    obtain ⟨_, _, _, n, _, h1⟩ := (show ObjOk X.prog X.w H s.heap a (.frz ob (.lst xs)) from I.hok a _ ea)
    exact PySem.W.kia_one PySem.W.kitx_list I.kIn ⟨_, h1, rfl⟩ e (fun z => nomatch z) h
  | @tup a xs ea =>
    cases (show u = Value.ref a from rx)
    obtain ⟨_, _, _, p⟩ := (show ObjOk X.prog X.w H s.heap a (.tup xs) from I.hok a _ ea)
    obtain ⟨o, h1, h2, _⟩ := p
    exact PySem.W.kia_one PySem.W.kitx_tuple I.kIn ⟨o, h1, h2⟩ e (fun z => nomatch z) h
  | @dK a kvs ea =>
    cases (show u = Value.ref a from rx)
    obtain ⟨_, _, vs, _, p⟩ := (show ObjOk X.prog X.w H s.heap a (.dK kvs) from I.hok a _ ea)
    obtain ⟨o, es, ep, h1, h2, _⟩ := p
    exact PySem.W.kia_one PySem.W.kitx_dict I.kIn ⟨o, h1, h2.1⟩ e (fun z => nomatch z) h
  | @dT a kvs ea =>
    cases (show u = Value.ref a from rx)
    obtain ⟨_, _, xs, _, o, es, ep, h1, h2, _⟩ := (show ObjOk X.prog X.w H s.heap a (.dT kvs) from I.hok a _ ea)
    exact PySem.W.kia_one PySem.W.kitx_dict I.kIn ⟨o, h1, h2.1⟩ e (fun z => nomatch z) h
  | @ins a C dx fs ea cl ha hn htk hm =>
    cases (show u = Value.ref a from rx)
    obtain ⟨mA, O, _⟩ := ins_get I.hok ea
    obtain ⟨od, J, _⟩ := O.look
    exact PySem.W.kia_one (PySem.W.kitx_own (cl.get _) cl.hd ha hn htk hm) I.kIn J e (fun z => nomatch z) h
end
end L2
namespace L2
open PySem PySem.Spec PyProof.Rows
structure Room (k : Nat) (A : Around) : Prop where
  hd : A.handled = none
  dp : A.depth + 3 * k + 5 < recursionLimit
  un : A.units + 16 * k + 200 < cLine
theorem Room.mono {j k : Nat} {A : Around} (r : Room k A) (h : j ≤ k) : Room j A := ⟨r.hd, by have := r.dp; omega, by have := r.un; omega⟩
theorem Room.deeper {k : Nat} {A : Around} (r : Room (k + 1) A) (env : Env) : Room k (A.deeper env) :=
  ⟨r.hd, by have := r.dp; show A.depth + 1 + 3 * k + 5 < _; omega, by have := r.un; show A.units + 3 + 16 * k + 200 < _; omega⟩
theorem Room.in1 {k : Nat} {A : Around} (r : Room (k + 1) A) : Room k A.in1 :=
  ⟨r.hd, by have := r.dp; show A.depth + 3 * k + 5 < _; omega, by have := r.un; show A.units + 1 + 16 * k + 200 < _; omega⟩
theorem make_depth {A : Around} {C : Addr} {us : List Value} {kw : List (Str × Value)} : (A.under (.builtin "type.__call__" ⟨.ref C :: us, kw⟩)).depth = A.depth + 1 := by
  first | rfl | simp [Around.under, Code.weight, Code.isCreation, Code.isGuard, Code.isCaller, Code.frames, Code.isFrame, guardIds]
theorem make_units {A : Around} {C : Addr} {us : List Value} {kw : List (Str × Value)} : (A.under (.builtin "type.__call__" ⟨.ref C :: us, kw⟩)).units = A.units + 1 := by
  first | rfl | simp [Around.under, Code.cUnits, Code.frames, Code.isFrame]
theorem Room.make {k : Nat} {A : Around} (r : Room (k + 1) A) (C : Addr) (us : List Value) (kw : List (Str × Value)) : Room k (A.under (.builtin "type.__call__" ⟨.ref C :: us, kw⟩)) :=
  ⟨r.hd, by have := r.dp; rw [make_depth]; omega, by have := r.un; rw [make_units]; omega⟩
theorem Room.depth {k : Nat} {A : Around} (r : Room k A) : A.depth < recursionLimit := by have := r.dp; omega
theorem Room.units {k : Nat} {A : Around} (r : Room k A) : A.units + 64 < cLine := by have := r.un; omega
def tNil : TA := fun _ H Q => Q [] H
def tCons (ta : TE) (tr : TA) : TA := fun σ H Q => ta σ H fun x H1 => tr σ H1 fun xs H2 => Q (x :: xs) H2
section
variable {X : Cx} {e : Expr} {es : List Expr} {te : TE} {t : TA} {pos : Pos}
theorem pa_nil : PA X [] tNil := fun _ _ _ _ H Q I h => Calls.spliced_nil ⟨[], H, I, .nil, h⟩
theorem pa_cons (ha : PE X e te) (hr : PA X es t) (hs : starEach (e :: es) X.env = (false, eval e X.env) :: starEach es X.env := by rfl) : PA X (e :: es) (tCons te t) := by
  intro pins pos s σ H Q I h
  rw [hs]
  show wpAny _ _ (spliced ((false, eval e X.env) :: backTo pos (starEach es X.env))) _ _ s
  refine Calls.spliced_cons (thn (ha s σ H _ I h) fun u s1 ⟨x, H1, I1, r1, q1⟩ => ?_)
  exact thn (hr pos s1 σ H1 _ I1 q1) fun us s2 ⟨xs, H2, I2, r2, q2⟩ => ⟨x :: xs, H2, I2, .cons r1 r2, q2⟩
/-- a tuple, a list of written items -/
def tTup (t : TA) : TE := fun σ H Q => t σ H fun xs H1 => xs.length ≤ sizeLine ∧ ∀ p, H1 p = none → Q (.ref p) (upd H1 p (.tup xs))
def tLst (t : TA) : TE := fun σ H Q => t σ H fun xs H1 => xs.length ≤ sizeLine ∧ ∀ p, H1 p = none → Q (.ref p) (upd H1 p (.lst xs))
theorem pe_tup {x1} (h : PA X es t) : PE X (.Tuple es x1 pos) (tTup t) := by
  intro pins s σ H Q I hq
  refine wpAny_Tuple_spliced (thn (h pos s σ H _ I hq) fun us s1 ⟨xs, H1, I1, r, z, q⟩ => ⟨by rw [← r.length]; exact z, ?_⟩)
  have hf : H1 s1.heap.objs.size = none := I1.hok.fresh (Nat.le_refl _)
  refine ⟨.ref s1.heap.objs.size, upd H1 s1.heap.objs.size (.tup xs), I1.laid (t' := s1.toks) (fun b u e => Heap.get?_push_of_some _ e) (Nat.le_refl _) ?_, rfl, q _ hf⟩
  exact ⟨z, us, r, ⟨_, Heap.get?_push_size _ rfl, rfl, ⟨_, rfl⟩, rfl⟩⟩
theorem pe_lst (h : PA X es t) : PE X (.List es pos) (tLst t) := by
  intro pins s σ H Q I hq
  refine wpAny_List_spliced (thn (h pos s σ H _ I hq) fun us s1 ⟨xs, H1, I1, r, z, q⟩ => ⟨by rw [← r.length]; exact z, ?_⟩)
  have hf : H1 s1.heap.objs.size = none := I1.hok.fresh (Nat.le_refl _)
  refine ⟨.ref s1.heap.objs.size, upd H1 s1.heap.objs.size (.lst xs), I1.laid (t' := s1.toks) (fun b u e => Heap.get?_push_of_some _ e) (Nat.le_refl _) ?_, rfl, q _ hf⟩
  exact ⟨z, us, 0, r, Heap.get?_push_size _ rfl⟩
end
/-- a def's promise: the bound arguments in the parameters' order, the heap, the wanted end, the wanted exception -/
abbrev Sp := List V → Hp → VK → XK → Prop
/-- how an exception lies behind a call (file 08 gives it): the callers' frames, abstract heap and state ahead of the call, the wish, the exception, the state -/
abbrev CXT := List Env → Hp → Shared → XK → Value → Shared → Prop
/-- the state at a call -/
structure Env0 (P : Program) (w : World) (K : PySem.W.Frag) (mg : Str → Option Value) (base : Heap) (A : Around) (outer : List Env) (s : Shared) (H : Hp) : Prop where
  frames : A.frames = some outer
  mod : Mod K mg base
  bs : ∀ b o, base.get? b = some o → s.heap.get? b = some o ∧ H b = none
  bsz : base.objs.size ≤ s.heap.objs.size
  funs : s.heap.FunFrames base outer
  frf : ∀ b ∈ frs outer, H b = none
  hok : HOk P w H s.heap
  bare : AllBare s.gens
/-- a call's end -/
def CE (outer : List Env) (P : Program) (w : World) (H : Hp) (s : Shared) (Q : VK) (u : Value) (s' : Shared) : Prop :=
  ∃ v H', s'.os = s.os ∧ GB s.gens.size s'.gens ∧ Un (frs outer) [] H H' s.heap s'.heap ∧ HOk P w H' s'.heap ∧ RelV v u ∧ Q v H'
def CR (CX : CXT) (outer : List Env) (P : Program) (w : World) (H : Hp) (s : Shared) (Q : VK) (E : XK) (r : Result) (s' : Shared) : Prop :=
  match r with
  | .ok (.ret u) => CE outer P w H s Q u s'
  | .ok _ => False
  | .error e => CX outer H s E e s'
structure FnOk (P : Program) (w : World) (K : PySem.W.Frag) (mg : Str → Option Value) (base : Heap) (CX : CXT) (k : Nat) (f : Addr) (fd : FuncData) (ps : List Str) (sp : Sp) : Prop where
  len : ∀ vs H Q E, sp vs H Q E → vs.length = ps.length
  run : ∀ (A : Around) (outer : List Env) (s : Shared) (H : Hp) (args : Args) (us : List Value) (vs : List V) (Q : VK) (E : XK), Room k A → Env0 P w K mg base A outer s H → BindsTo s fd args (ps.zip us) → Vals vs us → sp vs H Q E →
    codeAny (model P w) A (.call (.ref f) args) (CR CX outer P w H s Q E) s
theorem FnOk.mono {P : Program} {w : World} {K : PySem.W.Frag} {mg : Str → Option Value} {base : Heap} {CX : CXT} {j k : Nat} {f : Addr} {fd : FuncData} {ps : List Str} {sp : Sp} (F : FnOk P w K mg base CX j f fd ps sp) (h : j ≤ k) :
    FnOk P w K mg base CX k f fd ps sp := ⟨F.len, fun A outer s H args us vs Q E hr => F.run A outer s H args us vs Q E (hr.mono h)⟩
/-- a weaker promise -/
theorem FnOk.imp {P : Program} {w : World} {K : PySem.W.Frag} {mg : Str → Option Value} {base : Heap} {CX : CXT} {k : Nat} {f : Addr} {fd : FuncData} {ps : List Str} {sp sp' : Sp} (F : FnOk P w K mg base CX k f fd ps sp)
    (h : ∀ vs H Q E, sp' vs H Q E → sp vs H Q E) : FnOk P w K mg base CX k f fd ps sp' :=
  ⟨fun vs H Q E q => F.len vs H Q E (h _ _ _ _ q), fun A outer s H args us vs Q E hr he hb hv hs => F.run A outer s H args us vs Q E hr he hb hv (h _ _ _ _ hs)⟩
theorem Env0.make {P : Program} {w : World} {K : PySem.W.Frag} {mg : Str → Option Value} {base : Heap} {A : Around} {outer : List Env} {s : Shared} {H : Hp} (e : Env0 P w K mg base A outer s H) (C : Addr) (us : List Value) (kw : List (Str × Value)) :
    Env0 P w K mg base (A.under (.builtin "type.__call__" ⟨.ref C :: us, kw⟩)) outer s H := ⟨by first | exact e.frames | (simpa [Around.under, Code.envs, Code.isFrame, pushEnvs] using e.frames), e.mod, e.bs, e.bsz, e.funs, e.frf, e.hok, e.bare⟩
theorem Env0.in1 {P : Program} {w : World} {K : PySem.W.Frag} {mg : Str → Option Value} {base : Heap} {A : Around} {outer : List Env} {s : Shared} {H : Hp} (e : Env0 P w K mg base A outer s H) :
    Env0 P w K mg base A.in1 outer s H := ⟨e.frames, e.mod, e.bs, e.bsz, e.funs, e.frf, e.hok, e.bare⟩
section
variable {X : Cx} {pins : List (Addr × Obj)} {σ : St} {H : Hp} {s s' : Shared}
/-- from a body: what a callee wants -/
theorem Inv.env0 (I : Inv X pins σ H s) : Env0 X.prog X.w X.K X.mg X.base X.A X.stack s H :=
  ⟨I.ok.frames, I.ok.mod, I.bs, Nat.le_trans I.ok.bsz I.sz, I.stack, I.stkFree, I.hok, I.bare.all⟩
/-- behind a call -/
theorem Inv.after {Q : VK} {u : Value} (I : Inv X pins σ H s) (h : CE X.stack X.prog X.w H s Q u s') : EP X pins σ Q u s' := by
  obtain ⟨v, H', os, bare, un, hok, r, q⟩ := h
  obtain ⟨hh, g, d, t, os'⟩ := s'
  obtain rfl : os' = s.os := os
  exact ⟨v, H', I.call (h' := hh) (g' := g) (d' := d) (t' := t) (ch := []) un hok bare (fun b z => absurd z (by simp)), r, q⟩
end
/-- f(..): the written arguments, then the defaults dvs; E: what is wanted of an exception -/
def tCall (sp : Sp) (dvs : List V) (E : XK) (t : TA) : TE := fun σ H Q => t σ H fun vs H1 => sp (vs ++ dvs) H1 Q E
/-- how the parameters are bound: us the positional arguments, kw the keywords' values by name, ds the defaults that fill up -/
def Binds (K : PySem.W.Frag) (fd : FuncData) (ps : List Str) (ds : List Value) : Prop :=
  ∀ (s : Shared) (us : List Value), K.In s.heap → (us ++ ds).length = ps.length → BindsTo s fd ⟨us, []⟩ (ps.zip (us ++ ds))
/-- every parameter is given -/
theorem Binds.all {K : PySem.W.Frag} {fd : FuncData} {ps : List Str} (h : ∀ us : List Value, us.length = ps.length → bindArgs fd ⟨us, []⟩ = pure (ps.zip us)) : Binds K fd ps [] := fun s us _ hl => by
  rw [List.append_nil] at hl ⊢
  exact .of_eq (h us hl)
/-- an exception of a callee reaches what this body wants of exceptions -/
def Passes (CX : CXT) (X : Cx) (E : XK) : Prop := ∀ (pins : List (Addr × Obj)) (σ : St) (H : Hp) (s : Shared) (e : Value) (s' : Shared), Inv X pins σ H s → CX X.stack H s E e s' → X.xe e s'
section
variable {X : Cx} {CX : CXT} {k : Nat} {f C : Addr} {fd : FuncData} {ps : List Str} {sp : Sp} {dvs : List V} {ds : List Value} {E : XK} {x m : Str} {p pos apos : Pos} {e o : Expr} {es : List Expr} {ta : TE} {t : TA}
/-- the callee runs -/
theorem run_fn {pins : List (Addr × Obj)} {σ : St} {H : Hp} {s : Shared} {Q : VK} {us : List Value} {vs : List V} (F : FnOk X.prog X.w X.K X.mg X.base CX k f fd ps sp) (hr : Room k X.A) (hb : Binds X.K fd ps ds) (hd : Vals dvs ds) (hx : Passes CX X E)
    (I : Inv X pins σ H s) (r : Vals vs us) (h : sp (vs ++ dvs) H Q E) : wpAny (model X.prog X.w) X.A (call (.ref f) us) (EP X pins σ Q) X.xe s := by
  have r2 : Vals (vs ++ dvs) (us ++ ds) := r.append hd
  have hl : (us ++ ds).length = ps.length := by rw [← r2.length]; exact F.len _ _ _ _ h
  refine wpAny_call (codeAny_mono (F.run X.A X.stack s H ⟨us, []⟩ (us ++ ds) (vs ++ dvs) Q E hr I.env0 (hb s us I.kIn hl) r2 h) fun r s' hq => ?_)
  cases r with
  | error e => exact hx pins σ H s e s' I hq
  | ok fl =>
    cases fl with
    | ret u => exact I.after hq
    | next => exact False.elim hq
    | brk => exact False.elim hq
    | cont => exact False.elim hq
theorem pe_call (F : FnOk X.prog X.w X.K X.mg X.base CX k f fd ps sp) (hr : Room k X.A) (hg : Gl X x) (hm : X.mg x = some (.ref f)) (hk : PySem.W.keepIn X.K (.ref f) = true) (hb : Binds X.K fd ps ds) (hd : Vals dvs ds) (hx : Passes CX X E)
    (ha : PA X (e :: es) t) (hdb : (x == ("__debug__" : Str)) = false := by decide) (he : starEach (e :: es) X.env = (false, eval e X.env) :: starEach es X.env := by rfl) (hpl : (backTo pos (starEach es X.env)).any (·.1) = false := by rfl) :
    PE X (.Call (.Name x p) (e :: es) [] pos) (tCall sp dvs E t) := by
  intro pins s σ H Q I h
  refine wpAny_Call_Name_kw (ld_glob I hg hm ?_ hdb)
  refine PySem.W.callWith_K (h₀ := X.base) I.ok.mod.kin hk (thn (ha pos s σ H _ I h) fun us s1 ⟨vs, H1, I1, r, q⟩ => ⟨I1.kIn, ?_⟩) he hpl
  exact run_fn F hr hb hd hx I1 r q
/-- what a class must have to be made -/
structure Mk (K : PySem.W.Frag) (C f : Addr) : Prop where
  makes : PySem.W.makesIn K C = true
  init : PySem.W.findIn K (.ref C) "__init__" = some (some (.ref f))
  fn : PySem.W.isFn K (.ref f) = true
  kp : PySem.W.keepIn K (.ref C) = true
end
section
variable {X : Cx} {CX : CXT} {k : Nat} {f C : Addr} {fd : FuncData} {ps ks : List Str} {sp : Sp} {E : XK} {x m : Str} {p pos apos kpos : Pos} {e o : Expr} {es : List Expr} {kws : List Keyword} {te ta : TE} {t tk : TA} {nm : Option Str}
/-- how a call with keywords binds: g puts the positional values us and the keywords' values ws (names ks) in the parameters' order, defaults among them -/
structure KBinds (K : PySem.W.Frag) (fd : FuncData) (ps ks : List Str) (g : List Value → List Value → List Value) (gV : List V → List V → List V) : Prop where
  to : ∀ (s : Shared) (us ws : List Value), K.In s.heap → (g us ws).length = ps.length → BindsTo s fd ⟨us, ks.zip ws⟩ (ps.zip (g us ws))
  rel : ∀ {vs : List V} {us : List Value} {zs : List V} {ws : List Value}, Vals vs us → Vals zs ws → Vals (gV vs zs) (g us ws)
variable {g : List Value → List Value → List Value} {gV : List V → List V → List V}
end
/-- names: the parameters first -/
structure FnScope (N P : List Str) (sc : Scope) : Prop where
  kind : sc.kind = .function
  co : sc.isCoroutine = false
  gen : sc.isGenerator = false
  nd : N.Nodup
  pre : N.take P.length = P
  par : ∀ x ∈ P, sc.names.lookup x = some .local ∨ sc.names.lookup x = some .cell
  nofree : ∀ y ∈ sc.names, y.2 ≠ .free
theorem bindL_out {kindOf : Str → Option NameKind} {x : Str} : ∀ {binds : List (Str × Value)} {m : Str → Option Value}, (∀ v, (x, v) ∉ binds) → bindL kindOf binds m x = m x
  | [], _, _ => rfl
  | (n, v) :: r, m, h => by
    unfold bindL
    rw [bindL_out fun w hw => h w (List.mem_cons_of_mem _ hw)]
    split
    · have : x ≠ n := by rintro rfl; exact h v List.mem_cons_self
      simp [this]
    · rfl
theorem bindC_out {kindOf : Str → Option NameKind} {x : Str} : ∀ {binds : List (Str × Value)} {m : Str → Option Value}, (∀ v, (x, v) ∉ binds) → bindC kindOf binds m x = m x
  | [], _, _ => rfl
  | (n, v) :: r, m, h => by
    unfold bindC
    rw [bindC_out fun w hw => h w (List.mem_cons_of_mem _ hw)]
    split
    · rfl
    · have : x ≠ n := by rintro rfl; exact h v List.mem_cons_self
      simp [this]
theorem bindL_get {kindOf : Str → Option NameKind} {x : Str} {v : Value} : ∀ {P : List Str} {vs : List Value} {i : Nat} {m : Str → Option Value}, P.Nodup → P[i]? = some x → vs[i]? = some v → kindOf x = some .local →
    bindL kindOf (P.zip vs) m x = some v
  | [], _, _, _, _, h, _, _ => by simp at h
  | _ :: _, [], _, _, _, _, h, _ => by simp at h
  | p :: P, w :: vs, 0, m, nd, h1, h2, hk => by
    simp at h1 h2; subst h1; subst h2
    show bindL kindOf ((p, w) :: P.zip vs) m p = _
    unfold bindL
    rw [bindL_out fun v hv => (List.nodup_cons.mp nd).1 (List.of_mem_zip hv).1, if_pos hk]
    simp
  | p :: P, w :: vs, i + 1, m, nd, h1, h2, hk => by
    show bindL kindOf ((p, w) :: P.zip vs) m x = _
    unfold bindL
    exact bindL_get (i := i) (List.nodup_cons.mp nd).2 (by simpa using h1) (by simpa using h2) hk
theorem bindC_get {kindOf : Str → Option NameKind} {x : Str} {v : Value} : ∀ {P : List Str} {vs : List Value} {i : Nat} {m : Str → Option Value}, P.Nodup → P[i]? = some x → vs[i]? = some v → kindOf x ≠ some .local →
    bindC kindOf (P.zip vs) m x = some v
  | [], _, _, _, _, h, _, _ => by simp at h
  | _ :: _, [], _, _, _, _, h, _ => by simp at h
  | p :: P, w :: vs, 0, m, nd, h1, h2, hk => by
    simp at h1 h2; subst h1; subst h2
    show bindC kindOf ((p, w) :: P.zip vs) m p = _
    unfold bindC
    rw [bindC_out fun v hv => (List.nodup_cons.mp nd).1 (List.of_mem_zip hv).1, if_neg hk]
    simp
  | p :: P, w :: vs, i + 1, m, nd, h1, h2, hk => by
    show bindC kindOf ((p, w) :: P.zip vs) m x = _
    unfold bindC
    exact bindC_get (i := i) (List.nodup_cons.mp nd).2 (by simpa using h1) (by simpa using h2) hk
/-- the names' values at the entry -/
def start (N : List Str) (vs : List V) : St := vs.map some ++ List.replicate (N.length - vs.length) none
/-- the context of a def's body, at its entry; an exception leaves the frame, then lies as CX says -/
def cxOf (CX : CXT) (P : Program) (w : World) (K : PySem.W.Frag) (mg : Str → Option Value) (base : Heap) (N : List Str) (qual : Str) (scope : Scope) (f : Addr) (cd : Value) (A : Around) (outer : List Env) (s : Shared) (H : Hp) (E : XK) : Cx where
  prog := P
  w := w
  K := K
  mg := mg
  base := base
  A := A.deeper (envOfC qual scope s.heap.objs.size f cd)
  N := N
  s_0 := s
  H_0 := H
  env := envOfC qual scope s.heap.objs.size f cd
  outer := outer
  stack := envOfC qual scope s.heap.objs.size f cd :: outer
  ex := []
  calm := true
  fn := fun _ => true
  pn := []
  xe := fun e s' => wpAny (model P w) (A.deeper (envOfC qual scope s.heap.objs.size f cd)) (leaving (envOfC qual scope s.heap.objs.size f cd) e) (fun _ s'' => CX outer H s E e s'') (fun e' s'' => CX outer H s E e' s'') s'
theorem cell_has {sc : Scope} {n : Nat} {x : Str} (h : sc.names.lookup x = some .cell) : ∃ c, (cellsFrom n sc.names []).lookup x = some c := by
  have q := PySem.W.cellsFrom_some sc.names n [] (.inl h)
  exact Option.isSome_iff_exists.mp q
theorem inv_start {CX : CXT} {P : Program} {w : World} {K : PySem.W.Frag} {mg : Str → Option Value} {base : Heap} {N ps : List Str} {qual : Str} {scope : Scope} {f : Addr} {cd : Value} {A : Around} {outer : List Env} {s s1 : Shared} {H : Hp} {E : XK} {us : List Value} {vs : List V}
    (S : FnScope N ps scope) (hd : A.handled = none) (e0 : Env0 P w K mg base A outer s H) (hl : vs.length = ps.length) (r : Vals vs us)
    (x : InCallC s s.heap.objs.size (bindL (envOfC qual scope s.heap.objs.size f cd).kindOf (ps.zip us) fun _ => none) (cellsFrom (s.heap.objs.size + 1) scope.names []) (bindC (envOfC qual scope s.heap.objs.size f cd).kindOf (ps.zip us) fun _ => none) s1) :
    Inv (cxOf CX P w K mg base N qual scope f cd A outer s H E) [] (start N vs) H s1 := by
  have hpl : ps.length ≤ N.length := by have := congrArg List.length S.pre; rw [List.length_take] at this; omega
  obtain ⟨h1, tk, rfl, hk⟩ := x.done
  have noA : ∀ b : Addr, b ∉ (cxOf CX P w K mg base N qual scope f cd A outer s H E).ex := fun b z => absurd (show b ∈ ([] : List Addr) from z) (by simp)
  refine ⟨⟨e0.mod, S.kind, rfl, rfl, Nat.le_refl _, fun y z c h1 h2 => ?_, fun y hy => ?_, fun y c _ h => ?_, fun _ => hd, Around.frames_deeper e0.frames, .inr ⟨rfl, rfl⟩, fun b z => absurd z (noA b), e0.bs, e0.bsz, fun b _ _ => noA b, fun b z => absurd z (noA b), e0.funs, e0.frf⟩,
    rfl, ⟨e0.bare, Nat.le_refl _⟩, Un.kept hk, ⟨_, x.toInCall.ns, fun i y v h1 h2 h3 => ?_⟩, fun y c h => ⟨_, x.cell y c h⟩, e0.hok.fresh (Nat.le_refl _), fun y c h => ?_, fun p hp => absurd (show p ∈ ([] : List (Addr × Obj)) from hp) (by simp), e0.hok.kept hk, ?_⟩
  · exact name_of_addr x.apart (PySem.mem_of_lookup h1) (PySem.mem_of_lookup h2)
  · have hy : scope.names.lookup y = some .cell ∨ scope.names.lookup y = some .free := hy
    rcases hy with hy | hy
    · exact cell_has hy
    · exact absurd rfl (S.nofree _ (PySem.mem_of_lookup hy))
  · exact Nat.le_of_lt (x.above y c (PySem.mem_of_lookup h))
  · have hi : i < vs.length := by
      unfold start at h2
      by_cases hi : i < vs.length
      · exact hi
      · rw [List.getElem?_append_right (by simpa using hi)] at h2
        rw [List.getElem?_replicate] at h2
        split at h2 <;> cases h2
    have ha : vs[i]? = some v := by
      unfold start at h2
      rw [List.getElem?_append_left (by simpa using hi), List.getElem?_map] at h2
      cases e : vs[i]? with
      | none => rw [e] at h2; cases h2
      | some a => rw [e] at h2; cases h2; rfl
    obtain ⟨u, hu, rv⟩ := r.get ha
    have hp : ps[i]? = some y := by
      rw [← S.pre, List.getElem?_take_of_lt (by omega)]; exact h1
    have ndP : ps.Nodup := by rw [← S.pre]; exact S.nd.sublist (List.take_sublist _ _)
    refine ⟨u, rv, ?_⟩
    rcases S.par y (List.mem_of_getElem? hp) with k | k
    · exact .inl ⟨k, bindL_get ndP hp hu k⟩
    · obtain ⟨c, e⟩ := cell_has (n := s.heap.objs.size + 1) k
      refine .inr ⟨.inl k, c, e, ?_⟩
      have q := x.cell y c e
      rw [bindC_get ndP hp hu (by show scope.names.lookup y ≠ _; rw [k]; decide)] at q
      exact q
  · exact e0.hok.fresh (Nat.le_of_lt (x.above y c (PySem.mem_of_lookup h)))
  · unfold start
    show _ = N.length
    rw [List.length_append, List.length_map, List.length_replicate]
    omega
/-- THE RULE: a def (or a method) of the text, by its body. The body's reading t is chosen for each entry; it is run at the parameters' values -/
theorem fn_of {CX : CXT} {P : Program} {w : World} {K : PySem.W.Frag} {mg : Str → Option Value} {base : Heap} {k : Nat} {f : Addr} {name qual : Str} {params : Arguments} {body : List Stmt} {scope : Scope} {dV kV doc pm cdv ct oc : Value} {an od : Option Addr}
    {osl : Array (Option Value)} {N ps : List Str} {sp : Sp} (lk : K.lookup f = some ⟨oc, od, .func (PySem.W.fnOf name qual params body scope dV kV doc pm an cdv ct), osl⟩) (hcd : PySem.W.codeIn K cdv qual = true) (S : FnScope N ps scope)
    (len : ∀ vs H Q E, sp vs H Q E → vs.length = ps.length)
    (hbody : ∀ (A : Around) (outer : List Env) (s : Shared) (H : Hp) (vs : List V) (Q : VK) (E : XK), Room k (A.deeper (envOfC qual scope s.heap.objs.size f cdv)) → sp vs H Q E →
      ∃ t, PSs (cxOf CX P w K mg base N qual scope f cdv A outer s H E) body t ∧ t { nx := fun _ H' => Q .non H', rt := Q } (start N vs) H) :
    FnOk P w K mg base CX (k + 1) f (PySem.W.fnOf name qual params body scope dV kV doc pm an cdv ct) ps sp := by
  refine ⟨len, fun A outer s H args us vs Q E hr e0 hb r hsp => ?_⟩
  have hl := len _ _ _ _ hsp
  have KX : K.In s.heap := e0.mod.kin.keeps fun b o e => (e0.bs b o e).1
  have lim : s.heap.NoLimit := e0.mod.nolimit.keeps fun b o e => (e0.bs b o e).1
  have hkind : ∀ y ∈ ps.zip us, scope.names.lookup y.1 = some .local ∨ (scope.names.lookup y.1 = some .cell ∧ ((cellsFrom (s.heap.objs.size + 1) scope.names []).lookup y.1).isSome = true) := fun ⟨n, v⟩ hy => by
    rcases S.par n (List.of_mem_zip hy).1 with q | q
    · exact .inl q
    · exact .inr ⟨q, PySem.W.cellsFrom_some _ _ _ (.inl q)⟩
  refine codeAny_call_function hr.depth (KX _ _ lk) rfl S.co S.gen rfl (PySem.W.codeRec_of KX hcd) (hb _ _ _ _ ?_)
  refine wpAny_newFunctionEnv_cells S.kind hkind fun env he s1 x => ?_
  subst he
  refine ⟨lim.keeps x.toInCall.keep, codeAny_func ?_⟩
  obtain ⟨t, ht, hq⟩ := hbody A outer s H vs Q E (hr.deeper _) hsp
  have I : Inv (cxOf CX P w K mg base N qual scope f cdv A outer s H E) [] (start N vs) H s1 := inv_start S hr.hd e0 hl r x
  refine wpAny_mono (ht s1 (start N vs) H _ I hq) (fun fl s' hs => ?_) fun e s' hs => hs
  have fin : ∀ {σ' : St} {H' : Hp} {v : V} {u : Value}, Inv (cxOf CX P w K mg base N qual scope f cdv A outer s H E) [] σ' H' s' → RelV v u → Q v H' → CE outer P w H s Q u s' :=
    fun {σ' H' v u} J rv q => ⟨v, H', J.os, J.bare, J.base, J.hok, rv, q⟩
  cases fl with
  | ret u =>
    obtain ⟨v, σ', H', J, rv, q⟩ := hs
    exact fin J rv q
  | next =>
    obtain ⟨σ', H', J, q⟩ := hs
    exact fin (v := V.non) (u := Value.none) J rfl q
  | brk =>
    obtain ⟨_, _, _, q⟩ := hs
    exact False.elim q
  | cont =>
    obtain ⟨_, _, _, q⟩ := hs
    exact False.elim q
end L2
namespace L2
open PySem PySem.Spec PyProof.Rows
section
variable {X : Cx} {x : Str} {p pos : Pos} {e : Expr} {es : List Expr} {t : TA} {id T : String} {r : List V → Hp → VK → Prop}
def tCB (r : List V → Hp → VK → Prop) (t : TA) : TE := fun σ H Q => t σ H fun vs H1 => r vs H1 Q
/-- f(e, ..), f a built-in function -/
theorem pe_callB (hc : CallR X (.builtin id) r) (hg : Gl X x) (hm : X.mg x = none) (hv : bootBuiltins x = some (.builtin id)) (ha : PA X (e :: es) t) (hn : x ≠ "__name__" := by decide) (hdb : (x == ("__debug__" : Str)) = false := by decide)
    (he : starEach (e :: es) X.env = (false, eval e X.env) :: starEach es X.env := by rfl) (hpl : (backTo pos (starEach es X.env)).any (·.1) = false := by rfl) : PE X (.Call (.Name x p) (e :: es) [] pos) (tCB r t) := by
  intro pins s σ H Q I h
  refine wpAny_Call_Name_kw (ld_blt I hg hm hv ?_ hn hdb)
  exact PyProof.Rows.callWith_builtin1 (thn (ha pos s σ H _ I h) fun us s1 ⟨vs, H1, I1, r1, q1⟩ => hc s1 σ H1 vs us Q I1 r1 q1) he hpl
/-- T(e, ..), T a built-in type -/
theorem pe_callTy (hc : CallR X (.type T) r) (hg : Gl X x) (hm : X.mg x = none) (hv : bootBuiltins x = some (.type T)) (ha : PA X (e :: es) t) (hn : x ≠ "__name__" := by decide) (hdb : (x == ("__debug__" : Str)) = false := by decide)
    (he : starEach (e :: es) X.env = (false, eval e X.env) :: starEach es X.env := by rfl) (hpl : (backTo pos (starEach es X.env)).any (·.1) = false := by rfl) : PE X (.Call (.Name x p) (e :: es) [] pos) (tCB r t) := by
  intro pins s σ H Q I h
  refine wpAny_Call_Name_kw (ld_blt I hg hm hv ?_ hn hdb)
  exact PyProof.Rows.callWith_type1 (thn (ha pos s σ H _ I h) fun us s1 ⟨vs, H1, I1, r1, q1⟩ => hc s1 σ H1 vs us Q I1 r1 q1) he hpl
end
end L2
namespace HT
open PySem PyProof.Rows
section
open PySem.SeqAt
open PySem.AutoSeq1 (wpAny_loadPart')
open PySem.MeetsSeq PySem.MeetsSeq2 PySem.MeetsSeq3
end
section
variable {prog : Program} {w : World} {A : Around} {E : Value → Shared → Prop} {s : Shared}
/-- a slice's bound as a place among n (d where it is left out) -/
def sIx (n d : Nat) : Option Int → Nat
  | none => d
  | some v => if v < 0 then (v + (n : Int)).toNat else min v.toNat n
theorem sIx_nat (n d k : Nat) : sIx n d (some (k : Int)) = min k n := by
  show (if (k : Int) < 0 then ((k : Int) + (n : Int)).toNat else min (k : Int).toNat n) = min k n
  rw [if_neg (by omega), Int.toNat_natCast]
theorem sIx_le (n d : Nat) (hd : d ≤ n) (o : Option Int) : sIx n d o ≤ n := by
  cases o with
  | none => exact hd
  | some v =>
    show (if v < 0 then (v + (n : Int)).toNat else min v.toNat n) ≤ n
    by_cases hv : v < 0
    · rw [if_pos hv]; omega
    · rw [if_neg hv]; exact Nat.min_le_right _ _
end
end HT
namespace L2
open PySem PySem.Spec PyProof.Rows
abbrev TO := St → Hp → (Option Int → Hp → Prop) → Prop
/-- a slice's part (left out, or an int) -/
def PO (X : Cx) (e : Option Expr) (t : TO) : Prop :=
  ∀ ⦃pins : List (Addr × Obj)⦄ (s : Shared) (σ : St) (H : Hp) (Q : Option Int → Hp → Prop), Inv X pins σ H s → t σ H Q →
    wpAny (model X.prog X.w) X.A (evalPart e X.env) (fun u s' => ∃ o H', Inv X pins σ H' s' ∧ IsPart u o ∧ Q o H') X.xe s
def tNoPart : TO := fun _ H Q => Q none H
def tPart (t : TE) : TO := fun σ H Q => t σ H fun x H1 => ∃ i, x = .int i ∧ Q (some i) H1
section
variable {X : Cx} {e : Expr} {te : TE} {lo hi : Option Expr} {tl th : TO} {pos p2 : Pos}
theorem po_none : PO X none tNoPart := by
  intro pins s σ H Q I h
  rw [evalPart_none]
  exact wpAny_pure ⟨none, H, I, .none, h⟩
theorem po_some (h : PE X e te) : PO X (some e) (tPart te) := by
  intro pins s σ H Q I hw
  rw [evalPart_some]
  refine thn (h s σ H _ I hw) fun u s1 ⟨x, H1, I1, r1, q1⟩ => ?_
  obtain ⟨i, rfl, q⟩ := q1
  obtain ⟨t, rfl⟩ := r1
  exact ⟨some i, H1, I1, .int i t, q⟩
/-- what a slice of a value is, by values: the slice object stands at sl -/
def SlR (X : Cx) (r : V → Option Int → Option Int → Hp → VK → Prop) : Prop :=
  ∀ ⦃pins : List (Addr × Obj)⦄ (s : Shared) (σ : St) (H : Hp) (x : V) (v vl vu : Value) (lo hi : Option Int) (sl : Addr) (Q : VK), Inv X pins σ H s → RelV x v → s.heap.IsSliceOf sl vl vu .none → IsPart vl lo → IsPart vu hi → r x lo hi H Q →
    ∃ T id, typeLookup (.type T) "__getitem__" = pure (some (.builtin id)) ∧ s.TypeIs v T ∧ wpAny (model X.prog X.w) X.A (getItem v (.ref sl)) (EP X pins σ Q) X.xe s
theorem SlR.or {r r' : V → Option Int → Option Int → Hp → VK → Prop} (h : SlR X r) (h' : SlR X r') : SlR X (fun x lo hi H Q => r x lo hi H Q ∨ r' x lo hi H Q) := by
  intro pins s σ H x v vl vu lo hi sl Q I rx hs pl pu q
  rcases q with q | q
  · exact h s σ H x v vl vu lo hi sl Q I rx hs pl pu q
  · exact h' s σ H x v vl vu lo hi sl Q I rx hs pl pu q
def tSl (r : V → Option Int → Option Int → Hp → VK → Prop) (te : TE) (tl th : TO) : TE := fun σ H Q => te σ H fun x H1 => tl σ H1 fun l H2 => th σ H2 fun u H3 => r x l u H3 Q
/-- a[lo:hi], any a -/
theorem pe_slice {r : V → Option Int → Option Int → Hp → VK → Prop} (hr : SlR X r) (he : PE X e te) (hl : PO X lo tl) (hu : PO X hi th) : PE X (.Subscript e (.Slice lo hi none p2) pos) (tSl r te tl th) := by
  intro pins s σ H Q I h
  refine Subscript_ (thn (he s σ H _ I h) fun v s1 ⟨x, H1, I1, r1, q1⟩ => ?_)
  refine wpAny_Slice (thn (hl s1 σ H1 _ I1 q1) fun vl s2 ⟨l, H2, I2, pl, q2⟩ => thn (hu s2 σ H2 _ I2 q2) fun vu s3 ⟨u, H3, I3, pu, q3⟩ => ?_)
  rw [evalPart_none]
  refine wpAny_pure ?_
  have I4 : Inv X pins σ H3 { s3 with heap := s3.heap.push { cls := .type "slice", data := .fields #[vl, vu, .none] } } := I3.kept (t' := s3.toks) fun b ob q => Heap.get?_push_of_some _ q
  obtain ⟨T, id, hT, ht, hg⟩ := hr { s3 with heap := s3.heap.push { cls := .type "slice", data := .fields #[vl, vu, .none] } } σ H3 x v vl vu l u s3.heap.objs.size Q I4 r1 (Heap.IsSliceOf.new ..) pl pu q3
  show wpAny (model X.prog X.w) X.A (subscriptTail e (.Slice lo hi none p2) v (.ref s3.heap.objs.size)) (EP X pins σ Q) X.xe { s3 with heap := s3.heap.push { cls := .type "slice", data := .fields #[vl, vu, .none] } }
  exact tail_any (ops := [.ref s3.heap.objs.size, v]) ht hT hg (by with_unfolding_all rfl)
/-- the items of xs[lo:hi] -/
def cutV (xs : List V) (lo hi : Option Int) : List V := (xs.drop (HT.sIx xs.length 0 lo)).take (HT.sIx xs.length xs.length hi - HT.sIx xs.length 0 lo)
theorem cutV_length (xs : List V) (lo hi : Option Int) : (cutV xs lo hi).length ≤ xs.length := by
  unfold cutV
  rw [List.length_take, List.length_drop]
  omega
end
end L2
namespace L2
open PySem PySem.Spec PyProof.Rows
/-- the place that an index of any sign means -/
def ixN (n : Nat) (i : Int) : Option Nat := if 0 ≤ i then (if i < n then some i.toNat else none) else if -(n : Int) ≤ i then some (i + n).toNat else none
def atI {α : Type} (xs : List α) (i : Int) : Option α := (ixN xs.length i).bind fun j => xs[j]?
theorem ixN_seq {n : Nat} {i : Int} {j : Nat} (h : ixN n i = some j) : seqIndex? i n = some j ∧ j < n ∧ -(n : Int) ≤ i ∧ i < n := by
  unfold ixN at h
  by_cases h0 : 0 ≤ i
  · rw [if_pos h0] at h
    by_cases h1 : i < n
    · rw [if_pos h1] at h
      have e : i.toNat = j := Option.some.inj h
      exact ⟨by rw [seqIndex_of h0 h1, e], by omega, by omega, h1⟩
    · rw [if_neg h1] at h; cases h
  · rw [if_neg h0] at h
    by_cases h1 : -(n : Int) ≤ i
    · rw [if_pos h1] at h
      have e : (i + n).toNat = j := Option.some.inj h
      exact ⟨by rw [seqIndex_neg (by omega) h1, e], by omega, h1, by omega⟩
    · rw [if_neg h1] at h; cases h
theorem atI_get {α : Type} {xs : List α} {i : Int} {v : α} (h : atI xs i = some v) : ∃ j, seqIndex? i xs.length = some j ∧ xs[j]? = some v ∧ j < xs.length ∧ -(xs.length : Int) ≤ i ∧ i < xs.length := by
  unfold atI at h
  cases e : ixN xs.length i with
  | none => rw [e] at h; cases h
  | some j =>
    rw [e] at h
    obtain ⟨h1, h2, h3, h4⟩ := ixN_seq e
    exact ⟨j, h1, h, h2, h3, h4⟩
theorem atI_nat {α : Type} {xs : List α} {j : Nat} {v : α} (h : xs[j]? = some v) : atI xs (j : Int) = some v := by
  have hj : j < xs.length := (List.getElem?_eq_some_iff.mp h).1
  have e : ixN xs.length (j : Int) = some j := by
    unfold ixN
    rw [if_pos (by omega), if_pos (by omega)]; simp
  unfold atI; rw [e]; exact h
theorem atI_last {α : Type} (xs : List α) (v : α) : atI (xs ++ [v]) (-1) = some v := by
  have hl : (xs ++ [v]).length = xs.length + 1 := by simp
  have e : ixN (xs ++ [v]).length (-1) = some xs.length := by
    unfold ixN
    rw [hl, if_neg (by decide), if_pos (by omega)]
    congr 1
    omega
  unfold atI
  rw [e]
  show (xs ++ [v])[xs.length]? = some v
  simp
/-- what stands as an index of a plain subscript -/
def PlainIx (b : Expr) : Prop := ∀ o i, subscripted b false o i = operate [o, i] (getItem o i)
/-- a subscript by values -/
def IxR (X : Cx) (r : R2) : Prop :=
  ∀ (value slice : Expr) ⦃pins : List (Addr × Obj)⦄ (s : Shared) (σ : St) (H : Hp) (x y : V) (v u : Value) (Q : VK), Inv X pins σ H s → RelV x v → RelV y u → r x y H Q →
    subscripted slice false v u = operate [v, u] (getItem v u) → wpAny (model X.prog X.w) X.A (subscriptTail value slice v u) (EP X pins σ Q) X.xe s
/-- a call of a builtin's method by values: the receiver, the arguments -/
def MtR (X : Cx) (id : String) (r : V → List V → Hp → VK → Prop) : Prop :=
  ∀ ⦃pins : List (Addr × Obj)⦄ (s : Shared) (σ : St) (H : Hp) (x : V) (xs : List V) (v : Value) (us : List Value) (Q : VK), Inv X pins σ H s → RelV x v → Vals xs us → r x xs H Q →
    wpAny (model X.prog X.w) X.A (call (.builtin id) (v :: us)) (EP X pins σ Q) X.xe s
section
variable {X : Cx} {a b : Expr} {ta tb : TE} {pos : Pos}
theorem IxR.or {r r' : R2} (h : IxR X r) (h' : IxR X r') : IxR X (fun x y H Q => r x y H Q ∨ r' x y H Q) := by
  intro value slice pins s σ H x y v u Q I rx ry q hs
  rcases q with q | q
  · exact h value slice s σ H x y v u Q I rx ry q hs
  · exact h' value slice s σ H x y v u Q I rx ry q hs
theorem MtR.or {id : String} {r r' : V → List V → Hp → VK → Prop} (h : MtR X id r) (h' : MtR X id r') : MtR X id (fun x xs H Q => r x xs H Q ∨ r' x xs H Q) := by
  intro pins s σ H x xs v us Q I rx rs q
  rcases q with q | q
  · exact h s σ H x xs v us Q I rx rs q
  · exact h' s σ H x xs v us Q I rx rs q
/-- a[b] -/
theorem pe_ix {r : R2} (hr : IxR X r) (ha : PE X a ta) (hb : PE X b tb) (hs : PlainIx b) : PE X (.Subscript a b pos) (tOp r ta tb) := by
  intro pins s σ H Q I h
  exact Subscript_ (binT ha hb I h fun v u s2 x y H2 I2 rx ry q => hr a b s2 σ H2 x y v u Q I2 rx ry q (hs _ _))
def rIxL (K : PySem.W.Frag) : R2 := fun x y H Q => ∃ p xs i v, x = .ref p ∧ y = .int i ∧ SqL K H p xs ∧ atI xs i = some v ∧ Q v H
def rIxT (K : PySem.W.Frag) : R2 := fun x y H Q => ∃ p xs i v, x = .ref p ∧ y = .int i ∧ SqT K H p xs ∧ atI xs i = some v ∧ Q v H
def rIxS : R2 := fun x y H Q => ∃ z i c, x = .str z ∧ y = .int i ∧ z.length ≤ sizeLine ∧ atI z.cps.toList i = some c ∧ Q (.str ⟨#[c]⟩) H
theorem ix_list : IxR X (rIxL X.K) := by
  intro value slice pins s σ H x y v u Q I rx ry h hs
  obtain ⟨p, xs, i, z, rfl, rfl, hq, he, q⟩ := h
  cases rx
  obtain ⟨t, rfl⟩ := ry
  obtain ⟨its, r, pl, hz⟩ := I.list hq
  obtain ⟨j, h1, h2, h3, h4, h5⟩ := atI_get he
  obtain ⟨w, ew, rw'⟩ := r.get h2
  have hl := r.length
  have hn := line63
  have fin : EP X pins σ Q w s := ⟨z, H, I, rw', q⟩
  by_cases h0 : 0 ≤ i
  · have hj : i.toNat = j := by
      rw [seqIndex_of h0 h5] at h1
      exact Option.some.inj h1
    exact item_listR pl.isList h0 (by omega) (by rw [hj]; simpa using ew) fin hs
  · have hj : (i + (its.toArray.size : Int)).toNat = j := by
      rw [seqIndex_neg (by omega) h4] at h1
      rw [List.size_toArray, ← hl]
      exact Option.some.inj h1
    exact subscriptTail_builtinR (x := w) pl.isList.typeIs slot_list_getitem.lookup
      (wpAny_getItem_list_neg (Q := fun r s' => r = w ∧ EP X pins σ Q r s') pl.isList (by omega) (by rw [List.size_toArray] <;> omega) (by omega) (by rw [hj]; simpa using ew) ⟨rfl, fin⟩) hs
theorem ix_tup : IxR X (rIxT X.K) := by
  intro value slice pins s σ H x y v u Q I rx ry h hs
  obtain ⟨p, xs, i, z, rfl, rfl, hq, he, q⟩ := h
  cases rx
  obtain ⟨t, rfl⟩ := ry
  obtain ⟨its, r, pl, hz⟩ := I.tuple hq
  obtain ⟨j, h1, h2, h3, h4, h5⟩ := atI_get he
  obtain ⟨w, ew, rw'⟩ := r.get h2
  have hl := r.length
  have hn := line63
  have fin : EP X pins σ Q w s := ⟨z, H, I, rw', q⟩
  exact subscriptTail_builtinR (x := w) pl.typeIs slot_tuple_getitem.lookup
    (getItem_tuple (j := j) (Q := fun r s' => r = w ∧ EP X pins σ Q r s') pl (by omega) (by omega) (by rw [List.size_toArray, ← hl]; exact h1) (by simpa using ew) ⟨rfl, fin⟩) hs
theorem ix_str : IxR X rIxS := by
  intro value slice pins s σ H x y v u Q I rx ry h hs
  obtain ⟨z, i, c, rfl, rfl, hz, he, q⟩ := h
  obtain ⟨t, rfl⟩ := rx
  obtain ⟨t', rfl⟩ := ry
  obtain ⟨j, h1, h2, h3, h4, h5⟩ := atI_get he
  have hl : z.cps.toList.length = z.length := by simp [Str.length]
  rw [hl] at h1 h4 h5
  have hn := line63
  exact tail_any (typeIs_str s z t) slot_str_getitem.lookup (getItem_str (c := c) (by
    have e1 : decide (i < -(2 ^ 63 : Int)) = false := decide_eq_false (by omega)
    have e2 : decide (i ≥ 2 ^ 63) = false := decide_eq_false (by omega)
    rw [e1, e2, Bool.or_false]) (by rw [h1]; simpa using h2) ⟨.str ⟨#[c]⟩, H, I.tok _, ⟨_, rfl⟩, q⟩) hs
/-- the list's object behind a store -/
theorem mapSeq_set (its : List Value) (n j : Nat) (u : Value) : Obj.mapSeq (·.setIfInBounds j u) { cls := .type "list", data := .seq its.toArray n } = { cls := .type "list", data := .seq (its.set j u).toArray n } := by
  simp [Obj.mapSeq]
theorem Inv.lst {pins : List (Addr × Obj)} {σ : St} {H : Hp} {s : Shared} {p : Addr} {xs : List V} (I : Inv X pins σ H s) (h : H p = some (.lst xs)) :
    ∃ (its : List Value) (n : Nat), Vals xs its ∧ s.heap.get? p = some { cls := .type "list", data := .seq its.toArray n } ∧ xs.length ≤ sizeLine := by
  obtain ⟨z, its, n, r, e⟩ := I.hok p _ h
  exact ⟨its, n, r, e, z⟩
/-- the list at p is written by an update of its object -/
theorem Inv.lstUpd {pins : List (Addr × Obj)} {σ : St} {H : Hp} {s : Shared} {p : Addr} {xs ys : List V} {its its' : List Value} {n n' : Nat} {f : Obj → Obj} (I : Inv X pins σ H s) (h : H p = some (.lst xs))
    (ho : s.heap.get? p = some { cls := .type "list", data := .seq its.toArray n }) (hf : f { cls := .type "list", data := .seq its.toArray n } = { cls := .type "list", data := .seq its'.toArray n' }) (r : Vals ys its') (hz : ys.length ≤ sizeLine) (t : Nat) :
    Inv X pins σ (upd H p (.lst ys)) { s with heap := s.heap.update p f, toks := t } := by
  have e : (s.heap.update p f).get? p = some { cls := .type "list", data := .seq its'.toArray n' } := by
    rw [Heap.get?_update_self f ho (by rw [hf] <;> rfl), hf]
  refine I.write (x := p) (e := p) (by rw [h]; trivial) (.inl rfl) (fun b u hb q => (Heap.get?_update_other _ _ (Ne.symm hb)).trans q) ⟨_, e⟩ ?_
  exact ⟨hz, its', n', r, e⟩
def rSetL : V → V → V → Hp → (Hp → Prop) → Prop := fun o i v H Q => ∃ p xs k j, o = .ref p ∧ i = .int k ∧ H p = some (.lst xs) ∧ ixN xs.length k = some j ∧ Q (upd H p (.lst (xs.set j v)))
theorem set_list : PSet X rSetL := by
  intro pins s σ H o i v ov iv u Q I ro ri rv h
  obtain ⟨p, xs, k, j, rfl, rfl, hp, hj, q⟩ := h
  cases ro
  obtain ⟨t, rfl⟩ := ri
  obtain ⟨its, n, r, ho, hz⟩ := I.lst hp
  obtain ⟨h1, h2, h3, h4⟩ := ixN_seq hj
  have hl := r.length
  have hn := line63
  have I' : Inv X pins σ (upd H p (.lst (xs.set j v))) { s with heap := s.heap.update p (Obj.mapSeq (·.setIfInBounds j u)) } :=
    I.lstUpd hp ho (mapSeq_set its n j u) (r.set rv j) (by rw [List.length_set]; exact hz) s.toks
  by_cases h0 : 0 ≤ k
  · have hk : k.toNat = j := by
      rw [seqIndex_of h0 h4] at h1
      exact Option.some.inj h1
    exact PySem.W.ki_setAt ho h0 (by omega) (by rw [List.size_toArray, ← hl]; exact h4) (by rw [hk]; exact ⟨_, I', q⟩)
  · have hk : (k + (its.toArray.size : Int)).toNat = j := by
      rw [seqIndex_neg (by omega) h3] at h1
      rw [List.size_toArray, ← hl]
      exact Option.some.inj h1
    exact PySem.W.ki_setBack ho (by omega) (by rw [List.size_toArray, ← hl]; exact h3) (by omega) (by rw [hk]; exact ⟨_, I', q⟩)
theorem slice_bounds (lo hi : Option Int) (n : Nat) : (sliceBounds lo hi none n).1 = ((HT.sIx n 0 lo : Nat) : Int) ∧ (sliceBounds lo hi none n).2.1 = ((HT.sIx n n hi : Nat) : Int) ∧ (sliceBounds lo hi none n).2.2 = 1 := by
  refine ⟨?_, ?_, rfl⟩
  · cases lo with
    | none => simp [sliceBounds, HT.sIx]
    | some i =>
      simp only [sliceBounds, HT.sIx, Option.getD_none, show (1 : Int) > 0 by decide, if_true]
      by_cases h : i < 0
      · simp only [h, if_true] <;> omega
      · simp only [h, if_false] <;> omega
  · cases hi with
    | none => simp [sliceBounds, HT.sIx]
    | some i =>
      simp only [sliceBounds, HT.sIx, Option.getD_none, show (1 : Int) > 0 by decide, if_true]
      by_cases h : i < 0
      · simp only [h, if_true] <;> omega
      · simp only [h, if_false] <;> omega
theorem slicePick_cut (its : List Value) (lo hi : Option Int) : slicePick its.toArray lo hi none = ((its.drop (HT.sIx its.length 0 lo)).take (HT.sIx its.length its.length hi - HT.sIx its.length 0 lo)).toArray := by
  obtain ⟨h1, h2, h3⟩ := slice_bounds lo hi its.toArray.size
  unfold slicePick
  rw [h1, h2, h3]
  simp only [sliceRange_one, pick_run, List.size_toArray] <;> rfl
/-- xs[lo:hi] of a list: a new list -/
def rSlL (K : PySem.W.Frag) : V → Option Int → Option Int → Hp → VK → Prop := fun x lo hi H Q => ∃ a xs, x = .ref a ∧ SqL K H a xs ∧ ∀ p, H p = none → Q (.ref p) (upd H p (.lst (cutV xs lo hi)))
theorem sl_list : SlR X (rSlL X.K) := by
  intro pins s σ H x v vl vu lo hi sl Q I rx hs pl pu h
  obtain ⟨a, xs, rfl, hx, q⟩ := h
  cases rx
  obtain ⟨its, r, ht, hz⟩ := I.list hx
  have hlen := r.length
  refine ⟨"list", _, slot_list_getitem.lookup, ht.isList.typeIs, ?_⟩
  refine wpAny_getItem_list_slice ht.isList hs pl pu .none (by simp) ?_ (by rw [List.size_toArray] <;> omega)
  rw [slicePick_cut, ← hlen]
  refine ⟨.ref s.heap.objs.size, _, I.laid (t' := s.toks) (o := .lst (cutV xs lo hi)) (fun b ob q => Heap.get?_push_of_some _ q) (Nat.le_refl _) ?_, rfl, q _ (I.hok.fresh (Nat.le_refl _))⟩
  exact ⟨Nat.le_trans (cutV_length xs lo hi) hz, _, 0, (r.drop (HT.sIx xs.length 0 lo)).take (HT.sIx xs.length xs.length hi - HT.sIx xs.length 0 lo), Heap.get?_push_size _ rfl⟩
def flatV : V → Bool
  | .non => true
  | .bl _ => true
  | .int _ => true
  | .str _ => true
  | _ => false
/-- == of flat values -/
def eqV : V → V → Bool
  | .non, .non => true
  | .bl a, .bl b => a == b
  | .bl a, .int b => (if a then 1 else 0) == b
  | .int a, .bl b => a == (if b then 1 else 0)
  | .int a, .int b => a == b
  | .str a, .str b => a == b
  | _, _ => false
theorem eqAt_V {A : Around} {s : Shared} {y x : V} {u v : Value} (ry : RelV y u) (rx : RelV x v) (fy : flatV y = true) (fx : flatV x = true) : SeqAt.EqAt A s u v (eqV y x) := by
  cases y with
  | non =>
    cases ry
    cases x with
    | non => cases rx; exact SeqAt.EqAt.same _
    | bl b => cases rx; exact SeqAt.EqAt.none_bool b
    | int b => obtain ⟨t, rfl⟩ := rx; exact SeqAt.EqAt.none_int b t
    | str b => obtain ⟨t, rfl⟩ := rx; exact SeqAt.EqAt.none_str b t
    | _ => exact absurd (show false = true from fx) Bool.false_ne_true
  | bl a =>
    cases ry
    cases x with
    | non => cases rx; exact SeqAt.EqAt.bool_none a
    | bl b => cases rx; exact SeqAt.EqAt.bool_bool a b
    | int b => obtain ⟨t, rfl⟩ := rx; exact SeqAt.EqAt.bool_int a b t
    | str b => obtain ⟨t, rfl⟩ := rx; exact SeqAt.EqAt.bool_str a b t
    | _ => exact absurd (show false = true from fx) Bool.false_ne_true
  | int a =>
    obtain ⟨t', rfl⟩ := ry
    cases x with
    | non => cases rx; exact SeqAt.EqAt.int_none a t'
    | bl b => cases rx; exact SeqAt.EqAt.int_bool a t' b
    | int b => obtain ⟨t, rfl⟩ := rx; exact SeqAt.EqAt.int_int a t' b t
    | str b => obtain ⟨t, rfl⟩ := rx; exact SeqAt.EqAt.int_str a t' b t
    | _ => exact absurd (show false = true from fx) Bool.false_ne_true
  | str a =>
    obtain ⟨t', rfl⟩ := ry
    cases x with
    | non => cases rx; exact SeqAt.EqAt.str_none a t'
    | bl b => cases rx; exact SeqAt.EqAt.str_bool a t' b
    | int b => obtain ⟨t, rfl⟩ := rx; exact SeqAt.EqAt.str_int a t' b t
    | str b => obtain ⟨t, rfl⟩ := rx; exact SeqAt.EqAt.str_str a t' b t
    | _ => exact absurd (show false = true from fx) Bool.false_ne_true
  | _ => exact absurd (show false = true from fy) Bool.false_ne_true
/-- the items' answers, read off the values (a value's own answer does not lean on its token) -/
def eqU (x : V) (u : Value) : Bool := match u with
  | .none => eqV .non x
  | .bool b => eqV (.bl b) x
  | .int i _ => eqV (.int i) x
  | .str z _ => eqV (.str z) x
  | _ => false
theorem eqU_of {x y : V} {u : Value} (r : RelV y u) (f : flatV y = true) : eqU x u = eqV y x := by
  cases y with
  | non => cases r; rfl
  | bl b => cases r; rfl
  | int i => obtain ⟨t, rfl⟩ := r; rfl
  | str z => obtain ⟨t, rfl⟩ := r; rfl
  | _ => exact absurd (show false = true from f) Bool.false_ne_true
theorem any_eqU {x : V} : ∀ {xs : List V} {us : List Value}, Vals xs us → xs.all flatV = true → us.any (eqU x) = xs.any fun y => eqV y x
  | _, _, .nil, _ => rfl
  | y :: xs, u :: us, .cons r t, f => by
    rw [List.all_cons, Bool.and_eq_true] at f
    rw [List.any_cons, List.any_cons, eqU_of r f.1, any_eqU t f.2]
theorem mem_eqAt {A : Around} {s : Shared} {x : V} {v : Value} (rx : RelV x v) (fx : flatV x = true) : ∀ {xs : List V} {us : List Value}, Vals xs us → xs.all flatV = true → ∀ u ∈ us, SeqAt.EqAt A s u v (eqU x u)
  | _, _, .nil, _ => fun u hu => by cases hu
  | y :: xs, u :: us, .cons r t, f => fun u' hu => by
    rw [List.all_cons, Bool.and_eq_true] at f
    rcases List.mem_cons.mp hu with rfl | hu
    · rw [eqU_of r f.1]; exact eqAt_V r rx f.1 fx
    · exact mem_eqAt rx fx t f.2 u' hu
def inV (x : V) (xs : List V) : Bool := xs.any fun y => eqV y x
/-- x in a list or tuple of flat items -/
def rIn (K : PySem.W.Frag) (neg : Bool) : R2 := fun x y H Q => ∃ p xs, y = .ref p ∧ (SqL K H p xs ∨ SqT K H p xs) ∧ flatV x = true ∧ xs.all flatV = true ∧ Q (.bl (if neg then !inV x xs else inV x xs)) H
theorem op_in_seq : OpR X (compareOp .In) (rIn X.K false) := by
  intro pins s σ H x y v u Q I rx ry h
  obtain ⟨p, xs, rfl, hq, fx, fs, q⟩ := h
  cases ry
  rcases hq with hq | hq
  · obtain ⟨its, r, pl, hz⟩ := I.list hq
    refine SeqAt.in_listAt (eqU x) pl.isList (fun w hw => mem_eqAt rx fx r fs w (by simpa using hw)) ⟨.bl _, H, I, rfl, ?_⟩
    rw [show its.toArray.any (eqU x) = its.any (eqU x) by simp, any_eqU r fs]
    exact q
  · obtain ⟨its, r, pl, hz⟩ := I.tuple hq
    refine SeqAt.in_tupleAt (eqU x) pl (fun w hw => mem_eqAt rx fx r fs w (by simpa using hw)) ⟨.bl _, H, I, rfl, ?_⟩
    rw [show its.toArray.any (eqU x) = its.any (eqU x) by simp, any_eqU r fs]
    exact q
theorem call_len_seq : CallR X (.builtin "len") (fun xs H Q => ∃ p ys, xs = [.ref p] ∧ (SqL X.K H p ys ∨ SqT X.K H p ys) ∧ Q (.int ys.length) H) := by
  intro pins s σ H xs us Q I r h
  obtain ⟨p, ys, rfl, hq, q⟩ := h
  obtain ⟨u, rfl, rx⟩ := vals1 r
  cases rx
  have hn := line63
  rcases hq with hq | hq
  · obtain ⟨its, r', pl, hz⟩ := I.list hq
    have hlen := r'.length
    exact Calls.call_len_list pl.isList (by simp only [List.size_toArray] <;> omega) ⟨.int ys.length, H, I.tok _, ⟨s.toks + 1, by rw [List.size_toArray, hlen]⟩, q⟩
  · obtain ⟨its, r', pl, hz⟩ := I.tuple hq
    have hlen := r'.length
    exact len_tuple pl (by simp only [List.size_toArray] <;> omega) ⟨.int ys.length, H, I.tok _, ⟨s.toks + 1, by rw [List.size_toArray, hlen]⟩, q⟩
theorem call_len_str : CallR X (.builtin "len") (fun xs H Q => ∃ z, xs = [.str z] ∧ z.length ≤ sizeLine ∧ Q (.int z.length) H) := by
  intro pins s σ H xs us Q I r h
  obtain ⟨z, rfl, hz, q⟩ := h
  obtain ⟨u, rfl, t, rfl⟩ := vals1 r
  have hn := line63
  exact len_str (by omega) ⟨.int z.length, H, I.tok _, ⟨_, rfl⟩, q⟩
theorem CallR.or {f : Value} {r r' : List V → Hp → VK → Prop} (h : CallR X f r) (h' : CallR X f r') : CallR X f (fun xs H Q => r xs H Q ∨ r' xs H Q) := by
  intro pins s σ H xs us Q I rs q
  rcases q with q | q
  · exact h s σ H xs us Q I rs q
  · exact h' s σ H xs us Q I rs q
theorem call_list_of : CallR X (.type "list") (fun xs H Q => ∃ p ys, xs = [.ref p] ∧ (SqL X.K H p ys ∨ SqT X.K H p ys) ∧ ∀ l, H l = none → Q (.ref l) (upd H l (.lst ys))) := by
  intro pins s σ H xs us Q I r h
  obtain ⟨p, ys, rfl, hq, q⟩ := h
  obtain ⟨u, rfl, rx⟩ := vals1 r
  cases rx
  have fin : ∀ (its : List Value), Vals ys its → ys.length ≤ sizeLine → ∀ (h' : Heap) (c' : Nat), (∀ b o', s.heap.get? b = some o' → h'.get? b = some o') →
      h'.get? s.heap.objs.size = some { cls := .type "list", dict := none, data := .seq its.toArray c', slots := #[] } → EP X pins σ Q (.ref s.heap.objs.size) { s with heap := h' } := fun its r' hz h' c' kp e =>
    ⟨.ref s.heap.objs.size, _, I.laid (t' := s.toks) kp (Nat.le_refl _) (show ObjOk X.prog X.w _ h' _ (.lst ys) from ⟨hz, its, c', r', e⟩), rfl, q _ (I.hok.fresh (Nat.le_refl _))⟩
  rcases hq with hq | hq
  · obtain ⟨its, r', pl, hz⟩ := I.list hq
    have hlen := r'.length
    obtain ⟨o, ho, hc, n, hd⟩ := pl.isList
    exact call_list_seq p (.inl rfl) ho hc hd (fun h' c' kp e => fin its r' hz h' c' kp e) (by simp only [List.size_toArray] <;> omega)
  · obtain ⟨its, r', pl, hz⟩ := I.tuple hq
    have hlen := r'.length
    obtain ⟨o, ho, hc, n, hd⟩ := pl
    exact call_list_seq p (.inr rfl) ho hc hd (fun h' c' kp e => fin its r' hz h' c' kp e) (by simp only [List.size_toArray] <;> omega)
theorem call_tuple_of : CallR X (.type "tuple") (fun xs H Q => ∃ p ys, xs = [.ref p] ∧ ((SqL X.K H p ys ∧ ∀ l, H l = none → Q (.ref l) (upd H l (.tup ys))) ∨ (SqT X.K H p ys ∧ Q (.ref p) H))) := by
  intro pins s σ H xs us Q I r h
  obtain ⟨p, ys, rfl, h⟩ := h
  obtain ⟨u, rfl, rx⟩ := vals1 r
  cases rx
  rcases h with ⟨hq, q⟩ | ⟨hq, q⟩
  · obtain ⟨its, r', pl, hz⟩ := I.list hq
    have hlen := r'.length
    refine call_tuple_list pl.isList (fun h' kp => ?_) (by simp only [List.size_toArray] <;> omega)
    have I1 : Inv X pins σ H { s with heap := h' } := I.kept (t' := s.toks) kp
    have I2 : Inv X pins σ (upd H h'.objs.size (.tup ys)) { s with heap := h'.push { cls := .type "tuple", data := .seq its.toArray } } :=
      I1.laid (t' := s.toks) (fun b o e => Heap.get?_push_of_some _ e) (Nat.le_refl _) (show ObjOk X.prog X.w _ _ _ (.tup ys) from ⟨hz, its, r', IsTupN.new _ _⟩)
    exact ⟨.ref h'.objs.size, _, I2, rfl, q _ (I1.hok.fresh (Nat.le_refl _))⟩
  · obtain ⟨its, r', pl, hz⟩ := I.tuple hq
    exact call_tuple_same pl ⟨.ref p, H, I, rfl, q⟩
/-- the value is of that builtin type -/
def tyV (K : PySem.W.Frag) (T : String) (x : V) (H : Hp) : Prop := match x with
  | .str _ => T = "str"
  | .int _ => T = "int"
  | .ref p => (T = "list" ∧ ∃ xs, SqL K H p xs) ∨ (T = "tuple" ∧ ((∃ o, K.lookup p = some o ∧ o.cls = .type "tuple" ∧ o.dict = none) ∨ ∃ xs, H p = some (.tup xs))) ∨
      (T = "dict" ∧ ((∃ kvs, H p = some (.dK kvs)) ∨ ∃ kvs, H p = some (.dT kvs))) ∨ (T = "set" ∧ ∃ S n, H p = some (.set S n))
  | _ => False
theorem tyV_is {pins : List (Addr × Obj)} {σ : St} {H : Hp} {s : Shared} {T : String} {x : V} {v : Value} (I : Inv X pins σ H s) (r : RelV x v) (ty : tyV X.K T x H) :
    s.TypeIs v T ∧ ∀ a, v = .ref a → ∃ ob, s.heap.get? a = some ob ∧ ob.dict = none := by
  cases x with
  | str z =>
    obtain ⟨t, rfl⟩ := r
    cases (show T = "str" from ty)
    exact ⟨typeIs_str s z t, fun _ e => nomatch e⟩
  | int i =>
    obtain ⟨t, rfl⟩ := r
    cases (show T = "int" from ty)
    exact ⟨typeIs_int s i t, fun _ e => nomatch e⟩
  | ref p =>
    cases r
    rcases ty with ⟨rfl, xs, hq⟩ | ⟨rfl, ⟨o, hk, hc, hd⟩ | ⟨xs, hx⟩⟩ | ⟨rfl, hk⟩ | ⟨rfl, S, n, hk⟩
    · obtain ⟨its, _, pl, _⟩ := I.list hq
      refine ⟨pl.isList.typeIs, fun a e => ?_⟩
      cases e
      obtain ⟨o, n, e, c, hd, _⟩ := pl
      exact ⟨o, e, hd⟩
    · refine ⟨⟨o, I.kIn p o hk, hc⟩, fun a e => ?_⟩
      cases e
      exact ⟨o, I.kIn _ o hk, hd⟩
    · obtain ⟨_, _, _, o, h1, h2, _, h3⟩ := I.hok p _ hx
      refine ⟨⟨o, h1, h2⟩, fun a e => ?_⟩
      cases e
      exact ⟨o, h1, h3⟩
    · have z : ∃ o, s.heap.get? p = some o ∧ o.ExactDict := by
        rcases hk with ⟨kvs, hk⟩ | ⟨kvs, hk⟩
        · obtain ⟨_, _, _, _, o, _, _, e, ex, _⟩ := I.hok p _ hk
          exact ⟨o, e, ex⟩
        · obtain ⟨_, _, _, _, o, _, _, e, ex, _⟩ := I.hok p _ hk
          exact ⟨o, e, ex⟩
      obtain ⟨o, e, ex⟩ := z
      refine ⟨⟨o, e, ex.1⟩, fun a e2 => ?_⟩
      cases e2
      exact ⟨o, e, ex.2.1⟩
    · obtain ⟨o, _, _, _, e, ex, _⟩ := I.hok p _ hk
      refine ⟨⟨o, e, ex.1⟩, fun a e2 => ?_⟩
      cases e2
      exact ⟨o, e, ex.2.1⟩
  | _ => exact False.elim ty
def tBM (K : PySem.W.Frag) (T : String) (r : V → List V → Hp → VK → Prop) (to : TE) (t : TA) : TE := fun σ H Q => to σ H fun x H1 => tyV K T x H1 ∧ t σ H1 fun xs H2 => r x xs H2 Q
variable {o e : Expr} {es : List Expr} {to : TE} {t : TA} {name : Str} {apos cpos : Pos} {T id : String} {r : V → List V → Hp → VK → Prop}
theorem pe_bm (pa : PlainAttrs T) (slot : Slot T name id) (hty : typeOf (.builtin id) = pure (.type "method_descriptor")) (hm : MtR X id r) (ho : PE X o to) (ha : PA X (e :: es) t)
    (hbase : attributeBase o name X.env (eval o X.env) = eval o X.env := by rfl)
    (hfew : ((backTo cpos (starEach (e :: es) X.env)).all (fun x => !x.1) && (backToKw cpos (keywordEach [] X.env)).all (fun x => x.1.isSome)
      && decide ((e :: es).length + ([] : List Keyword).length + (if ([] : List Keyword).isEmpty then 0 else 1) < 30)) = true := by rfl)
    (hline : (apos.endLine == cpos.line) = true := by rfl) (hs : starEach (e :: es) X.env = (false, eval e X.env) :: starEach es X.env := by rfl) (hplain : (backTo cpos (starEach es X.env)).any (·.1) = false := by rfl) :
    PE X (.Call (.Attribute o name apos) (e :: es) [] cpos) (tBM X.K T r to t) := by
  intro pins s σ H Q I h
  refine wpAny_Call_method_late hbase hfew hline rfl (thn (ho s σ H _ I h) fun v s1 ⟨x, H1, I1, r1, ty, q1⟩ => ?_)
  obtain ⟨h1, h2⟩ := tyV_is I1 r1 ty
  refine ⟨T, id, pa, slot, hty, h1, h2, ?_⟩
  have hA := ha cpos s1 σ H1 _ I1 q1
  rw [hs] at hA ⊢
  refine Calls.callWith_builtin (by show (false || (backTo cpos (starEach es X.env)).any (·.1)) = false; rw [hplain] <;> rfl) (Calls.evalArgs_plain ?_)
  exact thn hA fun us s2 ⟨vs, H2, I2, r2, q2⟩ => hm s2 σ H2 x vs v us Q I2 r1 r2 q2
end
end L2
namespace L2
open PySem PySem.Spec PyProof.Rows
def MtM (X : Cx) (id : String) (r : V → List V → Hp → VK → Prop) : Prop :=
  ∀ ⦃pins : List (Addr × Obj)⦄ (s : Shared) (σ : St) (H : Hp) (x : V) (xs : List V) (v : Value) (us : List Value) (Q : VK), Inv X pins σ H s → RelV x v → Vals xs us → r x xs H Q →
    wpAny (model X.prog X.w) X.A (call (.builtin id) (v :: us)) (EP X pins σ Q) X.xe s
theorem Vals.one : ∀ {x : V} {us : List Value}, Vals [x] us → ∃ u, us = [u] ∧ RelV x u
  | _, _, .cons r .nil => ⟨_, rfl, r⟩
theorem Vals.two : ∀ {x y : V} {us : List Value}, Vals [x, y] us → ∃ u v, us = [u, v] ∧ RelV x u ∧ RelV y v
  | _, _, _, .cons r (.cons q .nil) => ⟨_, _, rfl, r, q⟩
theorem Vals.zero : ∀ {us : List Value}, Vals [] us → us = []
  | _, .nil => rfl
theorem Vals.dropLast {xs : List V} {us : List Value} (h : Vals xs us) : Vals xs.dropLast us.dropLast := by
  induction h with
  | nil => exact .nil
  | cons r t ih =>
    cases t with
    | nil => exact .nil
    | cons q t' => exact .cons r ih
theorem Vals.reverse {xs : List V} {us : List Value} (h : Vals xs us) : Vals xs.reverse us.reverse := by
  induction h with
  | nil => exact .nil
  | cons r t ih => rw [List.reverse_cons, List.reverse_cons]; exact Vals.append ih (.cons r .nil)
theorem Vals.rep {xs : List V} {us : List Value} (h : Vals xs us) : ∀ k : Nat, Vals (List.replicate k xs).flatten (List.replicate k us).flatten
  | 0 => .nil
  | k + 1 => by
    rw [List.replicate_succ, List.replicate_succ, List.flatten_cons, List.flatten_cons]
    exact Vals.append h (Vals.rep h k)
theorem foldl_rep (its : List Value) : ∀ (k : Nat) (acc : List Value),
    List.foldl (fun x1 x2 => x1 ++ x2) acc.toArray (List.replicate k its.toArray) = (acc ++ (List.replicate k its).flatten).toArray
  | 0, acc => by simp
  | k + 1, acc => by
    have e : acc.toArray ++ its.toArray = (acc ++ its).toArray := by simp
    have e2 : (acc ++ its) ++ (List.replicate k its).flatten = acc ++ (List.replicate (k + 1) its).flatten := by
      rw [List.replicate_succ, List.flatten_cons, List.append_assoc]
    rw [← e2, ← foldl_rep its k (acc ++ its), ← e, List.replicate_succ, List.foldl_cons]
section
variable {X : Cx} {pins : List (Addr × Obj)} {σ : St} {H : Hp} {s : Shared} {l b : Addr} {xs ys zs : List V}
theorem Inv.lset {its its' : List Value} {n : Nat} {f : Array Value → Array Value} {t' : Nat} (I : Inv X pins σ H s) (hH : H l = some (.lst xs))
    (e : s.heap.get? l = some { cls := .type "list", data := .seq its.toArray n }) (hf : f its.toArray = its'.toArray) (hv : Vals ys its') (hz : ys.length ≤ sizeLine) :
    Inv X pins σ (upd H l (.lst ys)) { s with heap := s.heap.update l (Obj.mapSeq f), toks := t' } := by
  have q := PySem.IsL.update e f
  rw [hf] at q
  refine I.write (x := l) (e := l) (by rw [hH]; exact trivial) (.inl rfl) (fun b' u hb hu => (Heap.get?_update_other s.heap (Obj.mapSeq f) (Ne.symm hb)).trans hu) ⟨_, q⟩ ?_
  exact ⟨hz, its', _, hv, q⟩
theorem Inv.lnew {its : List Value} {t' : Nat} (I : Inv X pins σ H s) (hv : Vals ys its) (hz : ys.length ≤ sizeLine) :
    Inv X pins σ (upd H s.heap.objs.size (.lst ys)) { s with heap := s.heap.push { cls := .type "list", data := .seq its.toArray }, toks := t' } :=
  I.laid (fun _ _ q => Heap.get?_push_of_some _ q) (Nat.le_refl _) ⟨hz, its, 0, hv, Heap.get?_push_size _ rfl⟩
theorem Inv.fresh (I : Inv X pins σ H s) : H s.heap.objs.size = none := I.hok.fresh (Nat.le_refl _)
theorem Inv.lstM (I : Inv X pins σ H s) (hH : H l = some (.lst xs)) : xs.length ≤ sizeLine ∧ ∃ (its : List Value) (n : Nat), Vals xs its ∧ xs.length = its.length ∧ s.heap.get? l = some { cls := .type "list", data := .seq its.toArray n } := by
  obtain ⟨z, its, n, r, e⟩ := I.hok l _ hH
  exact ⟨z, its, n, r, r.length, e⟩
theorem notLongL {n : Nat} (h : n ≤ sizeLine) : Builtin.List.listTooLong n = false := by
  unfold Builtin.List.listTooLong
  exact decide_eq_false (by omega)
end
section
variable {X : Cx}
def rAppend : V → List V → Hp → VK → Prop := fun x vs H Q => ∃ l xs y, x = .ref l ∧ vs = [y] ∧ H l = some (.lst xs) ∧ xs.length < sizeLine ∧ Q .non (upd H l (.lst (xs ++ [y])))
theorem mt_append : MtM X "list.append" rAppend := by
  intro pins s σ H x vs v us Q I rx rv h
  obtain ⟨l, xs, y, rfl, rfl, hH, hz, q⟩ := h
  cases rx
  obtain ⟨u, rfl, ru⟩ := rv.one
  obtain ⟨z, its, n, r, hl, e⟩ := I.lstM hH
  refine call_meets F.slot_list_append ⟨_, e, rfl⟩ F.entry_list_append (F.args_list_append_2 _ _) (PySem.list_append l its.toArray n u (by rw [List.size_toArray]; omega)) ⟨e, ?_⟩
  refine ⟨.non, _, I.lset (its' := its ++ [u]) hH e (by simp) (r.append (.cons ru .nil)) ?_, rfl, q⟩
  rw [List.length_append, List.length_singleton]
  omega
def rCat : R2 := fun x y H Q => ∃ l b xs zs, x = .ref l ∧ y = .ref b ∧ H l = some (.lst xs) ∧ H b = some (.lst zs) ∧ xs.length + zs.length ≤ sizeLine ∧ ∀ p, H p = none → Q (.ref p) (upd H p (.lst (xs ++ zs)))
theorem op_cat : OpR X (binaryOp .Add) rCat := by
  intro pins s σ H x y v u Q I rx ry h
  obtain ⟨l, b, xs, zs, rfl, rfl, hH, hB, hz, q⟩ := h
  cases rx
  cases ry
  obtain ⟨z, its, n, r, hl, e⟩ := I.lstM hH
  obtain ⟨z2, its2, n2, r2, hl2, e2⟩ := I.lstM hB
  refine PySem.P.add_list e e2 ?_ (by rw [List.size_toArray, List.size_toArray]; omega)
  have ea : its.toArray ++ its2.toArray = (its ++ its2).toArray := by simp
  rw [ea]
  exact ⟨.ref _, _, I.lnew (t' := s.toks) (r.append r2) (by rw [List.length_append]; omega), rfl, q _ I.fresh⟩
/-- a list times an int (a negative one is nothing) -/
def rRep : R2 := fun x y H Q => ∃ l k xs, x = .ref l ∧ y = .int k ∧ H l = some (.lst xs) ∧ -(2 ^ 63) ≤ k ∧ k < 2 ^ 63 ∧ xs.length * k.toNat ≤ sizeLine ∧
  ∀ p, H p = none → Q (.ref p) (upd H p (.lst (List.replicate k.toNat xs).flatten))
theorem len_rep {α : Type} (xs : List α) (k : Nat) : (List.replicate k xs).flatten.length = k * xs.length := by
  induction k with
  | zero => simp
  | succ k ih => rw [List.replicate_succ, List.flatten_cons, List.length_append, ih, Nat.succ_mul, Nat.add_comm]
theorem op_rep : OpR X (binaryOp .Mult) rRep := by
  intro pins s σ H x y v u Q I rx ry h
  obtain ⟨l, k, xs, rfl, rfl, hH, h1, h2, hz, q⟩ := h
  cases rx
  obtain ⟨t, rfl⟩ := ry
  obtain ⟨z, its, n, r, hl, e⟩ := I.lstM hH
  have hlen : its.toArray.size * k.toNat ≤ sizeLine := by rw [List.size_toArray, ← hl]; exact hz
  have hcap : ¬ its.toArray.size * k.toNat > (2 ^ 63 - 1) / 8 := by
    have : (sizeLine : Nat) ≤ (2 ^ 63 - 1) / 8 := by decide
    omega
  have hfit : ¬ (!Builtin.List.listFitsIndex k) = true := by
    rw [fitsIndex_both h1 h2]
    exact Bool.false_ne_true
  have hlong : ¬ Builtin.List.listTooLong (its.toArray.size * k.toNat) = true := by
    rw [notLongL hlen]
    exact Bool.false_ne_true
  have hnew : List.foldl (fun x1 x2 => x1 ++ x2) #[] (List.replicate (if its.toArray.isEmpty = true then 0 else k.toNat) its.toArray) = (List.replicate k.toNat its).flatten.toArray := by
    have f0 : ∀ m : Nat, List.foldl (fun x1 x2 => x1 ++ x2) #[] (List.replicate m its.toArray) = (List.replicate m its).flatten.toArray := fun m => by
      have := foldl_rep its m []
      rw [List.nil_append] at this
      exact this
    rw [f0]
    cases its with
    | nil => simp
    | cons a r' => rw [if_neg (by simp)]
  refine wpAny_binaryOp_repeat_ref (T := "list") (U := "int") (by decide) ⟨_, e, rfl⟩ (fun s' => typeIs_int s' k t) noFill_list_mul F.fills_int_mul F.slot_int_rmul repeat_list F.slot_int_index.lookup
    (call_meets F.slot_int_rmul (typeIs_int s k t) F.entry_int_rmul (F.args_int_rmul_2 _ _) (int___rmul___int_list k t l its.toArray n)
      ⟨e, rfl, ⟨_, e, rfl⟩, call_meets F.slot_list_mul ⟨_, e, rfl⟩ F.entry_list_mul (F.args_list_mul_2 _ _) (AutoListH.list___mul___list_int_3 l its.toArray n k t hfit hcap hlong) ⟨e, ?_⟩⟩)
  rw [hnew]
  exact ⟨.ref _, _, I.lnew (t' := s.toks) (r.rep k.toNat) (by rw [len_rep, Nat.mul_comm]; exact hz), rfl, q _ I.fresh⟩
end
section
variable {prog : Program} {w : World} {A : Around} {E : Value → Shared → Prop} {s : Shared}
theorem splice_eq (its its2 : List Value) (a c : Nat) : its.toArray.extract 0 a ++ its2.toArray ++ its.toArray.extract c its.toArray.size = (its.take a ++ its2 ++ its.drop c).toArray := by
  apply Array.toList_inj.mp
  first
    | (simp
       exact List.take_of_length_le (by simp))
    | simp [List.take_of_length_le]
    | simp
theorem bounds_run {a c n : Nat} (hac : a ≤ c) (hc : c ≤ n) : sliceBounds (some (a : Int)) (some (c : Int)) none n = ((a : Int), (c : Int), 1) := by
  simp only [sliceBounds, Option.getD_none]
  have h1 : ¬ ((a : Int) < 0) := by omega
  have h2 : ¬ ((c : Int) < 0) := by omega
  simp only [h1, h2, if_false, show (1 : Int) > 0 by decide, if_true]
  congr 1
  · omega
  · congr 1; omega
set_option maxRecDepth 100000 in
/-- list.__setitem__ with a slice of step one and another list -/
theorem setItem_slice {l b sl : Addr} {items new : Array Value} {n n2 : Nat} {vl vu : Value} {a c : Nat} {Q : Unit → Shared → Prop}
    (e : s.heap.get? l = some { cls := .type "list", data := .seq items n }) (e2 : s.heap.get? b = some { cls := .type "list", data := .seq new n2 }) (hne : l ≠ b)
    (hs : s.heap.IsSliceOf sl vl vu .none) (pl : IsPart vl (some (a : Int))) (pu : IsPart vu (some (c : Int))) (hac : a ≤ c) (hc : c ≤ items.size)
    (hsz : items.size + new.size ≤ sizeLine) (h : Q () { s with heap := s.heap.update l (Obj.mapSeq fun xs => xs.extract 0 a ++ new ++ xs.extract c xs.size) }) :
    wpAny (model prog w) A (setItem (.ref l) (.ref sl) (.ref b)) Q E s := by
  have hl : s.heap.IsList l items := PySem.IsL.isList e
  have hb : s.heap.IsList b new := PySem.IsL.isList e2
  obtain ⟨os, hos, hcs, hds⟩ := id hs
  have hTs : s.TypeIs (.ref sl) "slice" := ⟨os, hos, hcs⟩
  have hstep : ¬ ((rawPart none == rawInt 0) = true) := Bool.false_ne_true
  have hsame : Builtin.List.listSameRef (.ref l) (.ref b) = false := by
    unfold Builtin.List.listSameRef
    exact beq_eq_false_iff_ne.mpr hne
  have hmax : (max (a : Int) (c : Int)).toNat = c := by omega
  have hz' : ((fun xs : Array Value => xs.extract 0 a ++ new ++ xs.extract c xs.size) items).size ≤ sizeLine + 1 := by
    simp only [Array.size_append, Array.size_extract]
    omega
  unfold setItem
  try with_reducible refine wpAny_holding ?_
  first | refine wpAny_bind (wpAny_pure ?_) | skip
  refine wpAny_bind (wpAny_sequenceKey hl.typeIs (by decide) ?_)
  refine wpAny_bind (wpAny_callSpecial?_slot (name := Str.ofString "__setitem__") hl.typeIs slot_list_setitem
    (wpAny_call_entry slot_list_setitem hl.typeIs entry_list_setitem ?_ (args_list_setitem _ _ _)))
  show wpAny _ _ (Builtin.List.listSubscript? (.ref sl) >>= _) _ _ s
  refine wpAny_bind ?_
  unfold Builtin.List.listSubscript?
  refine wpAny_bind (wpAny_specialOf hTs slice_no_index ?_)
  simp only [Option.isNone_none, if_true]
  refine wpAny_pure ?_
  show wpAny _ _ (typeOf (.ref sl) >>= _) _ _ s
  refine wpAny_bind (wpAny_typeOf hTs ?_)
  first
    | rw [if_neg (by decide)]
    | refine PySem.W.KFB.if_not (by decide) ?_
  rw [listSliceParts_eq]
  refine wpAny_bind (wpAny_bind (wpAny_field hos hds (x := .none) rfl (wpAny_bind (wpAny_listPart .none ?_))))
  rw [if_neg hstep]
  refine wpAny_bind (wpAny_field hos hds (x := vl) rfl (wpAny_bind (wpAny_listPart pl ?_)))
  refine wpAny_bind (wpAny_field hos hds (x := vu) rfl (wpAny_bind (wpAny_listPart pu (wpAny_pure ?_))))
  first
    | simp only [hsame, Bool.false_eq_true, if_false]
    | refine PySem.W.KFB.if_not hsame ?_
    | (dsimp only
       rw [if_neg (by rw [hsame]; exact Bool.false_ne_true)])
  refine wpAny_bind (m := Builtin.List.listAllItems (.ref b) "must assign iterable to extended slice") ?_
  unfold Builtin.List.listAllItems
  refine wpAny_bind (wpAny_typeOf hb.typeIs ?_)
  first
    | refine PySem.W.KFB.if_so (by decide) ?_
    | rw [if_pos (by decide)]
    | simp only [beq_self_eq_true, Bool.true_or, if_true]
  unfold Builtin.List.listItems
  refine wpAny_bind (wpAny_seqItems e2 rfl (wpAny_pure ?_))
  refine wpAny_bind (wpAny_bind (wpAny_seqItems e rfl (wpAny_pure ?_)))
  refine wpAny_bind (wpAny_of_eq ((sliceIndices_raw (some (a : Int)) (some (c : Int)) none items.size (by simp)).trans (congrArg (pure : Int × Int × Int → Sem (Int × Int × Int)) (bounds_run hac hc))) ?_)
  show wpAny _ _ (if ((1 : Int) == 1) = true then _ else _) _ _ s
  rw [if_pos (by decide)]
  refine wpAny_bind (wpAny_rule ?_)
  first
    | simp only [notLongL hsz, Bool.false_eq_true, if_false]
    | refine PySem.W.KFB.if_not (notLongL hsz) ?_
  first | refine wpAny_bind (wpAny_pure ?_) | skip
  show wpAny _ _ (updateSeq l (fun xs => xs.extract 0 ((a : Int)).toNat ++ new ++ xs.extract (max (a : Int) (c : Int)).toNat xs.size) >>= _) _ _ s
  rw [hmax, Int.toNat_natCast]
  refine wpAny_bind (wpAny_updateSeq (hz := Nat.le_trans (Nat.le_add_right _ _) hsz) (_hz' := hz') e rfl ?_)
  refine wpAny_bind (wpAny_letGo ?_)
  first
    | exact wpAny_bind (wpAny_pure (wpAny_pure ⟨.none, rfl, wpAny_pure h⟩))
    | exact wpAny_pure ⟨.none, rfl, wpAny_pure h⟩
end
section
variable {X : Cx}
/-- xs[a:c] = ys of another list, at the value level: sl is the slice object that was just made -/
theorem set_slice {pins : List (Addr × Obj)} {s : Shared} {σ : St} {H : Hp} {l b sl : Addr} {xs ys : List V} {a c : Int} {vl vu : Value} {Q : Unit → Shared → Prop} (I : Inv X pins σ H s)
    (hH : H l = some (.lst xs)) (hB : H b = some (.lst ys)) (hne : l ≠ b) (hs : s.heap.IsSliceOf sl vl vu .none) (ra : RelV (.int a) vl) (rc : RelV (.int c) vu) (h0 : 0 ≤ a) (hac : a ≤ c) (hc : c ≤ xs.length)
    (hz : xs.length + ys.length ≤ sizeLine) (h : ∀ s', Inv X pins σ (upd H l (.lst (xs.take a.toNat ++ ys ++ xs.drop c.toNat))) s' → Q () s') :
    wpAny (model X.prog X.w) X.A (setItem (.ref l) (.ref sl) (.ref b)) Q X.xe s := by
  obtain ⟨ta, rfl⟩ := ra
  obtain ⟨tc, rfl⟩ := rc
  obtain ⟨z, its, n, r, hl, e⟩ := I.lstM hH
  obtain ⟨z2, its2, n2, r2, hl2, e2⟩ := I.lstM hB
  obtain ⟨a', rfl⟩ := Int.eq_ofNat_of_zero_le h0
  obtain ⟨c', rfl⟩ := Int.eq_ofNat_of_zero_le (Int.le_trans h0 hac)
  simp only [Int.toNat_natCast] at h
  refine setItem_slice (a := a') (c := c') e e2 hne hs (.int _ _) (.int _ _) (by omega) (by rw [List.size_toArray]; omega) (by rw [List.size_toArray, List.size_toArray]; omega) (h _ ?_)
  refine I.lset (its' := its.take a' ++ its2 ++ its.drop c') (t' := s.toks) hH e ?_ (Vals.append (Vals.append (r.take _) r2) (r.drop _)) ?_
  · exact splice_eq its its2 a' c'
  · rw [List.length_append, List.length_append, List.length_take, List.length_drop]
    omega
end
end L2
namespace L2
open PySem PySem.Spec PyProof.Rows
theorem Vals.ints : ∀ {ns : List Int} {us : List Value}, Vals (ns.map V.int) us → IntsAre us ns
  | [], us, h => by
    rw [List.map_nil] at h
    cases h
    exact IntsAre.nil
  | n :: ns, us, h => by
    rw [List.map_cons] at h
    cases h with
    | cons r t =>
      obtain ⟨k, rfl⟩ := r
      exact IntsAre.cons n k (Vals.ints t)
theorem Vals.strs : ∀ {xs : List Str} {us : List Value}, Vals (xs.map V.str) us → StrsAre us xs
  | [], us, h => by
    rw [List.map_nil] at h
    cases h
    exact StrsAre.nil
  | x :: xs, us, h => by
    rw [List.map_cons] at h
    cases h with
    | cons r t =>
      obtain ⟨k, rfl⟩ := r
      exact StrsAre.cons x k (Vals.strs t)
theorem Vals.bls : ∀ {bs : List Bool} {us : List Value}, Vals (bs.map V.bl) us → us = bs.map Value.bool
  | [], us, h => by
    rw [List.map_nil] at h
    cases h
    rfl
  | b :: bs, us, h => by
    rw [List.map_cons] at h
    cases h with
    | cons r t =>
      cases r
      rw [Vals.bls t, List.map_cons]
theorem Vals.ref1 {a : Addr} {us : List Value} (r : Vals [V.ref a] us) : us = [Value.ref a] := by
  cases r with
  | cons r t =>
    cases t
    cases r
    rfl
section
variable {prog : Program} {w : World} {A : Around} {E : Value → Shared → Prop} {s : Shared} {l : Addr} {its : List Value} {ns : List Int} {Q : Value → Shared → Prop}
end
section
variable {X : Cx}
end
section
variable {X : Cx}
end
section
variable {X : Cx}
end
theorem iter_any {prog : Program} {w : World} {A : Around} {E : Value → Shared → Prop} {s : Shared} {l : Addr} {items : Array Value} {Q : Value → Shared → Prop} (hl : s.heap.IsList l items)
    (h : ∀ s₂ : Shared, s₂ = { s with heap := s.heap.push { cls := .type "list_iterator", data := .fields #[.ref l, .int 0 0] } } →
      (s₂.heap.IsListIter s.heap.objs.size l 0 ∧ s₂.heap.IsList l items) → l ≠ s.heap.objs.size → Q (.ref s.heap.objs.size) s₂) : wpAny (model prog w) A (pyIter (.ref l)) Q E s := by
  have hlt : l < s.heap.objs.size := by obtain ⟨_, e, _⟩ := hl; exact Heap.lt_size e
  exact wpAny_pyIter_list hl (h _ rfl ⟨⟨_, Heap.get?_push_size _ rfl, rfl, rfl⟩, hl.push _⟩ (Nat.ne_of_lt hlt))
theorem truth_bools {prog : Program} {w : World} {A : Around} {bs : List Bool} {its : List Value} (e : its = bs.map Value.bool) :
    TruthOf prog w A (fun i v => its.toArray[i]? = some v) (fun i => bs.getD i false) := fun i v s Q E hv hq => by
  have hv' : its[i]? = some v := by simpa using hv
  rw [e, List.getElem?_map] at hv'
  obtain ⟨b, hb, rfl⟩ := Option.map_eq_some_iff.mp hv'
  have hg : bs.getD i false = b := by rw [List.getD_eq_getElem?_getD, hb] <;> rfl
  have hq' : Q (bs.getD i false) s := hq
  rw [hg] at hq'
  exact wpAny_truthy_bool hq'
theorem all_range : ∀ bs : List Bool, (List.range bs.length).all (fun i => bs.getD i false) = bs.all id
  | [] => rfl
  | b :: bs => by
    rw [List.length_cons, List.range_succ_eq_map, List.all_cons, List.all_map, List.all_cons, ← all_range bs]
    all_goals rfl
section
variable {X : Cx}
def rAll (K : PySem.W.Frag) : List V → Hp → VK → Prop := fun vs H Q => ∃ (a : Addr) (bs : List Bool), vs = [V.ref a] ∧ SqL K H a (bs.map V.bl) ∧ Q (.bl (bs.all id)) H
theorem cr_all (hc : X.calm = true) : CallR X (.builtin "all") (rAll X.K) := by
  intro pins s σ H vs us Q I r h
  obtain ⟨a, bs, rfl, hs, q⟩ := h
  obtain ⟨its, rv, hl, _⟩ := I.list hs
  rw [Vals.ref1 r]
  have hb := rv.bls
  refine call_all_walk (iter_any hl.isList fun s₂ e2 st hne => ?_)
  subst e2
  refine ⟨_, _, _, _, _, _, _, rfl, Walks.list (A := X.A.in1) (I.ok.hd hc) _ a hne its.toArray, st, truth_bools hb, fun h' tk hk => ?_⟩
  refine ⟨.bl _, H, I.kept fun b o eo => hk b o (fun hmem => ?_) (Heap.get?_push_of_some _ eo), ?_, q⟩
  · rcases List.mem_cons.mp hmem with e1 | hmem
    · exact absurd (e1 ▸ Heap.lt_size eo) (Nat.lt_irrefl _)
    · cases hmem
  · show Value.bool _ = Value.bool _
    rw [← all_range, hb, List.size_toArray, List.length_map]
end
mutual
inductive Dp (K : PySem.W.Frag) (H : Hp) : V → PyData → Prop
  | non : Dp K H .non .none
  | bl (b : Bool) : Dp K H (.bl b) (.bool b)
  | int (i : Int) : Dp K H (.int i) (.int i)
  | str (x : Str) : Dp K H (.str x) (.str x)
  | lst {a : Addr} {xs : List V} {ds : List PyData} : SqL K H a xs → DpAll K H xs ds → Dp K H (.ref a) (.list ds)
  | tup {a : Addr} {xs : List V} {ds : List PyData} : SqT K H a xs → DpAll K H xs ds → Dp K H (.ref a) (.tuple ds)
inductive DpAll (K : PySem.W.Frag) (H : Hp) : List V → List PyData → Prop
  | nil : DpAll K H [] []
  | cons {v : V} {vs : List V} {d : PyData} {ds : List PyData} : Dp K H v d → DpAll K H vs ds → DpAll K H (v :: vs) (d :: ds)
end
section
variable {X : Cx} {pins : List (Addr × Obj)} {σ : St} {H : Hp} {s : Shared}
mutual
theorem Dp.reads (I : Inv X pins σ H s) : ∀ (d : PyData) (v : V) (u : Value), Dp X.K H v d → RelV v u → ∃ as, Reads s.heap u d as
  | .none, _, _, h, r => by
    cases h
    cases r
    exact ⟨_, Reads.none⟩
  | .bool b, _, _, h, r => by
    cases h
    cases r
    exact ⟨_, Reads.bool b⟩
  | .int i, _, _, h, r => by
    cases h
    obtain ⟨t, rfl⟩ := r
    exact ⟨_, Reads.int i t⟩
  | .str x, _, _, h, r => by
    cases h
    obtain ⟨t, rfl⟩ := r
    exact ⟨_, Reads.str x t⟩
  | .list ds, _, _, h, r => by
    cases h with
    | lst hs ha =>
      cases r
      obtain ⟨its, rv, ⟨o, n, ho, hc, _, hd⟩, _⟩ := I.list hs
      obtain ⟨as, hr⟩ := Dp.readsAll I ds _ its ha rv
      exact ⟨_, Reads.list ho hc hd hr⟩
  | .tuple ds, _, _, h, r => by
    cases h with
    | tup hs ha =>
      cases r
      obtain ⟨its, rv, ⟨o, ho, hc, n, hd⟩, _⟩ := I.tuple hs
      obtain ⟨as, hr⟩ := Dp.readsAll I ds _ its ha rv
      exact ⟨_, Reads.tuple ho hc hd hr⟩
  | .dict _, _, _, h, _ => by cases h
theorem Dp.readsAll (I : Inv X pins σ H s) : ∀ (ds : List PyData) (vs : List V) (us : List Value), DpAll X.K H vs ds → Vals vs us → ∃ as, ReadsAll s.heap us ds as
  | [], _, _, h, r => by
    cases h
    cases r
    exact ⟨_, ReadsAll.nil⟩
  | d :: ds, _, _, h, r => by
    cases h with
    | cons h1 h2 =>
      cases r with
      | cons r1 r2 =>
        obtain ⟨as, q1⟩ := Dp.reads I d _ _ h1 r1
        obtain ⟨bs, q2⟩ := Dp.readsAll I ds _ _ h2 r2
        exact ⟨_, ReadsAll.cons q1 q2⟩
end
end
section
variable {X : Cx}
def rNeD (K : PySem.W.Frag) : R2 := fun x y H Q => ∃ d e, Dp K H x d ∧ Dp K H y e ∧ SeqAt.shaped d = true ∧ SeqAt.shaped e = true ∧ Q (.bl (!PyData.eqv d e)) H
theorem op_neD (hu : X.A.units + 64 < cLine) : OpR X (compareOp .NotEq) (rNeD X.K) := by
  intro pins s σ H x y v u Q I rx ry h
  obtain ⟨d, e, hd, he, sd, se, q⟩ := h
  obtain ⟨as, r1⟩ := Dp.reads I d x v hd rx
  obtain ⟨bs, r2⟩ := Dp.reads I e y u he ry
  exact SeqAt.compareNe_shaped r1 r2 sd se hu ⟨.bl _, H, I, rfl, q⟩
end
end L2
namespace L2
open PySem PySem.Spec PyProof.Rows
abbrev CellAt (h : Heap) (c : Addr) (v : Option Value) : Prop := h.IsCell c v
def relS (scope sc : Scope) : Scope :=
  { scope with names := scope.names.map fun (n, k) => if (k == .free && sc.kind == .function && sc.names.lookup n == some .cell) then (n, .cell) else (n, k) }
def cloFrom (cells : List (Str × Addr)) : List (Str × NameKind) → List (Str × Addr) → List (Str × Addr)
  | [], acc => acc
  | (n, k) :: r, acc => if k == .free then cloFrom cells r ((n, (cells.lookup n).getD 0) :: acc) else cloFrom cells r acc
theorem closure_loop (env : Env) (f : Str × NameKind → List (Str × Addr) → Sem (ForInStep (List (Str × Addr))))
    (hf : ∀ n k c, f (n, k) c = if k == .free then (do let a ← cellOf env n; pure (.yield ((n, a) :: c))) else pure (.yield c)) :
    ∀ (names : List (Str × NameKind)) (acc : List (Str × Addr)), (∀ y ∈ names, y.2 = .free → ∃ c, env.cells.lookup y.1 = some c) → forIn names acc f = pure (cloFrom env.cells names acc)
  | [], acc, _ => by rw [List.forIn_nil]; rfl
  | (n, k) :: r, acc, h => by
    rw [List.forIn_cons, hf]
    have ih := fun acc => closure_loop env f hf r acc fun y hy => h y (List.mem_cons_of_mem _ hy)
    unfold cloFrom
    by_cases hk : (k == NameKind.free) = true
    · rw [if_pos hk, if_pos hk]
      obtain ⟨c, hc⟩ := h (n, k) List.mem_cons_self (by simpa using hk)
      have e : cellOf env n = pure c := by unfold cellOf; rw [hc]
      rw [e]
      have e2 : (env.cells.lookup n).getD 0 = c := by rw [hc]; rfl
      rw [e2]
      exact ih _
    · rw [if_neg hk, if_neg hk]
      exact ih _
theorem closure_ok {scope : Scope} {env : Env} (h : ∀ y ∈ scope.names, y.2 = .free → ∃ c, env.cells.lookup y.1 = some c) : closureFor scope env = pure (cloFrom env.cells scope.names []) := by
  simp only [closureFor]
  rw [closure_loop env _ (fun n k c => rfl) scope.names [] h]
  rfl
theorem mem_lookup {α : Type} : ∀ {l : List (Str × α)} {n : Str} {c : α}, (n, c) ∈ l → ∃ c', l.lookup n = some c'
  | (k, v) :: r, n, c, h => by
    rw [List.lookup_cons]
    cases hb : n == k with
    | true => exact ⟨_, rfl⟩
    | false =>
      rcases List.mem_cons.mp h with e | h
      · cases e; simp at hb
      · exact mem_lookup h
theorem cloFrom_mem {cells : List (Str × Addr)} : ∀ {names : List (Str × NameKind)} {acc : List (Str × Addr)} {n : Str} {c : Addr}, (n, c) ∈ cloFrom cells names acc → (n, c) ∈ acc ∨ ((n, .free) ∈ names ∧ c = (cells.lookup n).getD 0)
  | [], _, _, _, h => .inl h
  | (m, k) :: r, acc, n, c, h => by
    unfold cloFrom at h
    split at h
    · rename_i hk
      have hk : k = .free := by simpa using hk
      rcases cloFrom_mem h with h | ⟨h1, h2⟩
      · rcases List.mem_cons.mp h with e | h
        · cases e; exact .inr ⟨hk ▸ List.mem_cons_self, rfl⟩
        · exact .inl h
      · exact .inr ⟨List.mem_cons_of_mem _ h1, h2⟩
    · rcases cloFrom_mem h with h | ⟨h1, h2⟩
      · exact .inl h
      · exact .inr ⟨List.mem_cons_of_mem _ h1, h2⟩
theorem cloFrom_acc {cells : List (Str × Addr)} : ∀ {names : List (Str × NameKind)} {acc : List (Str × Addr)} {p : Str × Addr}, p ∈ acc → p ∈ cloFrom cells names acc
  | [], _, _, h => h
  | (m, k) :: r, acc, p, h => by
    unfold cloFrom
    split
    · exact cloFrom_acc (List.mem_cons_of_mem _ h)
    · exact cloFrom_acc h
theorem cloFrom_has {cells : List (Str × Addr)} : ∀ {names : List (Str × NameKind)} {acc : List (Str × Addr)} {n : Str}, (n, .free) ∈ names → (n, (cells.lookup n).getD 0) ∈ cloFrom cells names acc
  | (m, k) :: r, acc, n, h => by
    unfold cloFrom
    rcases List.mem_cons.mp h with e | h
    · cases e
      exact cloFrom_acc List.mem_cons_self
    · split
      · exact cloFrom_has h
      · exact cloFrom_has h
theorem cells_mem : ∀ {names : List (Str × NameKind)} {h : Heap} {acc : List (Str × Addr)} {x : Str} {c : Addr}, (x, c) ∈ cellsFrom h.objs.size names acc →
    (x, c) ∈ acc ∨ ((x, .cell) ∈ names ∧ h.objs.size ≤ c ∧ CellAt (pushCells h names) c none)
  | [], _, _, _, _, h => .inl h
  | (n, k) :: r, h, acc, x, c, hm => by
    unfold cellsFrom at hm
    unfold pushCells
    split at hm
    · rename_i hk
      rw [if_pos hk]
      have hk : k = .cell := by simpa using hk
      rw [← Heap.size_push h { cls := .type "cell", data := .cell none }] at hm
      rcases cells_mem hm with hm | ⟨h1, h2, h3⟩
      · rcases List.mem_cons.mp hm with e | hm
        · cases e
          exact .inr ⟨hk ▸ List.mem_cons_self, Nat.le_refl _, _, pushCells_keeps r _ _ _ (Heap.get?_push_size _ rfl), rfl⟩
        · exact .inl hm
      · rw [Heap.size_push] at h2
        exact .inr ⟨List.mem_cons_of_mem _ h1, Nat.le_of_succ_le h2, h3⟩
    · rename_i hk
      rw [if_neg hk]
      rcases cells_mem hm with hm | ⟨h1, h2, h3⟩
      · exact .inl hm
      · exact .inr ⟨List.mem_cons_of_mem _ h1, h2, h3⟩
theorem cells_acc : ∀ {names : List (Str × NameKind)} {n : Nat} {acc : List (Str × Addr)} {p : Str × Addr}, p ∈ acc → p ∈ cellsFrom n names acc
  | [], _, _, _, h => h
  | (m, k) :: r, n, acc, p, h => by
    unfold cellsFrom
    split
    · exact cells_acc (List.mem_cons_of_mem _ h)
    · exact cells_acc h
theorem cells_has : ∀ {names : List (Str × NameKind)} {n : Nat} {acc : List (Str × Addr)} {x : Str}, (x, .cell) ∈ names → ∃ c, (x, c) ∈ cellsFrom n names acc
  | (m, k) :: r, n, acc, x, h => by
    unfold cellsFrom
    rcases List.mem_cons.mp h with e | h
    · cases e
      exact ⟨n, cells_acc List.mem_cons_self⟩
    · split
      · exact cells_has h
      · exact cells_has h
theorem cells_inj : ∀ {names : List (Str × NameKind)} {h : Heap} {acc : List (Str × Addr)} {x y : Str} {c : Addr}, (∀ p ∈ acc, p.2 < h.objs.size) → (∀ x y c, (x, c) ∈ acc → (y, c) ∈ acc → x = y) →
    (x, c) ∈ cellsFrom h.objs.size names acc → (y, c) ∈ cellsFrom h.objs.size names acc → x = y
  | [], _, _, _, _, _, _, hi, h1, h2 => hi _ _ _ h1 h2
  | (n, k) :: r, h, acc, x, y, c, hl, hi, h1, h2 => by
    unfold cellsFrom at h1 h2
    split at h1
    · rename_i hk
      rw [if_pos hk] at h2
      rw [← Heap.size_push h { cls := .type "cell", data := .cell none }] at h1 h2
      refine cells_inj (h := h.push _) (fun p hp => ?_) (fun x y c a b => ?_) h1 h2
      · rw [Heap.size_push]
        rcases List.mem_cons.mp hp with rfl | hp
        · exact Nat.lt_succ_self _
        · exact Nat.lt_succ_of_lt (hl p hp)
      · rcases List.mem_cons.mp a with e | a <;> rcases List.mem_cons.mp b with e' | b
        · cases e; cases e'; rfl
        · cases e; exact absurd (hl _ b) (Nat.lt_irrefl _)
        · cases e'; exact absurd (hl _ a) (Nat.lt_irrefl _)
        · exact hi _ _ _ a b
    · rename_i hk
      rw [if_neg hk] at h2
      exact cells_inj hl hi h1 h2
theorem newEnv_comp {M : Model} {A : Around} {E : Value → Shared → Prop} {s : Shared} {scope : Scope} {globals : Addr} {closure : List (Str × Addr)} {qual : Str} {func : Option Addr} {code : Value} {around : Env} {builtins : Addr} {Q : Env → Shared → Prop}
    (h : Q (newEnv scope s.heap.objs.size globals (cellsFrom (s.heap.objs.size + 1) scope.names closure) qual func code (some around) builtins)
      { s with heap := pushCells (s.heap.push { cls := .type "dict", data := .dict #[] }) scope.names }) :
    wpAny M A (newFunctionEnv scope globals closure [] qual func code (some around) builtins) Q E s := by
  simp only [newFunctionEnv, Option.isSome_some, if_true]
  refine wpAny_bind (wpAny_alloc ?_)
  refine wpAny_bind (wpAny_layCells _ (fun n k c => rfl) scope.names closure _ _ ?_)
  rw [show ({ s with heap := s.heap.push { cls := .type "dict", data := .dict #[] } } : Shared).heap.objs.size = s.heap.objs.size + 1 from Heap.size_push ..]
  rw [List.forIn_nil]
  exact wpAny_bind (wpAny_pure (wpAny_pure h))
/-- every name of the written scope, in the scope that runs -/
theorem lookup_relS {sc : Scope} : ∀ {names : List (Str × NameKind)} {x : Str} {k : NameKind},
    (names.map fun (n, k) => if (k == NameKind.free && sc.kind == .function && sc.names.lookup n == some .cell) then (n, NameKind.cell) else (n, k)).lookup x = some k →
    ∃ k', names.lookup x = some k' ∧ (k = k' ∨ (k' = .free ∧ k = .cell))
  | [], _, _, h => by simp at h
  | (n, k₀) :: r, x, k, h => by
    have ih := @lookup_relS sc r x k
    have h' : List.lookup x ((if (k₀ == NameKind.free && sc.kind == .function && sc.names.lookup n == some .cell) = true then (n, NameKind.cell) else (n, k₀)) :: (r.map _)) = some k := h
    cases hx : x == n with
    | true =>
      simp only [List.lookup_cons, hx]
      by_cases hc : (k₀ == NameKind.free && sc.kind == .function && sc.names.lookup n == some .cell) = true
      · rw [if_pos hc] at h'
        simp only [List.lookup_cons, hx] at h'
        cases h'
        simp only [Bool.and_eq_true, beq_iff_eq] at hc
        exact ⟨k₀, rfl, .inr ⟨hc.1.1, rfl⟩⟩
      · rw [if_neg hc] at h'
        simp only [List.lookup_cons, hx] at h'
        cases h'
        exact ⟨_, rfl, .inl rfl⟩
    | false =>
      simp only [List.lookup_cons, hx]
      by_cases hc : (k₀ == NameKind.free && sc.kind == .function && sc.names.lookup n == some .cell) = true
      · rw [if_pos hc] at h'
        simp only [List.lookup_cons, hx] at h'
        exact ih h'
      · rw [if_neg hc] at h'
        simp only [List.lookup_cons, hx] at h'
        exact ih h'
/-- the names of a comprehension's block: its own (with their places in N), or captured -/
structure BlkOk (N : List Str) (sc scope : Scope) (own : List (Str × Nat)) : Prop where
  kind : scope.kind = .function
  uniq : ∀ y ∈ scope.names, scope.names.lookup y.1 = some y.2
  ix : ∀ p ∈ own, N[p.2]? = some p.1
  free : ∀ y ∈ scope.names, y.2 = .free → sc.names.lookup y.1 = some .cell ∨ sc.names.lookup y.1 = some .free
  own : ∀ y ∈ scope.names, y.2 = .local ∨ y.2 = .cell → y.1 ∈ own.map (·.1) ∨ y.1 ∉ N
/-- the slots of the block's own names forgotten -/
def wipe (σ : St) : List Nat → St
  | [] => σ
  | v :: vs => (wipe σ vs).set v none
theorem wipe_length (σ : St) : ∀ vs : List Nat, (wipe σ vs).length = σ.length
  | [] => rfl
  | v :: vs => by unfold wipe; rw [List.length_set, wipe_length σ vs]
theorem wipe_some {σ : St} {i : Nat} {x : V} : ∀ {vs : List Nat}, (wipe σ vs)[i]? = some (some x) → σ[i]? = some (some x) ∧ i ∉ vs
  | [], h => ⟨h, by simp⟩
  | v :: vs, h => by
    unfold wipe at h
    by_cases hi : v = i
    · subst hi
      by_cases hv : v < (wipe σ vs).length
      · rw [List.getElem?_set_self hv] at h; cases h
      · rw [List.getElem?_eq_none (by simpa using hv)] at h; cases h
    · rw [List.getElem?_set_ne hi] at h
      obtain ⟨h1, h2⟩ := wipe_some h
      exact ⟨h1, by simp only [List.mem_cons, not_or]; exact ⟨fun e => hi e.symm, h2⟩⟩
/-- the context of a block that starts at s, its iterator's objects at fp -/
abbrev Cx.blk (X : Cx) (s : Shared) (H : Hp) (scope : Scope) (cenv : Env) (fp : List Addr) : Cx := { X with s_0 := s, H_0 := H, env := cenv, outer := X.stack, ex := fp, fn := fun x => scope.names.lookup x == some .cell, pn := [], xe := fun _ _ => False }
section
variable {X : Cx} {pins : List (Addr × Obj)} {σ : St} {H : Hp} {s : Shared}
theorem block_start {scope : Scope} {own : List (Str × Nat)} {fp : List Addr} (I : Inv X pins σ H s) (ok : BlkOk X.N X.env.scope scope own) (hN : X.N.Nodup) (hfp : ∀ b ∈ fp, FpOk X pins H b ∧ b < s.heap.objs.size) :
    Inv (X.blk s H scope (compEnvC scope (cellsFrom (s.heap.objs.size + 1) scope.names (cloFrom X.env.cells scope.names [])) s.heap.objs.size X.env) fp) [] (wipe σ (own.map (·.2))) H { s with heap := pushCells (s.heap.push { cls := .type "dict", data := .dict #[] }) scope.names } := by
  have hfree : ∀ y ∈ scope.names, y.2 = .free → ∃ c, X.env.cells.lookup y.1 = some c := fun y hy e => by
    rcases ok.free y hy e with k | k
    · exact I.ok.has _ (.inl k)
    · exact I.ok.has _ (.inr k)
  generalize hcenv : compEnvC scope (cellsFrom (s.heap.objs.size + 1) scope.names (cloFrom X.env.cells scope.names [])) s.heap.objs.size X.env = cenv
  have kp : ∀ b o, s.heap.get? b = some o → (pushCells (s.heap.push { cls := .type "dict", data := .dict #[] }) scope.names).get? b = some o := fun b o e => pushCells_keeps _ _ _ _ (Heap.get?_push_of_some _ e)
  have hL : cenv.locals = s.heap.objs.size := by rw [← hcenv]; rfl
  have hcl : cenv.cells = cellsFrom (s.heap.objs.size + 1) scope.names (cloFrom X.env.cells scope.names []) := by rw [← hcenv]; rfl
  have hsc : cenv.scope = relS scope X.env.scope := by rw [← hcenv]; rfl
  rw [← Heap.size_push s.heap { cls := .type "dict", data := .dict #[] }] at hcl
  have cm : ∀ {y c}, (y, c) ∈ cloFrom X.env.cells scope.names [] → X.env.cells.lookup y = some c ∧ c < s.heap.objs.size := fun {y c} hm => by
    rcases cloFrom_mem hm with hm | ⟨h1, rfl⟩
    · cases hm
    · obtain ⟨c, hc⟩ := hfree _ h1 rfl
      rw [hc]
      obtain ⟨w, z⟩ := I.cell _ _ hc
      exact ⟨rfl, z.lt⟩
  have mem : ∀ {y c}, cenv.cells.lookup y = some c → (X.env.cells.lookup y = some c ∧ c < s.heap.objs.size) ∨ (s.heap.objs.size + 1 ≤ c ∧ CellAt (pushCells (s.heap.push { cls := .type "dict", data := .dict #[] }) scope.names) c none) := fun {y c} e => by
    rw [hcl] at e
    rcases cells_mem (PySem.mem_of_lookup e) with hm | ⟨_, h2, h3⟩
    · exact .inl (cm hm)
    · rw [Heap.size_push] at h2; exact .inr ⟨h2, h3⟩
  have look : ∀ {y}, scope.names.lookup y = some .free → ∃ c, cenv.cells.lookup y = some c ∧ X.env.cells.lookup y = some c := fun {y} hl => by
    have hy : (y, NameKind.free) ∈ scope.names := PySem.mem_of_lookup hl
    obtain ⟨c', e'⟩ := mem_lookup (cells_acc (names := scope.names) (n := (s.heap.push { cls := .type "dict", data := .dict #[] }).objs.size) (cloFrom_has (cells := X.env.cells) (acc := []) hy))
    rw [← hcl] at e'
    refine ⟨c', e', ?_⟩
    rw [hcl] at e'
    rcases cells_mem (PySem.mem_of_lookup e') with hm | ⟨h1, _, _⟩
    · exact (cm hm).1
    · have := ok.uniq _ h1
      rw [hl] at this; cases this
  have okB : (X.blk s H scope cenv fp).Ok := by
    refine ⟨I.ok.mod, by show cenv.scope.kind = _; rw [hsc]; exact ok.kind, by show cenv.globals = _; rw [← hcenv]; exact I.ok.glob, by show cenv.builtins = _; rw [← hcenv]; exact I.ok.blt, by show s.heap.objs.size ≤ cenv.locals; rw [hL]; exact Nat.le_refl _,
      fun y z c e1 e2 => ?_, fun y hy => ?_, fun y c z e => ?_, I.ok.hd, I.ok.frames, .inl rfl, fun b hb => ⟨?_, fun y c e z => ?_⟩, I.bs, Nat.le_trans I.ok.bsz I.sz, fun b o e hb => ?_, fun b hb z => ?_, I.stack, I.stkFree⟩
    · have e1 : cenv.cells.lookup y = some c := e1
      have e2 : cenv.cells.lookup z = some c := e2
      rw [hcl] at e1 e2
      refine cells_inj (fun p hp => ?_) (fun y z c a b => I.ok.inj y z c (cm a).1 (cm b).1) (PySem.mem_of_lookup e1) (PySem.mem_of_lookup e2)
      rw [Heap.size_push]
      exact Nat.lt_succ_of_lt (cm (y := p.1) (c := p.2) hp).2
    · show ∃ c, cenv.cells.lookup y = some c
      have key : ∀ k, cenv.kindOf y = some k → (k = .cell ∨ k = .free) → ∃ c, cenv.cells.lookup y = some c := fun k hk hk' => by
        unfold Env.kindOf at hk
        rw [hsc] at hk
        obtain ⟨k', e, r⟩ := lookup_relS hk
        have : k' = .cell ∨ k' = .free := by
          rcases r with rfl | ⟨rfl, _⟩
          · exact hk'
          · exact .inr rfl
        rcases this with rfl | rfl
        · obtain ⟨c, hm⟩ := cells_has (n := (s.heap.push { cls := .type "dict", data := .dict #[] }).objs.size) (acc := cloFrom X.env.cells scope.names []) (PySem.mem_of_lookup e)
          obtain ⟨c', e'⟩ := mem_lookup hm
          exact ⟨c', by rw [hcl]; exact e'⟩
        · obtain ⟨c, h1, _⟩ := look e
          exact ⟨c, h1⟩
      rcases hy with hy | hy
      · exact key _ hy (.inl rfl)
      · exact key _ hy (.inr rfl)
    · have z : (scope.names.lookup y == some NameKind.cell) = true := z
      have z : scope.names.lookup y = some .cell := by simpa using z
      have e : cenv.cells.lookup y = some c := e
      rw [hcl] at e
      rcases cells_mem (PySem.mem_of_lookup e) with hm | ⟨_, h2, _⟩
      · rcases cloFrom_mem hm with hm | ⟨h1, _⟩
        · cases hm
        · have q := ok.uniq _ h1
          rw [z] at q; cases q
      · rw [Heap.size_push] at h2
        exact Nat.le_of_succ_le h2
    · show b ≠ cenv.locals
      rw [hL]; exact Nat.ne_of_lt (hfp b hb).2
    · have e : cenv.cells.lookup y = some c := e
      rcases mem e with ⟨h1, _⟩ | ⟨h1, _⟩
      · exact (hfp b hb).1.2.2.2.2.1 y c h1 z
      · have h2 : s.heap.objs.size + 1 ≤ b := by rw [← z]; exact h1
        exact absurd (Nat.lt_of_lt_of_le (hfp b hb).2 (Nat.le_of_succ_le h2)) (Nat.lt_irrefl _)
    · rcases (hfp b hb).1.2.2.2.1 with z | z
      · exact I.ok.noex b o e z
      · exact absurd (Nat.lt_of_lt_of_le (Heap.lt_size e) (Nat.le_trans I.ok.bsz z)) (Nat.lt_irrefl _)
    · rcases List.mem_cons.mp (I.stkSub b z) with z | z
      · exact (hfp b hb).1.2.1 z
      · exact (hfp b hb).1.2.2.1 z
  refine ⟨okB, rfl, I.bare.self, Un.kept kp, ⟨fun _ => none, ?_, fun i y av e1 e2 e3 => ?_⟩, fun y c e => ?_, ?_, fun y c e => ?_, fun p hp => ?_, I.hok.kept kp, by rw [wipe_length]; exact I.len⟩
  · show Heap.Ns _ cenv.locals _
    rw [hL]
    exact Heap.Ns.keeps (Heap.Ns.new ..) fun b o e => pushCells_keeps _ _ _ _ e
  · obtain ⟨e2, hne⟩ := wipe_some e2
    have hfr : scope.names.lookup y = some .free ∧ (cenv.kindOf y = some .cell ∨ cenv.kindOf y = some .free) := by
      have key : ∀ k, cenv.scope.names.lookup y = some k → k = .local ∨ k = .cell ∨ k = .free → scope.names.lookup y = some .free ∧ (cenv.kindOf y = some .cell ∨ cenv.kindOf y = some .free) := fun k hk hk' => by
        have hk0 := hk
        rw [hsc] at hk
        obtain ⟨k', e, r⟩ := lookup_relS hk
        have no : ¬ (k' = .local ∨ k' = .cell) := fun hh => by
          rcases ok.own _ (PySem.mem_of_lookup e) hh with e' | e'
          · obtain ⟨p, hp, hpy⟩ := List.mem_map.mp e'
            have e3 := ok.ix p hp
            have : p.1 = y := hpy
            rw [this] at e3
            exact hne (List.mem_map.mpr ⟨p, hp, nodup_ix hN e3 e1⟩)
          · exact e' (List.mem_of_getElem? e1)
        rcases r with rfl | ⟨rfl, rfl⟩
        · rcases hk' with rfl | rfl | rfl
          · exact absurd (.inl rfl) no
          · exact absurd (.inr rfl) no
          · exact ⟨e, .inr hk0⟩
        · exact ⟨e, .inl hk0⟩
      have e3 : Vis cenv.scope y := e3
      rcases e3 with e3 | e3 | e3
      · exact key _ e3 (.inl rfl)
      · exact key _ e3 (.inr (.inl rfl))
      · exact key _ e3 (.inr (.inr rfl))
    obtain ⟨m, hn, hl⟩ := I.loc
    have hvis : Vis X.env.scope y := (ok.free _ (PySem.mem_of_lookup hfr.1) rfl).elim (fun k => .inr (.inl k)) (fun k => .inr (.inr k))
    obtain ⟨w, r, q⟩ := hl i y av e1 e2 hvis
    refine ⟨w, r, .inr ⟨hfr.2, ?_⟩⟩
    obtain ⟨c, h1, h2⟩ := look hfr.1
    rcases q with ⟨k, _⟩ | ⟨_, c', e', z⟩
    · have k : X.env.scope.names.lookup y = some .local := k
      rcases ok.free _ (PySem.mem_of_lookup hfr.1) rfl with k' | k' <;> rw [show X.env.scope.names.lookup y = _ from k'] at k <;> cases k
    · rw [h2] at e'; cases e'
      exact ⟨c, h1, z.keeps kp⟩
  · have e : cenv.cells.lookup y = some c := e
    rcases mem e with ⟨h1, _⟩ | ⟨_, z⟩
    · obtain ⟨w, z⟩ := I.cell y c h1
      exact ⟨w, z.keeps kp⟩
    · exact ⟨_, z⟩
  · show H cenv.locals = none
    rw [hL]; exact I.hok.fresh (Nat.le_refl _)
  · have e : cenv.cells.lookup y = some c := e
    rcases mem e with ⟨h1, _⟩ | ⟨h1, _⟩
    · exact I.freeC y c h1
    · exact I.hok.fresh (Nat.le_of_succ_le h1)
  · exact absurd (show p ∈ ([] : List (Addr × Obj)) ++ [] from hp) (by simp)
/-- an item appended to a tracked list -/
theorem app_ok {E : Value → Shared → Prop} {D : Addr} {xs : List V} {y : V} {v : Value} {Q : Value → Shared → Prop} (I : Inv X pins σ H s) (hD : H D = some (.lst xs)) (hz : xs.length < sizeLine) (r : RelV y v)
    (h : ∀ s', Inv X pins σ (upd H D (.lst (xs ++ [y]))) s' → Q .none s') : wpAny (model X.prog X.w) X.A (call (.builtin "list.append") [.ref D, v]) Q E s := by
  obtain ⟨hz', its, n, ri, e⟩ := I.hok D _ hD
  have hl := ri.length
  refine append_at (hsz := by rw [List.size_toArray]; omega) e fun h' sb ho' => ?_
  refine h { s with heap := h' } (I.write (t' := s.toks) (by rw [hD]; trivial) (.inl rfl) (fun b u hb q => (sb.2 b hb).trans q) ⟨_, ho'⟩ ⟨by rw [List.length_append]; exact hz, its ++ [v], n + 1, ri.append (.cons r .nil), ?_⟩)
  rw [ho']
  simp
/-- a clause's tests -/
def PTs (X : Cx) (ifs : List Expr) (t : TT) : Prop :=
  ∀ ⦃pins : List (Addr × Obj)⦄ (s : Shared) (σ : St) (H : Hp) (Q : Bool → Hp → Prop), Inv X pins σ H s → t σ H Q →
    wpAny (model X.prog X.w) X.A (forIn ifs true fun c r => if r = true then do let ok ← isTrue c X.env (eval c X.env); pure (ForInStep.yield ok) else pure (ForInStep.yield r)) (TP X pins σ Q) X.xe s
def tYes : TT := fun _ H Q => Q true H
theorem pts_nil : PTs X [] tYes := fun _ _ _ H _ I h => wpAny_tests_nil ⟨H, I, h⟩
theorem pts_one {c : Expr} {t : TT} (h : PT X c t) : PTs X [c] t := fun pins s σ H Q I hw => wpAny_tests_one (h s σ H Q I hw)
end
theorem thnF {α : Type} {t : Sem α} {Q Q' : α → Shared → Prop} {M : Model} {A : Around} {E : Value → Shared → Prop} {s : Shared} (h : wpAny M A t Q (fun _ _ => False) s) (hQ : ∀ a s, Q a s → Q' a s) : wpAny M A t Q' E s := wpAny_mono h hQ fun _ _ z => False.elim z
/-- the loop of a list comprehension's block, the target of any form (codeAny_compLoop_tests asks a target that no tuple goes to; statement and proof follow it, PyProof/CompMap.lean:41-61, with the step letOwnedTupleGo kept) -/
theorem compLoop_any {prog : Program} {w : World} {A : Around} {R : Result → Shared → Prop} {s : Shared} {elt target iter : Expr} {ifs : List Expr} {scope : Scope} {pos : Pos} {it acc : Value} {env : Env} (I : Nat → Shared → Prop)
    (turn : ∀ n s, I n s → wpAny (model prog w) A (pyNext it) (fun r s₁ => match r with
      | none => R (.ok .next) s₁
      | some v => wpAny (model prog w) A (letOwnedTupleGo target it v) (fun _ s₁' => wpAny (model prog w) A (assign target env v) (fun _ s₂ =>
          wpAny (model prog w) A (forIn ifs true fun c r => if r = true then do let ok ← isTrue c env (eval c env); pure (ForInStep.yield ok) else pure (ForInStep.yield r)) (fun ok s₃ =>
            if ok = true then wpAny (model prog w) A (eval elt env) (fun x s₄ =>
              wpAny (model prog w) A (call (.builtin "list.append") [acc, x]) (fun _ s₅ => ∃ m, m < n ∧ I m s₅) (notedBy (model prog w) A env fun e s' => R (.error e) s') s₄) (notedBy (model prog w) A env fun e s' => R (.error e) s') s₃
            else ∃ m, m < n ∧ I m s₃) (notedBy (model prog w) A env fun e s' => R (.error e) s') s₂) (notedBy (model prog w) A env fun e s' => R (.error e) s') s₁') (notedBy (model prog w) A env fun e s' => R (.error e) s') s₁) (notedBy (model prog w) A env fun e s' => R (.error e) s') s)
    (n : Nat) (h : I n s) :
    codeAny (model prog w) A (.compLoop (.ListComp elt [⟨target, iter, ifs, 0⟩] scope pos) 0 it acc env) R s := by
  refine codeAny_loop rfl I (fun n s hI => ?_) n h
  show wpAny _ A ((compTurn (.ListComp elt [⟨target, iter, ifs, 0⟩] scope pos) 0 it acc env).onRaise (fun x => do noteFrame x env; theTreesLotGoes x)) _ _ s
  refine wpAny_noted ?_
  rw [compTurn_list]
  refine wpAny_bind (wpAny_standAt (wpAny_bind (wpAny_mono (turn n s hI) (fun r s₁ h₁ => ?_) fun _ _ h' => h')))
  cases r with
  | none => exact wpAny_pure h₁
  | some v =>
    refine wpAny_bind (wpAny_mono h₁ (fun _ s₁' h₁' => ?_) fun _ _ h' => h')
    refine wpAny_bind (wpAny_mono h₁' (fun _ s₂ h₂ => wpAny_bind (wpAny_mono h₂ (fun ok s₃ h₃ => ?_) fun _ _ h' => h')) fun _ _ h' => h')
    cases ok with
    | false => exact wpAny_pure ⟨rfl, h₃⟩
    | true =>
      exact wpAny_bind (wpAny_bind (wpAny_mono h₃ (fun x s₄ h₄ => wpAny_bind (wpAny_mono h₄ (fun _ s₅ h₅ => wpAny_pure (wpAny_pure ⟨rfl, h₅⟩)) fun _ _ h' => h')) fun _ _ h' => h'))
section
variable {X : Cx}
/-- [elt for target in iter if ..]: D the new list; W by the turn and a measure, Nx what a turn is to reach -/
def tLc (wi : TI) (g : TG) (tt : TT) (te : TE) (vs : List Nat) : TE := fun σ H Q => wi σ H fun J H1 => ∀ D, H1 D = none → ∃ W : Nat → Nat → Hp → Prop, (∃ m, W 0 m (upd H1 D (.lst []))) ∧ ∀ i m H, W i m H →
  (J.stop i H ∧ Q (.ref D) H) ∨ (J.go i H ∧ ∃ Nx : Hp → Prop, (∀ H', Nx H' → ∃ m', m' < m ∧ W (i + 1) m' H') ∧ ∀ x H', J.yld i H x H' → g x (wipe σ vs) H' fun σ2 H2 => wipe σ2 vs = wipe σ vs ∧ tt σ2 H2 fun b H3 =>
    if b = true then te σ2 H3 fun y H4 => ∃ acc, H4 D = some (.lst acc) ∧ acc.length < sizeLine ∧ Nx (upd H4 D (.lst (acc ++ [y]))) else Nx H3)
theorem lc_core {pins : List (Addr × Obj)} {s : Shared} {σ : St} {H : Hp} {Q : VK} {elt tg iter : Expr} {ifs : List Expr} {scope : Scope} {own : List (Str × Nat)} {pos pos' : Pos} {wi : TI} {g : TG} {tt : TT} {te : TE} {use : Option (Value → Sem Unit)} {Qf : Value → Shared → Prop}
    (hc : X.calm = true) (hN : X.N.Nodup) (I : Inv X pins σ H s) (hi : PI X tg iter wi) (ok : BlkOk X.N X.env.scope scope own)
    (hg : ∀ (s : Shared) (H : Hp) (C : Addr) (cl : List (Str × Addr)) (fp : List Addr), PG (X.blk s H scope (compEnvC scope cl C X.env) fp) tg g) (ht : ∀ (s : Shared) (H : Hp) (C : Addr) (cl : List (Str × Addr)) (fp : List Addr), PTs (X.blk s H scope (compEnvC scope cl C X.env) fp) ifs tt)
    (he : ∀ (s : Shared) (H : Hp) (C : Addr) (cl : List (Str × Addr)) (fp : List Addr), PE (X.blk s H scope (compEnvC scope cl C X.env) fp) elt te) (hs : ∀ x, foldedSetIterable iter X.env x = pure x)
    (h : tLc wi g tt te (own.map (·.2)) σ H Q)
    (hRR : ∀ D C s' m H', Inv X pins σ H' s' → Q (.ref D) H' → s'.heap.Ns C m → FpOk X pins H' C → compPost (model X.prog X.w) X.A X.xe use Qf (.ref D) C (.ok .next) s') :
    wpAny (model X.prog X.w) X.A (comprehension (.ListComp elt [⟨tg, iter, ifs, 0⟩] scope pos) scope X.env pos' (newList []) false (eval iter X.env) use) Qf X.xe s := by
  have hfree : ∀ y ∈ scope.names, y.2 = .free → ∃ c, X.env.cells.lookup y.1 = some c := fun y hy e => by
    rcases ok.free y hy e with k | k
    · exact I.ok.has _ (.inl k)
    · exact I.ok.has _ (.inr k)
  refine wpAny_comprehension_free (use := use) rfl hs (closure_ok hfree) ok.kind (fun y hy e => by rw [ok.uniq y hy, e])
    (thn (hi s σ H _ I h) fun xv s1 hx => thn hx fun itv s2 h2 => ?_)
  obtain ⟨it, fp, tn, J, H2, e, I2, T, st2, f2, q⟩ := h2
  subst e
  refine wpAny_newObj_type (newEnv_comp ?_) (by show 0 ≤ sizeLine; decide)
  generalize hD : s2.heap.objs.size = D
  have hDn : H2 D = none := I2.hok.fresh (Nat.le_of_eq hD)
  obtain ⟨W, ⟨m0, w0⟩, turn⟩ := q D hDn
  -- the new list
  generalize hs3 : ({ s2 with heap := s2.heap.push { cls := .type "list", data := .seq ([] : List Value).toArray } } : Shared) = s3
  have I3 : Inv X pins σ (upd H2 D (.lst [])) s3 := by
    rw [← hs3]
    refine I2.laid (t' := s2.toks) (fun b o e => Heap.get?_push_of_some _ e) (Nat.le_of_eq hD) ⟨Nat.zero_le _, [], 0, .nil, ?_⟩
    rw [← hD]
    exact Heap.get?_push_size _ rfl
  have h3 : s3.heap = s2.heap.push { cls := .type "list", data := .seq ([] : List Value).toArray } := by rw [← hs3]
  have sz : ∀ b ∈ fp, b < s2.heap.objs.size := fun b hb => by
    obtain ⟨o, e, _⟩ := T.obj _ _ st2 b hb
    exact Heap.lt_size e
  have f3 : ∀ b ∈ fp, FpOk X pins (upd H2 D (.lst [])) b ∧ b < s3.heap.objs.size := fun b hb => by
    have hlt := sz b hb
    refine ⟨⟨?_, (f2 b hb).2⟩, by rw [h3, Heap.size_push]; exact Nat.lt_succ_of_lt hlt⟩
    rw [upd_ne (by rw [← hD]; exact Nat.ne_of_lt hlt)]
    exact (f2 b hb).1
  have st3 : tn 0 s3.heap := T.keep _ _ _ st2 fun b _ o e => by rw [h3]; exact Heap.get?_push_of_some _ e
  have I4 := block_start I3 ok hN f3
  have pg := hg s3 (upd H2 D (.lst [])) s3.heap.objs.size (cellsFrom (s3.heap.objs.size + 1) scope.names (cloFrom X.env.cells scope.names [])) fp
  have pt := ht s3 (upd H2 D (.lst [])) s3.heap.objs.size (cellsFrom (s3.heap.objs.size + 1) scope.names (cloFrom X.env.cells scope.names [])) fp
  have pe := he s3 (upd H2 D (.lst [])) s3.heap.objs.size (cellsFrom (s3.heap.objs.size + 1) scope.names (cloFrom X.env.cells scope.names [])) fp
  show codeAny _ _ (.compStart (.ListComp elt [⟨tg, iter, ifs, 0⟩] scope pos) 0 (.ref it) (.ref D) (compEnvC scope (cellsFrom (s3.heap.objs.size + 1) scope.names (cloFrom X.env.cells scope.names [])) s3.heap.objs.size X.env)) (compPost (model X.prog X.w) X.A X.xe use Qf (.ref D) s3.heap.objs.size) { s3 with heap := pushCells (s3.heap.push { cls := .type "dict", data := .dict #[] }) scope.names }
  have nfp : ∀ b ∈ fp, (upd H2 D (.lst [])) b = none := fun b hb => (f3 b hb).1.1
  generalize hce : compEnvC scope (cellsFrom (s3.heap.objs.size + 1) scope.names (cloFrom X.env.cells scope.names [])) s3.heap.objs.size X.env = ce at I4 pg pt pe ⊢
  have cL : ce.locals = s3.heap.objs.size := by subst hce; rfl
  generalize hH3 : upd H2 D (.lst []) = H3 at I3 I4 pg pt pe w0 nfp f3
  generalize hs4 : ({ s3 with heap := pushCells (s3.heap.push { cls := .type "dict", data := .dict #[] }) scope.names } : Shared) = s4 at I4 ⊢
  have st4 : tn 0 s4.heap := T.keep _ _ _ st3 fun b _ o e => by rw [← hs4]; exact pushCells_keeps _ _ _ _ (Heap.get?_push_of_some _ e)
  have stat : ∀ {σ' : St} {H' : Hp} {s' : Shared}, Inv (X.blk s3 H3 scope ce fp) [] σ' H' s' → (∀ b ∈ fp, H' b = none) → ∀ b ∈ fp, FpOk (X.blk s3 H3 scope ce fp) [] H' b := fun {σ' H' s'} I' hn b hb =>
    ⟨hn b hb, (I'.ok.exf b hb).1, I'.ok.exfs b hb, .inl hb, fun x c e => (I'.ok.exf b hb).2 x c e, fun p hp => absurd (show p ∈ ([] : List (Addr × Obj)) ++ [] from hp) (by simp)⟩
  have loop : codeAny (model X.prog X.w) X.A (.compLoop (.ListComp elt [⟨tg, iter, ifs, 0⟩] scope pos) 0 (.ref it) (.ref D) ce) (compPost (model X.prog X.w) X.A X.xe use Qf (.ref D) s3.heap.objs.size) s4 := by
    refine compLoop_any (fun n s' => ∃ i H', Inv (X.blk s3 H3 scope ce fp) [] (wipe σ (own.map (·.2))) H' s' ∧ tn i s'.heap ∧ (∀ b ∈ fp, H' b = none) ∧ W i n H') ?_ m0 ⟨0, H3, I4, st4, nfp, w0⟩
    rintro n s5 ⟨i, H5, I5, st5, n5, w5⟩
    rcases turn i n H5 w5 with ⟨stop, qq⟩ | ⟨go, Nx, hNx, step⟩
    · have td := T.done (X.blk s3 H3 scope ce fp) rfl rfl rfl hc i s5 _ H5 (fun _ _ => False) I5 (stat I5 n5) st5 stop
      refine thnF td fun r s6 ⟨hr, I6⟩ => ?_
      subst hr
      -- back in the def's context
      have I7 : Inv X pins σ H5 s6 := I3.call' (ch := fp) I6.os I6.base I6.hok I6.bare fun b hb => ⟨(f3 b hb).1.2.2.2.1, (f3 b hb).1.2.1, (f3 b hb).1.2.2.2.2.1, (f3 b hb).1.2.2.2.2.2⟩
      have nC : H5 s3.heap.objs.size = none := by
        have z : H5 ce.locals = none := I6.free
        rw [cL] at z
        exact z
      obtain ⟨m, hn, _⟩ := I6.loc
      have hn : s6.heap.Ns ce.locals m := hn
      rw [cL] at hn
      exact hRR D s3.heap.objs.size s6 m H5 I7 qq hn (I3.fpOk (Nat.le_refl _) nC)
    · have ti := T.item (X.blk s3 H3 scope ce fp) rfl rfl rfl hc i s5 _ H5 (fun _ _ => False) I5 (stat I5 n5) st5 go
      refine thnF ti fun r s6 ⟨u, hr, h6⟩ => ?_
      subst hr
      refine thnF h6 fun _ s7 ⟨x, H7, I7, r7, y7, st7, n7⟩ => ?_
      have I7' := I7.pinned (stat I7 n7) (T.obj _ _ st7)
      refine thnF (pg s7 _ H7 x u _ I7' r7 (step x H7 y7)) fun _ s8 ⟨σ8, H8, I8, hw8, q8⟩ => ?_
      refine thnF (pt s8 σ8 H8 _ I8 q8) fun b s9 ⟨H9, I9, q9⟩ => ?_
      -- the turn's end
      have fin : ∀ {s' : Shared} {H' : Hp}, Inv (X.blk s3 H3 scope ce fp) ([] ++ pinsAt fp s7.heap) σ8 H' s' → Nx H' → ∃ m, m < n ∧ ∃ i H', Inv (X.blk s3 H3 scope ce fp) [] (wipe σ (own.map (·.2))) H' s' ∧ tn i s'.heap ∧ (∀ b ∈ fp, H' b = none) ∧ W i m H' := fun {s' H'} I' nx => by
        obtain ⟨m', hm, w'⟩ := hNx H' nx
        have pin' : ∀ b ∈ fp, ∀ o, s7.heap.get? b = some o → s'.heap.get? b = some o ∧ H' b = none := fun b hb o e =>
          let z := I'.pin (b, o) (List.mem_append_right _ (List.mem_append_right _ (mem_pinsAt hb e)))
          ⟨z.1, z.2.1⟩
        have hl : (wipe σ (own.map (·.2))).length = σ8.length := by rw [← hw8, wipe_length]
        refine ⟨m', hm, i + 1, H', (I'.unpinned (pins := [])).weak hl (fun j v e => ?_), T.keep _ _ _ st7 fun b hb o e => (pin' b hb o e).1, fun b hb => ?_, w'⟩
        · rw [← hw8] at e
          exact (wipe_some e).1
        · obtain ⟨o, e, _⟩ := T.obj _ _ st7 b hb
          exact (pin' b hb o e).2
      cases b with
      | false =>
        simp only [Bool.false_eq_true, if_false] at q9 ⊢
        exact fin I9 q9
      | true =>
        simp only [if_true] at q9 ⊢
        refine thnF (pe s9 σ8 H9 _ I9 q9) fun z s10 ⟨yv, H10, I10, r10, acc, hD10, hz10, nx⟩ => ?_
        exact app_ok (X := X.blk s3 H3 scope ce fp) I10 hD10 hz10 r10 fun s11 I11 => fin I11 nx
  exact codeAny_compStart_list loop (T.self X.A 0 _ _ _ st4 loop)
/-- as a value -/
theorem pe_lc {elt tg iter : Expr} {ifs : List Expr} {scope : Scope} {own : List (Str × Nat)} {pos : Pos} {wi : TI} {g : TG} {tt : TT} {te : TE} (hc : X.calm = true) (hN : X.N.Nodup) (hi : PI X tg iter wi) (ok : BlkOk X.N X.env.scope scope own)
    (hg : ∀ (s : Shared) (H : Hp) (C : Addr) (cl : List (Str × Addr)) (fp : List Addr), PG (X.blk s H scope (compEnvC scope cl C X.env) fp) tg g) (ht : ∀ (s : Shared) (H : Hp) (C : Addr) (cl : List (Str × Addr)) (fp : List Addr), PTs (X.blk s H scope (compEnvC scope cl C X.env) fp) ifs tt)
    (he : ∀ (s : Shared) (H : Hp) (C : Addr) (cl : List (Str × Addr)) (fp : List Addr), PE (X.blk s H scope (compEnvC scope cl C X.env) fp) elt te) (hs : ∀ x, foldedSetIterable iter X.env x = pure x := by intro _; rfl) :
    PE X (.ListComp elt [⟨tg, iter, ifs, 0⟩] scope pos) (tLc wi g tt te (own.map (·.2))) := by
  intro pins s σ H Q I h
  rw [eval_ListComp]
  refine lc_core hc hN I hi ok hg ht he hs h fun D C s' m H' I' q hn f => ⟨m, hn, fun h'' sb => ?_⟩
  obtain ⟨f0, f1, f2, f3, f4, f5⟩ := f
  exact ⟨.ref D, H', I'.turned (t' := s'.toks) (fun b o hb e => (sb.2 b hb).trans e) f0 f1 f3 f4 f5, rfl, q⟩
end
/-- over a range: Pv by the turn and the heap (the new list at D within) -/
theorem lc_range {lo : Int} {n : Nat} {g : TG} {tt : TT} {te : TE} {vs : List Nat} {σ : St} {H1 : Hp} {D : Addr} {Qd : Hp → Prop} (Pv : Nat → Hp → Prop) (h0 : Pv 0 (upd H1 D (.lst [])))
    (hs : ∀ i H, i < n → Pv i H → g (.int (lo + i)) (wipe σ vs) H fun σ2 H2 => wipe σ2 vs = wipe σ vs ∧ tt σ2 H2 fun b H3 =>
      if b = true then te σ2 H3 fun y H4 => ∃ acc, H4 D = some (.lst acc) ∧ acc.length < sizeLine ∧ Pv (i + 1) (upd H4 D (.lst (acc ++ [y]))) else Pv (i + 1) H3) (hd : ∀ H, Pv n H → Qd H) :
    ∃ W : Nat → Nat → Hp → Prop, (∃ m, W 0 m (upd H1 D (.lst []))) ∧ ∀ i m H, W i m H →
      ((Itr lo n).stop i H ∧ Qd H) ∨ ((Itr lo n).go i H ∧ ∃ Nx : Hp → Prop, (∀ H', Nx H' → ∃ m', m' < m ∧ W (i + 1) m' H') ∧ ∀ x H', (Itr lo n).yld i H x H' → g x (wipe σ vs) H' fun σ2 H2 => wipe σ2 vs = wipe σ vs ∧ tt σ2 H2 fun b H3 =>
        if b = true then te σ2 H3 fun y H4 => ∃ acc, H4 D = some (.lst acc) ∧ acc.length < sizeLine ∧ Nx (upd H4 D (.lst (acc ++ [y]))) else Nx H3) := by
  refine ⟨fun i m H => m = n - i ∧ i ≤ n ∧ Pv i H, ⟨n, by simp, Nat.zero_le _, h0⟩, ?_⟩
  rintro i m H ⟨rfl, hi, p⟩
  by_cases hlt : i < n
  · refine .inr ⟨hlt, Pv (i + 1), fun H' p' => ⟨n - (i + 1), by omega, rfl, hlt, p'⟩, fun x H' y => ?_⟩
    obtain ⟨e, y⟩ := y
    subst e y
    exact hs i _ hlt p
  · have e : i = n := by omega
    subst e
    exact .inl ⟨Nat.le_refl _, hd H p⟩
/-- over a list that the block leaves as it is -/
theorem lc_list {K : PySem.W.Frag} {a : Addr} {xs : List V} {g : TG} {tt : TT} {te : TE} {vs : List Nat} {σ : St} {H1 : Hp} {D : Addr} {Qd : Hp → Prop} (Pv : Nat → Hp → Prop) (h0 : Pv 0 (upd H1 D (.lst []))) (hl : ∀ i H, i ≤ xs.length → Pv i H → SqL K H a xs)
    (hs : ∀ i x H, xs[i]? = some x → Pv i H → g x (wipe σ vs) H fun σ2 H2 => wipe σ2 vs = wipe σ vs ∧ tt σ2 H2 fun b H3 =>
      if b = true then te σ2 H3 fun y H4 => ∃ acc, H4 D = some (.lst acc) ∧ acc.length < sizeLine ∧ Pv (i + 1) (upd H4 D (.lst (acc ++ [y]))) else Pv (i + 1) H3) (hd : ∀ H, Pv xs.length H → Qd H) :
    ∃ W : Nat → Nat → Hp → Prop, (∃ m, W 0 m (upd H1 D (.lst []))) ∧ ∀ i m H, W i m H →
      ((Itl K a).stop i H ∧ Qd H) ∨ ((Itl K a).go i H ∧ ∃ Nx : Hp → Prop, (∀ H', Nx H' → ∃ m', m' < m ∧ W (i + 1) m' H') ∧ ∀ x H', (Itl K a).yld i H x H' → g x (wipe σ vs) H' fun σ2 H2 => wipe σ2 vs = wipe σ vs ∧ tt σ2 H2 fun b H3 =>
        if b = true then te σ2 H3 fun y H4 => ∃ acc, H4 D = some (.lst acc) ∧ acc.length < sizeLine ∧ Nx (upd H4 D (.lst (acc ++ [y]))) else Nx H3) := by
  refine ⟨fun i m H => m = xs.length - i ∧ i ≤ xs.length ∧ Pv i H, ⟨xs.length, by simp, Nat.zero_le _, h0⟩, ?_⟩
  rintro i m H ⟨rfl, hi, p⟩
  have q := hl i H hi p
  by_cases hlt : i < xs.length
  · refine .inr ⟨⟨xs, xs[i], q, by simp [hlt]⟩, Pv (i + 1), fun H' p' => ⟨xs.length - (i + 1), by omega, rfl, hlt, p'⟩, fun x H' y => ?_⟩
    obtain ⟨e, y⟩ := y
    subst e
    exact hs i x _ (y xs q) p
  · have e : i = xs.length := by omega
    subst e
    exact .inl ⟨⟨xs, q, Nat.le_refl _⟩, hd H p⟩
/-- over a tuple -/
theorem lc_tup {K : PySem.W.Frag} {a : Addr} {xs : List V} {g : TG} {tt : TT} {te : TE} {vs : List Nat} {σ : St} {H1 : Hp} {D : Addr} {Qd : Hp → Prop} (Pv : Nat → Hp → Prop) (h0 : Pv 0 (upd H1 D (.lst []))) (hl : ∀ i H, i ≤ xs.length → Pv i H → SqT K H a xs)
    (hs : ∀ i x H, xs[i]? = some x → Pv i H → g x (wipe σ vs) H fun σ2 H2 => wipe σ2 vs = wipe σ vs ∧ tt σ2 H2 fun b H3 =>
      if b = true then te σ2 H3 fun y H4 => ∃ acc, H4 D = some (.lst acc) ∧ acc.length < sizeLine ∧ Pv (i + 1) (upd H4 D (.lst (acc ++ [y]))) else Pv (i + 1) H3) (hd : ∀ H, Pv xs.length H → Qd H) :
    ∃ W : Nat → Nat → Hp → Prop, (∃ m, W 0 m (upd H1 D (.lst []))) ∧ ∀ i m H, W i m H →
      ((Itt K a).stop i H ∧ Qd H) ∨ ((Itt K a).go i H ∧ ∃ Nx : Hp → Prop, (∀ H', Nx H' → ∃ m', m' < m ∧ W (i + 1) m' H') ∧ ∀ x H', (Itt K a).yld i H x H' → g x (wipe σ vs) H' fun σ2 H2 => wipe σ2 vs = wipe σ vs ∧ tt σ2 H2 fun b H3 =>
        if b = true then te σ2 H3 fun y H4 => ∃ acc, H4 D = some (.lst acc) ∧ acc.length < sizeLine ∧ Nx (upd H4 D (.lst (acc ++ [y]))) else Nx H3) := by
  refine ⟨fun i m H => m = xs.length - i ∧ i ≤ xs.length ∧ Pv i H, ⟨xs.length, by simp, Nat.zero_le _, h0⟩, ?_⟩
  rintro i m H ⟨rfl, hi, p⟩
  have q := hl i H hi p
  by_cases hlt : i < xs.length
  · refine .inr ⟨⟨xs, xs[i], q, by simp [hlt]⟩, Pv (i + 1), fun H' p' => ⟨xs.length - (i + 1), by omega, rfl, hlt, p'⟩, fun x H' y => ?_⟩
    obtain ⟨e, y⟩ := y
    subst e
    exact hs i x _ (y xs q) p
  · have e : i = xs.length := by omega
    subst e
    exact .inl ⟨⟨xs, q, Nat.le_refl _⟩, hd H p⟩
def blkC (N : List Str) (sc scope : Scope) (own : List (Str × Nat)) : Bool :=
  (match scope.kind with | .function => true | _ => false) && (scope.names.all fun y => decide (scope.names.lookup y.1 = some y.2)) && (own.all fun p => decide (N[p.2]? = some p.1)) &&
    (scope.names.all fun y => match y.2 with
      | .free => (match sc.names.lookup y.1 with | some .cell => true | some .free => true | _ => false)
      | .local => decide (y.1 ∈ own.map (·.1)) || decide (y.1 ∉ N)
      | .cell => decide (y.1 ∈ own.map (·.1)) || decide (y.1 ∉ N)
      | _ => true)
theorem blkOk_by {N : List Str} {sc scope : Scope} {own : List (Str × Nat)} (h : blkC N sc scope own = true) : BlkOk N sc scope own := by
  unfold blkC at h
  simp only [Bool.and_eq_true, List.all_eq_true, decide_eq_true_eq] at h
  obtain ⟨⟨⟨h1, h2⟩, h3⟩, h4⟩ := h
  refine ⟨?_, h2, h3, fun y hy e => ?_, fun y hy e => ?_⟩
  · split at h1
    · assumption
    · cases h1
  · have q := h4 y hy
    simp only [e] at q
    split at q <;> first | exact .inl (by assumption) | exact .inr (by assumption) | cases q
  · have q := h4 y hy
    rcases e with e | e <;> (simp only [e, Bool.or_eq_true, decide_eq_true_eq] at q; exact q)
end L2
namespace L2
open PySem PySem.Spec PyProof.Rows
section
variable {prog : Program} {w : World} {A : Around} {R : Result → Shared → Prop} {s : Shared} {elt t0 i0 t1 i1 : Expr} {ifs0 ifs1 : List Expr} {scope : Scope} {pos : Pos} {it acc : Value} {env : Env}
end
section
variable {X : Cx}
end
end L2
namespace L2
open PySem PySem.Spec PyProof.Rows
section
variable {κ : Type} [DecidableEq κ]
def valV (kvs : List (κ × V)) (k : κ) : Option V := (kvs.find? fun kv => decide (kv.1 = k)).map (·.2)
/-- in its place, or at the end -/
def putK (kvs : List (κ × V)) (k : κ) (v : V) : List (κ × V) :=
  if (kvs.any fun kv => decide (kv.1 = k)) = true then kvs.map (fun kv => if kv.1 = k then (kv.1, v) else kv) else kvs ++ [(k, v)]
def dropK (kvs : List (κ × V)) (k : κ) : List (κ × V) := kvs.filter fun kv => decide (kv.1 ≠ k)
theorem valV_pos {p : κ × V} {r : List (κ × V)} {k : κ} (e : p.1 = k) : valV (p :: r) k = some p.2 := by simp [valV, List.find?_cons, e]
theorem valV_neg {p : κ × V} {r : List (κ × V)} {k : κ} (e : ¬ p.1 = k) : valV (p :: r) k = valV r k := by simp [valV, List.find?_cons, e]
theorem valV_any (k : κ) : ∀ kvs : List (κ × V), (kvs.any fun kv => decide (kv.1 = k)) = (valV kvs k).isSome
  | [] => rfl
  | p :: r => by
    rw [List.any_cons]
    by_cases e : p.1 = k
    · simp only [valV_pos e, decide_eq_true e, Bool.true_or, Option.isSome_some]
    · rw [valV_neg e, decide_eq_false e, Bool.false_or]; exact valV_any k r
theorem RelO.isSome_eq {o : Option V} {u : Option Value} (r : RelO o u) : o.isSome = u.isSome := by
  cases o with
  | none => cases u with
    | none => rfl
    | some _ => exact (show False from r).elim
  | some _ => cases u with
    | none => exact (show False from r).elim
    | some _ => rfl
theorem RelO.getD {o : Option V} {u : Option Value} {d : V} {d' : Value} (r : RelO o u) (rd : RelV d d') : RelV (o.getD d) (u.getD d') := by
  cases o with
  | none => cases u with
    | none => exact rd
    | some _ => exact (show False from r).elim
  | some _ => cases u with
    | none => exact (show False from r).elim
    | some _ => exact r
/-- raw tables of the same keys -/
theorem KV.val {kvs : List (κ × V)} {vs : List (κ × Value)} (r : KV kvs vs) (k : κ) : RelO (valV kvs k) (valueAt vs k) := by
  unfold KV at r
  induction r with
  | nil => exact True.intro
  | @cons p q ps qs h t ih =>
    obtain ⟨h1, h2⟩ := h
    by_cases e : p.1 = k
    · have e' : q.1 = k := h1.symm.trans e
      have b : valueAt (q :: qs) k = some q.2 := by simp [valueAt, List.find?_cons, e']
      rw [valV_pos e, b]; exact h2
    · have e' : ¬ q.1 = k := fun z => e (h1.trans z)
      have b : valueAt (q :: qs) k = valueAt qs k := by simp [valueAt, List.find?_cons, e']
      rw [valV_neg e, b]; exact ih
theorem KV.any {kvs : List (κ × V)} {vs : List (κ × Value)} (r : KV kvs vs) (k : κ) : (kvs.any fun kv => decide (kv.1 = k)) = vs.any fun kv => decide (kv.1 = k) := by
  unfold KV at r
  induction r with
  | nil => rfl
  | cons h t ih => rw [List.any_cons, List.any_cons, ih, h.1]
theorem KV.repl {kvs : List (κ × V)} {vs : List (κ × Value)} (r : KV kvs vs) (k : κ) {y : V} {u : Value} (ry : RelV y u) :
    KV (kvs.map fun kv => if kv.1 = k then (kv.1, y) else kv) (vs.map fun kv => if kv.1 = k then (kv.1, u) else kv) := by
  unfold KV at r ⊢
  induction r with
  | nil => exact .nil
  | @cons p q ps qs h t ih =>
    rw [List.map_cons, List.map_cons]
    refine .cons ?_ ih
    obtain ⟨h1, h2⟩ := h
    by_cases e : p.1 = k
    · rw [if_pos e, if_pos (h1.symm.trans e)]; exact ⟨h1, ry⟩
    · rw [if_neg e, if_neg (fun z => e (h1.trans z))]; exact ⟨h1, h2⟩
theorem KV.put {kvs : List (κ × V)} {vs : List (κ × Value)} (r : KV kvs vs) (k : κ) {y : V} {u : Value} (ry : RelV y u) : KV (putK kvs k y) (stored vs k u) := by
  unfold putK stored
  rw [r.any k]
  by_cases e : (vs.any fun kv => decide (kv.1 = k)) = true
  · rw [if_pos e, if_pos e]; exact r.repl k ry
  · rw [if_neg e, if_neg e]; exact Paired.snoc r ⟨rfl, ry⟩
theorem KV.drop {kvs : List (κ × V)} {vs : List (κ × Value)} (r : KV kvs vs) (k : κ) : KV (dropK kvs k) (without vs k) := by
  unfold KV at r ⊢
  unfold dropK without
  induction r with
  | nil => exact .nil
  | @cons p q ps qs h t ih =>
    obtain ⟨h1, h2⟩ := h
    rw [List.filter_cons, List.filter_cons]
    by_cases e : p.1 = k
    · have a : ¬ decide (p.1 ≠ k) = true := by simp [e]
      have b : ¬ decide (q.1 ≠ k) = true := by simp [h1.symm.trans e]
      rw [if_neg a, if_neg b]; exact ih
    · have e' : ¬ q.1 = k := fun z => e (h1.trans z)
      have a : decide (p.1 ≠ k) = true := by simp [e]
      have b : decide (q.1 ≠ k) = true := by simp [e']
      rw [if_pos a, if_pos b]; exact .cons ⟨h1, h2⟩ ih
theorem KV.keys {kvs : List (κ × V)} {vs : List (κ × Value)} (r : KV kvs vs) : kvs.map (·.1) = vs.map (·.1) := by
  unfold KV at r
  induction r with
  | nil => rfl
  | cons h t ih => rw [List.map_cons, List.map_cons, ih, h.1]
theorem KV.length {kvs : List (κ × V)} {vs : List (κ × Value)} (r : KV kvs vs) : kvs.length = vs.length := Paired.length r
end
/-- raw entries of a dict with tuple keys -/
abbrev KT (H : Hp) : List (List Key × V) → List (List Key × Addr × Value) → Prop := Paired fun p q => p.1 = q.1 ∧ H q.2.1 = some (.tup (p.1.map kV)) ∧ RelV p.2 q.2.2
theorem KT.val {H : Hp} {kvs : List (List Key × V)} {xs : List (List Key × Addr × Value)} (r : KT H kvs xs) (k : List Key) : RelO (valV kvs k) ((atKey xs k).map (·.2)) := by
  induction r with
  | nil => exact True.intro
  | @cons p q ps qs h t ih =>
    obtain ⟨h1, _, h2⟩ := h
    by_cases e : p.1 = k
    · have e' : q.1 = k := h1.symm.trans e
      have b : atKey (q :: qs) k = some q.2 := by simp [atKey, List.find?_cons, e']
      rw [valV_pos e, b]; exact h2
    · have e' : ¬ q.1 = k := fun z => e (h1.trans z)
      have b : atKey (q :: qs) k = atKey qs k := by simp [atKey, List.find?_cons, e']
      rw [valV_neg e, b]; exact ih
theorem KT.repl {H : Hp} {kvs : List (List Key × V)} {xs : List (List Key × Addr × Value)} (r : KT H kvs xs) (k : List Key) {y : V} {u : Value} (ry : RelV y u) :
    KT H (kvs.map fun kv => if kv.1 = k then (kv.1, y) else kv) (xs.map (putAt k u)) := by
  induction r with
  | nil => exact .nil
  | @cons p q ps qs h t ih =>
    rw [List.map_cons, List.map_cons]
    refine .cons ?_ ih
    obtain ⟨h1, h2, h3⟩ := h
    unfold putAt
    by_cases e : p.1 = k
    · rw [if_pos e, if_pos (h1.symm.trans e)]; exact ⟨h1, h2, ry⟩
    · rw [if_neg e, if_neg (fun z => e (h1.trans z))]; exact ⟨h1, h2, h3⟩
theorem KT.put {H : Hp} {kvs : List (List Key × V)} {xs : List (List Key × Addr × Value)} (r : KT H kvs xs) (k : List Key) {b : Addr} {y : V} {u : Value} (hb : H b = some (.tup (k.map kV))) (ry : RelV y u) :
    KT H (putK kvs k y) (storedH xs k b u) := by
  have e : (kvs.any fun kv => decide (kv.1 = k)) = (atKey xs k).isSome := by
    rw [valV_any, (r.val k).isSome_eq, Option.isSome_map]
  unfold putK storedH
  rw [e]
  by_cases q : (atKey xs k).isSome = true
  · rw [if_pos q, if_pos q]; exact r.repl k ry
  · rw [if_neg q, if_neg q]; exact Paired.snoc r ⟨rfl, hb, ry⟩
theorem KT.keeps {H H' : Hp} {kvs : List (List Key × V)} {xs : List (List Key × Addr × Value)} (r : KT H kvs xs) (ht : ∀ b ys, H b = some (.tup ys) → H' b = some (.tup ys)) : KT H' kvs xs :=
  Paired.mapP r fun _ _ z => ⟨z.1, ht _ _ z.2.1, z.2.2⟩
section
variable {P : Program} {w : World} {H : Hp} {h : Heap} {a : Addr}
end
/-- what the dict at a holds at the key y -/
def DGet (H : Hp) (a : Addr) (y : V) (r : Option V) : Prop :=
  (∃ kvs k, Rd H a (.dK kvs) ∧ y = kV k ∧ r = valV kvs k) ∨ ∃ kvs k b, Rd H a (.dT kvs) ∧ y = .ref b ∧ H b = some (.tup (k.map kV)) ∧ r = valV kvs k
/-- the heap behind a[y] = v -/
def DPut (H : Hp) (a : Addr) (y v : V) (H' : Hp) : Prop :=
  (∃ kvs k, H a = some (.dK kvs) ∧ y = kV k ∧ kvs.length < sizeLine ∧ H' = upd H a (.dK (putK kvs k v))) ∨
  ∃ kvs k b, H a = some (.dT kvs) ∧ y = .ref b ∧ H b = some (.tup (k.map kV)) ∧ kvs.length < sizeLine ∧ H' = upd H a (.dT (putK kvs k v))
theorem DGet.k {H : Hp} {a : Addr} {kvs : List (Key × V)} {k : Key} (e : H a = some (.dK kvs)) : DGet H a (kV k) (valV kvs k) := .inl ⟨kvs, k, .inl e, rfl, rfl⟩
theorem DGet.t {H : Hp} {a b : Addr} {kvs : List (List Key × V)} {k : List Key} (e : H a = some (.dT kvs)) (eb : H b = some (.tup (k.map kV))) : DGet H a (.ref b) (valV kvs k) := .inr ⟨kvs, k, b, .inl e, rfl, eb, rfl⟩
theorem DPut.k {H : Hp} {a : Addr} {kvs : List (Key × V)} {k : Key} {v : V} (e : H a = some (.dK kvs)) (hl : kvs.length < sizeLine) : DPut H a (kV k) v (upd H a (.dK (putK kvs k v))) := .inl ⟨kvs, k, e, rfl, hl, rfl⟩
theorem DPut.t {H : Hp} {a b : Addr} {kvs : List (List Key × V)} {k : List Key} {v : V} (e : H a = some (.dT kvs)) (eb : H b = some (.tup (k.map kV))) (hl : kvs.length < sizeLine) :
    DPut H a (.ref b) v (upd H a (.dT (putK kvs k v))) := .inr ⟨kvs, k, b, e, rfl, eb, hl, rfl⟩
section
variable {X : Cx} {pins : List (Addr × Obj)} {σ : St} {H : Hp} {s : Shared} {a : Addr} {y v : V} {u r : Value} {o : Option V} {A : Around} {E : Value → Shared → Prop}
theorem Inv.big (I : Inv X pins σ H s) : sysModules < s.heap.objs.size := by
  have h : mainGlobals < s.heap.objs.size := (I.mod.glob.keeps I.bk).lt
  exact Nat.lt_trans (by decide) h
end
section
variable {X : Cx} {pins : List (Addr × Obj)} {σ : St} {H : Hp} {s : Shared} {a : Addr} {kvs : List (Key × V)} {k : Key} {u : Value} {A : Around} {E : Value → Shared → Prop}
end
section
variable {X : Cx} {o i e value : Expr} {pos pos' tpos : Pos} {td ty tv : TE}
end
section
variable {X : Cx} {pos : Pos}
end
/-- a method call o.m(e) of a built-in, with one argument: what must be seen of the text -/
structure M1 (X : Cx) (o : Expr) (m : Str) (apos : Pos) (e : Expr) (cpos : Pos) : Prop where
  base : attributeBase o m X.env (eval o X.env) = eval o X.env
  few : ((backTo cpos (starEach [e] X.env)).all (fun x => !x.1) && (backToKw cpos (keywordEach [] X.env)).all (fun x => x.1.isSome)
    && decide (([e] : List Expr).length + ([] : List Keyword).length + (if ([] : List Keyword).isEmpty then 0 else 1) < 30)) = true
  line : (apos.endLine == cpos.line) = true
  trees : backTo cpos (starEach [e] X.env) = [(false, eval e X.env)]
structure M2 (X : Cx) (o : Expr) (m : Str) (apos : Pos) (e f : Expr) (cpos : Pos) : Prop where
  base : attributeBase o m X.env (eval o X.env) = eval o X.env
  few : ((backTo cpos (starEach [e, f] X.env)).all (fun x => !x.1) && (backToKw cpos (keywordEach [] X.env)).all (fun x => x.1.isSome)
    && decide (([e, f] : List Expr).length + ([] : List Keyword).length + (if ([] : List Keyword).isEmpty then 0 else 1) < 30)) = true
  line : (apos.endLine == cpos.line) = true
  trees : backTo cpos (starEach [e, f] X.env) = [(false, eval e X.env), (false, eval f X.env)]
section
variable {X : Cx} {pins : List (Addr × Obj)} {σ : St} {H : Hp} {s : Shared} {a : Addr} {y d : V} {u r : Value} {o : Option V} {A : Around} {E : Value → Shared → Prop}
end
section
variable {X : Cx} {o e f : Expr} {apos cpos : Pos} {td ty tx : TE}
end
section
variable {X : Cx} {pins : List (Addr × Obj)} {σ : St} {H : Hp} {s : Shared} {a : Addr} {kvs : List (Key × V)} {A : Around} {E : Value → Shared → Prop}
end
section
variable {X : Cx} {pins : List (Addr × Obj)} {σ : St} {H : Hp} {s : Shared} {a : Addr} {y : V} {u : Value} {A : Around} {E : Value → Shared → Prop}
end
end L2
namespace L2
open PySem PySem.Spec PyProof.Rows
section
variable {prog : Program} {w : World} {A : Around} {E : Value → Shared → Prop}
end
section
variable {X : Cx}
end
end L2
namespace L2
open PySem PySem.Spec PyProof.Rows
section
variable {X : Cx} {pins : List (Addr × Obj)} {σ : St} {H : Hp} {s : Shared} {h' : Heap}
/-- several records of ours have turned -/
theorem Inv.turnedL {t' : Nat} {ch : List Addr} (I : Inv X pins σ H s) (k : ∀ b o, b ∉ ch → s.heap.get? b = some o → h'.get? b = some o) (hf : ∀ b ∈ ch, FpOk X pins H b) : Inv X pins σ H { s with heap := h', toks := t' } := by
  have nit : ∀ b u, H b = some u → b ∉ ch := fun b u e z => by
    have q := (hf b z).1
    rw [q] at e; cases e
  refine I.step (g' := s.gens) (d' := s.drawn) (ch := ch) (fun b hb => ⟨(hf b hb).2.2.2.1, (hf b hb).2.1, (hf b hb).2.2.2.2.1, (hf b hb).2.2.2.2.2⟩) (fun b o _ _ hc e _ => k b o hc e) (fun b o _ _ hc e _ => ⟨o.slots, k b o hc e⟩)
    (fun _ _ _ _ n => n) (fun b o hc e => ⟨o, k b o hc e⟩) (fun _ _ e => e) (fun _ _ _ e => e) (fun b ps e => ⟨#[], by rw [e]; simp⟩) (fun m hm => ?_) (fun b u e => ?_) I.bare.self
  · obtain ⟨o, es, ep, ho, r⟩ := hm
    exact ⟨o, es, ep, k _ o (fun z => (hf _ z).2.1 rfl) ho, r⟩
  · refine (I.hok b u e).stay (fun c v hc q => k c v ?_ q) (fun _ q => q) fun _ _ q => q
    rcases hc with z | z
    · rw [z]; exact nit b u e
    · exact nit c _ z
/-- .. and one new object is laid -/
theorem Inv.turnedNew {t' : Nat} {ch : List Addr} {T : Addr} {ob : HO} (I : Inv X pins σ H s) (k : ∀ b o, b ∉ ch → s.heap.get? b = some o → h'.get? b = some o) (hf : ∀ b ∈ ch, FpOk X pins H b) (hT : s.heap.objs.size ≤ T)
    (new : ObjOk X.prog X.w (upd H T ob) h' T ob) : Inv X pins σ (upd H T ob) { s with heap := h', toks := t' } := by
  have hn : H T = none := I.hok.fresh hT
  have nit : ∀ b u, H b = some u → b ∉ ch := fun b u e z => by
    have q := (hf b z).1
    rw [q] at e; cases e
  refine I.step (g' := s.gens) (d' := s.drawn) (ch := ch) (fun b hb => ⟨(hf b hb).2.2.2.1, (hf b hb).2.1, (hf b hb).2.2.2.2.1, (hf b hb).2.2.2.2.2⟩) (fun b o _ _ hc e _ => k b o hc e) (fun b o _ _ hc e _ => ⟨o.slots, k b o hc e⟩)
    (fun b o _ e n => ?_) (fun b o hc e => ⟨o, k b o hc e⟩) (fun b xs e => ?_) (fun b o u e => ?_) (fun b ps e => ⟨#[], ?_⟩) (fun m hm => ?_) (fun b u e => ?_) I.bare.self
  · rw [upd_ne (Nat.ne_of_lt (Nat.lt_of_lt_of_le (Heap.lt_size e) hT))]; exact n
  · rw [upd_ne (ne_of_none e hn)]; exact e
  · rw [upd_ne (ne_of_none e hn)]; exact e
  · rw [upd_ne (ne_of_none e hn), e]; simp
  · obtain ⟨o, es, ep, ho, r⟩ := hm
    exact ⟨o, es, ep, k _ o (fun z => (hf _ z).2.1 rfl) ho, r⟩
  · by_cases hb : b = T
    · subst hb
      rw [upd_same] at e
      cases e
      exact new
    · rw [upd_ne hb] at e
      refine (I.hok b u e).stay (fun c v hc q => k c v ?_ q) (fun c q => by rw [upd_ne (ne_of_none q hn)]; exact q) fun c xs q => by rw [upd_ne (ne_of_none q hn)]; exact q
      rcases hc with z | z
      · rw [z]; exact nit b u e
      · exact nit c _ z
end
section
variable {X : Cx}
theorem pi_one {tg : Expr} {pins : List (Addr × Obj)} {σ : St} {H : Hp} {s : Shared} {R : It → Hp → Prop} {J : It} {tn : Nat → Heap → Prop} {tk : Nat} (I : Inv X pins σ H s) (o : Obj)
    (T : Turn X.prog X.w X.K tg J [s.heap.objs.size] s.heap.objs.size tn) (st : tn 0 (s.heap.push o)) (q : R J H) : PIE X pins σ tg R (.ref s.heap.objs.size) { s with heap := s.heap.push o, toks := tk } := by
  refine ⟨s.heap.objs.size, [s.heap.objs.size], tn, J, H, rfl, I.kept fun b ob e => Heap.get?_push_of_some _ e, T, st, fun b hb => ?_, q⟩
  have e : b = s.heap.objs.size := by simpa using hb
  subst e
  exact I.fpOk (Nat.le_refl _) (I.hok.fresh (Nat.le_refl _))
end
/-- range(i, j, c): small bounds, n items -/
def RgC (i j c : Int) (n : Nat) : Prop := c ≠ 0 ∧ c.natAbs < 1073741824 ∧ Builtin.Range.small i j c = true ∧ Builtin.Range.rangeSize i j c = n
theorem RgC.neg {i j : Int} (ha : -(2 ^ 62) ≤ i) (ha' : i < 2 ^ 62) (hb : -(2 ^ 62) ≤ j) (hb' : j < 2 ^ 62) : RgC i j (-1) (i - j).toNat :=
  ⟨by decide, by decide, PySem.W.small_down ha ha' hb hb', PySem.W.rangeSize_downNat i j⟩
section
variable {X : Cx} {tg : Expr}
end
section
variable {X : Cx} {tg : Expr}
end
def Its (x : Str) : It := ⟨fun i _ => i < x.cps.size, fun i H v H' => H' = H ∧ ∃ c, x.cps[i]? = some c ∧ v = .str ⟨#[c]⟩, fun i _ => x.cps.size ≤ i⟩
theorem turn_str {P : Program} {w : World} {K : PySem.W.Frag} {tg : Expr} (it : Addr) (x : Str) (t : Tok) (ty : String) (hty : ty = "str_ascii_iterator" ∨ ty = "str_iterator") :
    Turn P w K tg (Its x) [it] it (fun i h => h.IsStrIter it ty x t i) where
  mem := by simp
  obj := fun i h st b hb => by
    have e : b = it := by simpa using hb
    subst e
    obtain ⟨o, e, c, d⟩ := st
    exact ⟨o, e, fun v z => by rw [d] at z; cases z⟩
  keep := fun i h h' st k => let ⟨o, ho, r⟩ := st; ⟨o, k it (by simp) o ho, r⟩
  item := by
    intro X hP hw hK hc i pins s σ H E I hf st hg
    subst hP hw hK
    obtain ⟨f0, f1, f2, f3, f4, f5⟩ := hf it (by simp)
    have W : Walks X.prog X.w X.A it [it] [it] x.cps.size (SignAt x) (fun i h => h.IsStrIter it ty x t i) := by
      rcases hty with e | e
      · rw [e]; exact Walks.strAscii (I.ok.hd hc) it x t
      · rw [e]; exact Walks.strWide (I.ok.hd hc) it x t
    have hno : ["enumerate", "zip", "dict_itemiterator", "dict_reverseitemiterator", "odict_iterator", "itertools.zip_longest", "itertools.pairwise"].contains ty = false := by
      rcases hty with e | e
      · rw [e]; decide
      · rw [e]; decide
    refine W.item i s _ _ hg st fun v h' tk hv st' kk => ?_
    obtain ⟨c, u, hcx, rfl⟩ := hv
    have I1 : Inv X pins σ H { s with heap := h', toks := tk } := I.turned (fun b o hb e => kk b o (by simpa using hb) e) f0 f1 f3 f4 f5
    obtain ⟨oi, e, cc, dd⟩ := id st'
    exact ⟨_, rfl, go_of (s := { s with heap := h', toks := tk }) e cc dd hno ⟨.str ⟨#[c]⟩, H, I1, ⟨u, rfl⟩, ⟨rfl, c, hcx, rfl⟩, st', fun b hb => (hf b hb).1⟩⟩
  done := by
    intro X hP hw hK hc i pins s σ H E I hf st hg
    subst hP hw hK
    obtain ⟨f0, f1, f2, f3, f4, f5⟩ := hf it (by simp)
    have hx : x.cps[i]? = none := Array.getElem?_eq_none hg
    rcases hty with e | e
    · rw [e] at st
      exact wpAny_pyNext_ascii_end (I.ok.hd hc) st hx fun h' eb => ⟨rfl, I.turned (t' := s.toks) (fun b o hb e => eb b o hb e) f0 f1 f3 f4 f5⟩
    · rw [e] at st
      exact wpAny_pyNext_wide_end (I.ok.hd hc) st hx fun h' eb => ⟨rfl, I.turned (t' := s.toks) (fun b o hb e => eb b o hb e) f0 f1 f3 f4 f5⟩
  self := fun A i s Q E st h => by
    rcases hty with e | e
    · rw [e] at st; exact wpAny_pyIter_striter_ascii st h
    · rw [e] at st; exact wpAny_pyIter_striter_wide st h
def iStr (te : TE) : TI := fun σ H R => te σ H fun v H1 => ∃ x, v = .str x ∧ R (Its x) H1
theorem pi_str {X : Cx} {tg e : Expr} {te : TE} (he : PE X e te) : PI X tg e (iStr te) := by
  intro pins s σ H R I h
  refine thn (he s σ H _ I h) fun v s1 ⟨y, H1, I1, r1, x, ex, q⟩ => ?_
  subst ex
  obtain ⟨t, rfl⟩ := r1
  cases ha : x.cps.all (· < 128)
  · exact wpAny_pyIter_wide ha (pi_one (tk := s1.toks) I1 _ (turn_str _ x t "str_iterator" (.inr rfl)) ⟨_, Heap.get?_push_size _ rfl, rfl, rfl⟩ q)
  · exact wpAny_pyIter_ascii ha (pi_one (tk := s1.toks) I1 _ (turn_str _ x t "str_ascii_iterator" (.inl rfl)) ⟨_, Heap.get?_push_size _ rfl, rfl, rfl⟩ q)
section
variable {prog : Program} {w : World} {A : Around} {E : Value → Shared → Prop} {s : Shared}
end
section
variable {X : Cx} {pins : List (Addr × Obj)} {σ : St} {H : Hp} {s : Shared} {d : Addr} {o : Obj}
end
section
variable {P : Program} {w : World} {K : PySem.W.Frag} {tg : Expr} {d : Addr} {o : Obj} {es : Array DictEntry} {ep : Nat}
end
section
variable {X : Cx} {tg e : Expr} {td : TE} {apos cpos : Pos}
end
/-- the list at a as it stands at each turn, each item in a new pair -/
def Ite (K : PySem.W.Frag) (a : Addr) : It :=
  ⟨fun i H => ∃ (xs : List V) (x : V), SqL K H a xs ∧ xs[i]? = some x, fun i H v H' => ∃ T x, v = .ref T ∧ H T = none ∧ H' = upd H T (.tup [.int (i : Nat), x]) ∧ ∀ xs, SqL K H a xs → xs[i]? = some x, fun i H => ∃ xs : List V, SqL K H a xs ∧ xs.length ≤ i⟩
theorem turn_enum {P : Program} {w : World} {K : PySem.W.Frag} {elts : List Expr} {kk : Nat} {tpos : Pos} (a e it : Addr) :
    Turn P w K (.Tuple elts kk tpos) (Ite K a) [e, it] e (fun i h => (∃ old, IsEnum h e it ((i : Nat) : Int) old) ∧ h.IsListIter it a i ∧ e ≠ it) where
  mem := by simp
  obj := fun i h st b hb => by
    obtain ⟨⟨old, he⟩, ⟨o, ho, hc, hd⟩, _⟩ := st
    have e' : b = e ∨ b = it := by simpa using hb
    rcases e' with z | z
    · rw [z]; exact ⟨_, he, fun v q => nomatch q⟩
    · rw [z]; exact ⟨o, ho, fun v q => by rw [hd] at q; cases q⟩
  keep := fun i h h' st k => let ⟨⟨old, he⟩, hi, hne⟩ := st; ⟨⟨old, k e (by simp) _ he⟩, hi.at fun o q => k it (by simp) o q, hne⟩
  item := by
    intro X hP hw hK hc i pins s σ H E I hf st hg
    subst hP hw hK
    obtain ⟨⟨old, he⟩, hit, hne⟩ := st
    obtain ⟨xs, x, hq, hx⟩ := hg
    obtain ⟨its, rv, p, hz⟩ := I.list hq
    obtain ⟨u, hu, ru⟩ := rv.get hx
    have hel : e < s.heap.objs.size := Heap.lt_size he
    have hil : it < s.heap.objs.size := by obtain ⟨_, q, _⟩ := hit; exact Heap.lt_size q
    refine wpAny_pyNext_enum_item he hit p.isList (x := u) (by simpa using hu) hne fun h' ho hit' hT hsz hk => ?_
    refine ⟨_, rfl, wpAny_letOwnedTupleGo_enum (s := { s with heap := h', toks := s.toks + 1 }) ho fun h'' he' sb => ?_⟩
    have hT2 : h''.get? s.heap.objs.size = some { cls := .type "tuple", data := .seq #[.int i s.toks, u] } := (sb.2 _ (Nat.ne_of_gt hel)).trans hT
    have new : ObjOk X.prog X.w (upd H s.heap.objs.size (.tup [.int (i : Nat), x])) h'' s.heap.objs.size (.tup [.int (i : Nat), x]) :=
      ⟨by show 2 ≤ sizeLine; decide, [.int i s.toks, u], .cons ⟨_, rfl⟩ (.cons ru .nil), ⟨_, hT2, rfl, ⟨_, rfl⟩, rfl⟩⟩
    have I1 : Inv X pins σ (upd H s.heap.objs.size (.tup [.int (i : Nat), x])) { s with heap := h'', toks := s.toks + 1 } :=
      I.turnedNew (ch := [e, it]) (fun b ob hb q => (sb.2 b (fun z => hb (by simp [z]))).trans (hk b ob (fun z => hb (by simp [z])) (fun z => hb (by simp [z])) q)) hf (Nat.le_refl _) new
    refine ⟨.ref s.heap.objs.size, _, I1, rfl, ⟨_, x, rfl, I.hok.fresh (Nat.le_refl _), rfl, fun ys hy => by rw [I.list_inj hy hq]; exact hx⟩, ⟨⟨u, ?_⟩, hit'.at fun o q => (sb.2 it (Ne.symm hne)).trans q, hne⟩, fun b hb => ?_⟩
    · have e1 : ((i + 1 : Nat) : Int) = (i : Int) + 1 := by omega
      rw [e1]; exact he'
    · have hb' : b < s.heap.objs.size := by
        have e' : b = e ∨ b = it := by simpa using hb
        rcases e' with z | z
        · rw [z]; exact hel
        · rw [z]; exact hil
      rw [upd_ne (Nat.ne_of_lt hb')]
      exact (hf b hb).1
  done := by
    intro X hP hw hK hc i pins s σ H E I hf st hg
    subst hP hw hK
    obtain ⟨⟨old, he⟩, hit, hne⟩ := st
    obtain ⟨xs, hq, hx⟩ := hg
    obtain ⟨its, rv, p, hz⟩ := I.list hq
    obtain ⟨f0, f1, f2, f3, f4, f5⟩ := hf it (by simp)
    have hl := rv.length
    exact wpAny_pyNext_enum_end (I.ok.hd hc) he hit p.isList (by simp; omega) fun h' eb => ⟨rfl, I.turned (t' := s.toks) (fun b o hb q => eb b o hb q) f0 f1 f3 f4 f5⟩
  self := fun A i s Q E st h => let ⟨⟨_, he⟩, _⟩ := st; wpAny_pyIter_enum he h
def iEnum (K : PySem.W.Frag) (ta : TA) : TI := fun σ H R => ta σ H fun vs H1 => ∃ a xs, vs = [.ref a] ∧ SqL K H1 a xs ∧ R (Ite K a) H1
theorem pi_enum {X : Cx} {e : Expr} {ta : TA} {p pos tpos : Pos} {elts : List Expr} {kk : Nat} (hg : Gl X "enumerate") (hm : X.mg "enumerate" = none) (ha : PA X [e] ta) (hs : starEach [e] X.env = [(false, eval e X.env)] := by rfl) :
    PI X (.Tuple elts kk tpos) (.Call (.Name "enumerate" p) [e] [] pos) (iEnum X.K ta) := by
  intro pins s σ H R I h
  refine Call_ (ld_blt I hg hm boot_enumerate (PyProof.Rows.callWith_type1 (thn (ha pos s σ H _ I h) fun us s1 ⟨vs, H1, I1, r1, q1⟩ => ?_) hs rfl))
  obtain ⟨a, xs, ex, hq, q⟩ := q1
  subst ex
  cases r1 with
  | cons r rr =>
    cases rr
    cases r
    obtain ⟨its, rv, p', hz⟩ := I1.list hq
    refine call_enumerate_list p'.isList fun h' he hit hsz hk => wpAny_pyIter_enum he ?_
    have I2 : Inv X pins σ H1 { s1 with heap := h' } := I1.kept (t' := s1.toks) hk
    refine ⟨s1.heap.objs.size + 1, [s1.heap.objs.size + 1, s1.heap.objs.size], _, _, H1, rfl, I2, turn_enum a (s1.heap.objs.size + 1) s1.heap.objs.size, ⟨⟨.none, he⟩, hit, Nat.succ_ne_self _⟩, fun b hb => ?_, q⟩
    have e' : b = s1.heap.objs.size + 1 ∨ b = s1.heap.objs.size := by simpa using hb
    have hle : s1.heap.objs.size ≤ b := by
      rcases e' with z | z
      · rw [z]; exact Nat.le_add_right _ _
      · rw [z]; exact Nat.le_refl _
    exact I1.fpOk hle (I1.hok.fresh hle)
theorem boot_zip5 : bootBuiltins "zip" = some (.type "zip") := by decide +kernel
/-- the lists at a and b as they stand at each turn, the items in new pairs -/
def Itz (K : PySem.W.Frag) (a b : Addr) : It :=
  ⟨fun i H => ∃ (xs ys : List V) (x y : V), SqL K H a xs ∧ SqL K H b ys ∧ xs[i]? = some x ∧ ys[i]? = some y,
    fun i H v H' => ∃ T x y, v = .ref T ∧ H T = none ∧ H' = upd H T (.tup [x, y]) ∧ (∀ xs, SqL K H a xs → xs[i]? = some x) ∧ ∀ ys, SqL K H b ys → ys[i]? = some y,
    fun i H => ∃ xs ys : List V, SqL K H a xs ∧ SqL K H b ys ∧ (xs.length ≤ i ∨ ys.length ≤ i)⟩
theorem turn_zip {P : Program} {w : World} {K : PySem.W.Frag} {elts : List Expr} {kk : Nat} {tpos : Pos} {a b z TI TO i1 i2 : Addr} (D : ZipApart z TI TO i1 i2 a b) :
    Turn P w K (.Tuple elts kk tpos) (Itz K a b) [z, TI, TO, i1, i2] z (fun i h => IsZip h z TI TO .none ∧ IsPair h TI (.ref i1) (.ref i2) ∧ (∃ x y, IsPair h TO x y) ∧ h.IsListIter i1 a i ∧ h.IsListIter i2 b i) where
  mem := by simp
  obj := fun i h st c hc => by
    obtain ⟨hz, hTI, ⟨x, y, hTO⟩, ⟨o1, e1, _, d1⟩, ⟨o2, e2, _, d2⟩⟩ := st
    have e' : c = z ∨ c = TI ∨ c = TO ∨ c = i1 ∨ c = i2 := by simpa using hc
    rcases e' with q | q | q | q | q
    · rw [q]; exact ⟨_, hz, fun v q => nomatch q⟩
    · rw [q]; exact ⟨_, hTI, fun v q => nomatch q⟩
    · rw [q]; exact ⟨_, hTO, fun v q => nomatch q⟩
    · rw [q]; exact ⟨o1, e1, fun v q => by rw [d1] at q; cases q⟩
    · rw [q]; exact ⟨o2, e2, fun v q => by rw [d2] at q; cases q⟩
  keep := fun i h h' st k => by
    obtain ⟨hz, hTI, ⟨x, y, hTO⟩, h1, h2⟩ := st
    exact ⟨k z (by simp) _ hz, k TI (by simp) _ hTI, ⟨x, y, k TO (by simp) _ hTO⟩, h1.at fun o q => k i1 (by simp) o q, h2.at fun o q => k i2 (by simp) o q⟩
  item := by
    intro X hP hw hK hc i pins s σ H E I hf st hg
    subst hP hw hK
    obtain ⟨hz, hTI, ⟨x0, y0, hTO⟩, h1, h2⟩ := st
    obtain ⟨xs, ys, x, y, hqx, hqy, hx, hy⟩ := hg
    obtain ⟨its, rv, p, _⟩ := I.list hqx
    obtain ⟨its2, rv2, p2, _⟩ := I.list hqy
    obtain ⟨u, hu, ru⟩ := rv.get hx
    obtain ⟨u2, hu2, ru2⟩ := rv2.get hy
    have hzl : z < s.heap.objs.size := Heap.lt_size hz
    refine wpAny_pyNext_zip_item D hz hTI hTO h1 h2 p.isList p2.isList (x := u) (y := u2) (by simpa using hu) (by simpa using hu2) fun h' z' TO' h1' h2' hT hsz hk => ?_
    refine ⟨_, rfl, wpAny_letOwnedTupleGo_zip (s := { s with heap := h' }) z' fun h'' z'' sb => ?_⟩
    have hT2 : h''.get? s.heap.objs.size = some { cls := .type "tuple", data := .seq #[u, u2] } := (sb.2 _ (Nat.ne_of_gt hzl)).trans hT
    have new : ObjOk X.prog X.w (upd H s.heap.objs.size (.tup [x, y])) h'' s.heap.objs.size (.tup [x, y]) :=
      ⟨by show 2 ≤ sizeLine; decide, [u, u2], .cons ru (.cons ru2 .nil), ⟨_, hT2, rfl, ⟨_, rfl⟩, rfl⟩⟩
    have I1 : Inv X pins σ (upd H s.heap.objs.size (.tup [x, y])) { s with heap := h'' } :=
      I.turnedNew (t' := s.toks) (ch := [z, TI, TO, i1, i2]) (fun c o hb q => (sb.2 c (fun q' => hb (by simp [q']))).trans (hk c o (fun q' => hb (by simp [q'])) (fun q' => hb (by simp [q'])) (fun q' => hb (by simp [q'])) (fun q' => hb (by simp [q'])) q)) hf (Nat.le_refl _) new
    refine ⟨.ref s.heap.objs.size, _, I1, rfl, ⟨_, x, y, rfl, I.hok.fresh (Nat.le_refl _), rfl, fun l hl => by rw [I.list_inj hl hqx]; exact hx, fun l hl => by rw [I.list_inj hl hqy]; exact hy⟩, ⟨z'', ?_, ⟨u, u2, ?_⟩, ?_, ?_⟩, fun c hcm => ?_⟩
    · exact (sb.2 _ D.TIz).trans (hk _ _ D.TIz D.TITO D.TIi1 D.TIi2 hTI)
    · exact (sb.2 _ D.TOz).trans TO'
    · exact h1'.at fun o q => (sb.2 _ D.i1z).trans q
    · exact h2'.at fun o q => (sb.2 _ D.i2z).trans q
    · have hlt : c < s.heap.objs.size := by
        have e' : c = z ∨ c = TI ∨ c = TO ∨ c = i1 ∨ c = i2 := by simpa using hcm
        rcases e' with q | q | q | q | q
        · rw [q]; exact hzl
        · rw [q]; exact Heap.lt_size hTI
        · rw [q]; exact Heap.lt_size hTO
        · rw [q]; obtain ⟨_, e1, _⟩ := h1; exact Heap.lt_size e1
        · rw [q]; obtain ⟨_, e2, _⟩ := h2; exact Heap.lt_size e2
      rw [upd_ne (Nat.ne_of_lt hlt)]
      exact (hf c hcm).1
  done := by
    intro X hP hw hK hc i pins s σ H E I hf st hg
    subst hP hw hK
    obtain ⟨hz, hTI, ⟨x0, y0, hTO⟩, h1, h2⟩ := st
    obtain ⟨xs, ys, hqx, hqy, hend⟩ := hg
    obtain ⟨its, rv, p, _⟩ := I.list hqx
    obtain ⟨its2, rv2, p2, _⟩ := I.list hqy
    have l1 := rv.length
    have l2 := rv2.length
    have he : its.toArray[i]? = none ∨ its2.toArray[i]? = none := by
      rcases hend with q | q
      · exact .inl (by simp; omega)
      · exact .inr (by simp; omega)
    exact wpAny_pyNext_zip_end (I.ok.hd hc) D hz hTI hTO h1 h2 p.isList p2.isList he fun h' hk => ⟨rfl, I.turnedL (t' := s.toks) (ch := [z, TI, TO, i1, i2]) (fun c o hb q =>
      hk c o (fun q' => hb (by simp [q'])) (fun q' => hb (by simp [q'])) (fun q' => hb (by simp [q'])) (fun q' => hb (by simp [q'])) q) hf⟩
  self := fun A i s Q E st h => wpAny_pyIter_zip st.1 h
def iZip (K : PySem.W.Frag) (ta : TA) : TI := fun σ H R => ta σ H fun vs H1 => ∃ a b xs ys, vs = [.ref a, .ref b] ∧ SqL K H1 a xs ∧ SqL K H1 b ys ∧ R (Itz K a b) H1
theorem pi_zip {X : Cx} {e e2 : Expr} {ta : TA} {p pos tpos : Pos} {elts : List Expr} {kk : Nat} (hg : Gl X "zip") (hm : X.mg "zip" = none) (ha : PA X [e, e2] ta)
    (hs : starEach [e, e2] X.env = (false, eval e X.env) :: starEach [e2] X.env := by rfl) (hpl : (backTo pos (starEach [e2] X.env)).any (·.1) = false := by rfl) :
    PI X (.Tuple elts kk tpos) (.Call (.Name "zip" p) [e, e2] [] pos) (iZip X.K ta) := by
  intro pins s σ H R I h
  refine Call_ (ld_blt I hg hm boot_zip5 (PyProof.Rows.callWith_type1 (thn (ha pos s σ H _ I h) fun us s1 ⟨vs, H1, I1, r1, q1⟩ => ?_) hs hpl))
  obtain ⟨a, b, xs, ys, ex, hqx, hqy, q⟩ := q1
  subst ex
  cases r1 with
  | cons r rr =>
    cases rr with
    | cons r' rr =>
      cases rr
      cases r
      cases r'
      obtain ⟨its, rv, p1, _⟩ := I1.list hqx
      obtain ⟨its2, rv2, p2, _⟩ := I1.list hqy
      have la : a < s1.heap.objs.size := p1.lt
      have lb : b < s1.heap.objs.size := p2.lt
      refine call_zip_2 p1.isList p2.isList fun h' hz hTI hTO h1 h2 hsz hk => wpAny_pyIter_zip hz ?_
      have I2 : Inv X pins σ H1 { s1 with heap := h' } := I1.kept (t' := s1.toks) hk
      refine ⟨s1.heap.objs.size + 4, [s1.heap.objs.size + 4, s1.heap.objs.size + 2, s1.heap.objs.size + 3, s1.heap.objs.size, s1.heap.objs.size + 1], _, _, H1, rfl, I2, turn_zip (PySem.W.ktu_apart s1.heap.objs.size a b la lb), ⟨hz, hTI, ⟨_, _, hTO⟩, h1, h2⟩, fun c hcm => ?_, q⟩
      have e' : c = s1.heap.objs.size + 4 ∨ c = s1.heap.objs.size + 2 ∨ c = s1.heap.objs.size + 3 ∨ c = s1.heap.objs.size ∨ c = s1.heap.objs.size + 1 := by simpa using hcm
      have hle : s1.heap.objs.size ≤ c := by
        rcases e' with z | z | z | z | z
        · rw [z]; exact Nat.le_add_right _ _
        · rw [z]; exact Nat.le_add_right _ _
        · rw [z]; exact Nat.le_add_right _ _
        · rw [z]; exact Nat.le_refl _
        · rw [z]; exact Nat.le_add_right _ _
      exact I1.fpOk hle (I1.hok.fresh hle)
end L2
section 
namespace Bits
open PySem PyProof.Rows
end Bits
end 
section 
namespace TL
open PySem PySem.Builtin PySem.Builtin.Str PySem.StrLaws
abbrev tl (x : Str) : List Nat := x.cps.toList
theorem len_tl (x : Str) : x.length = (tl x).length := by simp [tl, Str.length]
theorem ext_tl {x y : Str} (h : tl x = tl y) : x = y := Str.ext' (Array.toList_inj.mp h)
theorem tl_append (x y : Str) : tl (x ++ y) = tl x ++ tl y := by
  show (x ++ y).cps.toList = _
  rw [Str.cps_append, Array.toList_append]
theorem map_tl_inj : ∀ {l m : List Str}, l.map tl = m.map tl → l = m
  | [], [], _ => rfl
  | [], _ :: _, h => by simp at h
  | _ :: _, [], h => by simp at h
  | x :: l, y :: m, h => by
    rw [List.map_cons, List.map_cons] at h
    injection h with h1 h2
    rw [ext_tl h1, map_tl_inj h2]
/-- S stands at the head of l -/
def pre (S l : List Nat) : Bool := l.take S.length == S
/-- l cut at each S from the left; k signs are still to be passed over -/
def spl (S : List Nat) : Nat → List Nat → List Nat → List (List Nat)
  | _, acc, [] => [acc]
  | 0, acc, c :: r => if pre S (c :: r) = true then acc :: spl S (S.length - 1) [] r else spl S 0 (acc ++ [c]) r
  | k + 1, acc, _ :: r => spl S k acc r
/-- what stands before the first S, and behind it -/
def par (S : List Nat) : List Nat → List Nat → Option (List Nat × List Nat)
  | _, [] => none
  | acc, c :: r => if pre S (c :: r) = true then some (acc, (c :: r).drop S.length) else par S (acc ++ [c]) r
theorem spl_nil (S : List Nat) (k : Nat) (acc : List Nat) : spl S k acc [] = [acc] := by cases k <;> rfl
theorem spl_hit {S acc r : List Nat} {c : Nat} (h : pre S (c :: r) = true) : spl S 0 acc (c :: r) = acc :: spl S (S.length - 1) [] r := by
  show (if pre S (c :: r) = true then acc :: spl S (S.length - 1) [] r else spl S 0 (acc ++ [c]) r) = _
  rw [if_pos h]
theorem spl_miss {S acc r : List Nat} {c : Nat} (h : pre S (c :: r) = false) : spl S 0 acc (c :: r) = spl S 0 (acc ++ [c]) r := by
  show (if pre S (c :: r) = true then acc :: spl S (S.length - 1) [] r else spl S 0 (acc ++ [c]) r) = _
  rw [if_neg (by rw [h]; exact Bool.false_ne_true)]
theorem spl_pass (S : List Nat) : ∀ (k : Nat) (acc l : List Nat), spl S k acc l = spl S 0 acc (l.drop k)
  | 0, _, _ => by rw [List.drop_zero]
  | k + 1, acc, [] => by rw [List.drop_nil, spl_nil, spl_nil]
  | k + 1, acc, c :: r => by
    show spl S k acc r = spl S 0 acc (r.drop k)
    exact spl_pass S k acc r
theorem pre_nil {S : List Nat} (hS : S ≠ []) : pre S [] = false := by
  cases S with
  | nil => exact absurd rfl hS
  | cons s S => rfl
theorem pre_of_head {s c : Nat} (S r : List Nat) (h : c ≠ s) : pre (s :: S) (c :: r) = false := by
  cases hp : pre (s :: S) (c :: r) with
  | false => rfl
  | true =>
    have e : (c :: r).take (s :: S).length = s :: S := eq_of_beq hp
    rw [List.length_cons, List.take_succ_cons] at e
    injection e with e1 e2
    exact absurd e1 h
theorem pre_self (S r : List Nat) : pre S (S ++ r) = true := by
  show ((S ++ r).take S.length == S) = true
  have e : (S ++ r).take S.length = S := List.take_left
  rw [e] <;> exact beq_self_eq_true S
theorem getElem_drop_cons {L : List Nat} {a : Nat} (h : a < L.length) : ∃ c, L.drop a = c :: L.drop (a + 1) := ⟨L[a], List.drop_eq_getElem_cons h⟩
theorem spl_run (S L : List Nat) : ∀ (m a : Nat) (acc : List Nat), a + m ≤ L.length → (∀ k, a ≤ k → k < a + m → pre S (L.drop k) = false) →
    spl S 0 acc (L.drop a) = spl S 0 (acc ++ (L.drop a).take m) (L.drop (a + m))
  | 0, a, acc, _, _ => by rw [List.take_zero, List.append_nil, Nat.add_zero]
  | m + 1, a, acc, h, hn => by
    have hlt : a < L.length := by omega
    obtain ⟨c, e⟩ := getElem_drop_cons hlt
    have h0 := hn a (Nat.le_refl _) (by omega)
    have ih := spl_run S L m (a + 1) (acc ++ [c]) (by omega) (fun k h1 h2 => hn k (by omega) (by omega))
    have e2 : a + 1 + m = a + (m + 1) := by omega
    rw [e2] at ih
    rw [e] at h0
    rw [e, spl_miss h0, ih, List.take_succ_cons, List.append_assoc] <;> rfl
theorem drop_two (L : List Nat) (a b : Nat) : (L.drop a).drop b = L.drop (a + b) := by
  first
    | rw [List.drop_drop]
    | rw [List.drop_drop, Nat.add_comm]
theorem spl_at {S L : List Nat} (hS : S ≠ []) {c : Nat} {acc : List Nat} (h : pre S (L.drop c) = true) : spl S 0 acc (L.drop c) = acc :: spl S 0 [] (L.drop (c + S.length)) := by
  rw [← drop_two]
  cases e : L.drop c with
  | nil => rw [e, pre_nil hS] at h; cases h
  | cons d r =>
    rw [e] at h
    rw [spl_hit h, spl_pass]
    cases S with
    | nil => exact absurd rfl hS
    | cons s S => rfl
theorem at_iff {x y : Str} (hy : tl y ≠ []) (i : Nat) : At x y x.length i ↔ pre (tl y) ((tl x).drop i) = true := by
  have hx := len_tl x
  have hl := len_tl y
  constructor
  · intro h
    have h2 := h.2
    rw [subAt_eq, hl] at h2
    exact h2
  · intro h
    have e : ((tl x).drop i).take (tl y).length = tl y := eq_of_beq h
    have e1 := congrArg List.length e
    rw [List.length_take, List.length_drop] at e1
    have e2 : 0 < (tl y).length := List.length_pos_iff.mpr hy
    refine ⟨by omega, ?_⟩
    rw [subAt_eq, hl]
    exact h
theorem no_at {x y : Str} (hy : tl y ≠ []) {i : Nat} (h : ¬ At x y x.length i) : pre (tl y) ((tl x).drop i) = false := by
  cases hp : pre (tl y) ((tl x).drop i) with
  | false => rfl
  | true => exact absurd ((at_iff hy i).mpr hp) h
theorem len1 {y : Str} (hy : tl y ≠ []) : 1 ≤ y.length := by
  have e2 : 0 < (tl y).length := List.length_pos_iff.mpr hy
  rw [len_tl y]
  exact e2
theorem tl_strSub (x : Str) (i j : Nat) : tl (strSub x i j) = ((tl x).drop i).take (j - i) := strSub_toList x i j
theorem tl_strSub_end (x : Str) (i : Nat) : tl (strSub x i x.length) = (tl x).drop i := by
  rw [tl_strSub, len_tl x]
  exact List.take_of_length_le (by rw [List.length_drop] <;> omega)
theorem parts_spl {x y : Str} (hy : tl y ≠ []) : ∀ (cuts : List Nat) (a f : Nat), a ≤ (tl x).length → ChainG x y x.length a cuts f → (∀ k, f ≤ k → ¬ At x y x.length k) →
    (partsFrom x y.length a cuts).map tl = spl (tl y) 0 [] ((tl x).drop a)
  | [], a, f, ha, h, hn => by
    have e : f = a := h
    subst e
    show [tl (strSub x f x.length)] = _
    have run := spl_run (tl y) (tl x) ((tl x).length - f) f [] (by omega) (fun k h1 _ => no_at hy (hn k h1))
    have e2 : f + ((tl x).length - f) = (tl x).length := by omega
    rw [e2, List.drop_length, spl_nil, List.nil_append, List.take_of_length_le (by rw [List.length_drop] <;> omega)] at run
    rw [run, tl_strSub_end]
  | c :: r, a, f, ha, h, hn => by
    obtain ⟨h1, h2, h3, h4⟩ := h
    have hc : c + y.length ≤ x.length := h2.1
    have hx := len_tl x
    have hl := len_tl y
    have ih := parts_spl hy r (c + y.length) f (by omega) h4 hn
    show tl (strSub x a c) :: (partsFrom x y.length (c + y.length) r).map tl = _
    have run := spl_run (tl y) (tl x) (c - a) a [] (by omega) (fun k k1 k2 => no_at hy (h3 k k1 (by omega)))
    have e2 : a + (c - a) = c := by omega
    rw [e2, List.nil_append, spl_at hy ((at_iff hy c).mp h2)] at run
    rw [run, ih, tl_strSub, hl]
/-- hk: by kind_ok where the separator is plain -/
theorem split_spl (x y : Str) (hy : tl y ≠ []) (hk : ¬ Builtin.Str.strKind x < Builtin.Str.strKind y) : (Txt.split x y).map tl = spl (tl y) 0 [] (tl x) := by
  obtain ⟨f, g, hn⟩ := occ_tight x y (len1 hy)
  have key := parts_spl hy _ 0 f (Nat.zero_le _) g hn
  rw [List.drop_zero] at key
  have none_case : occurrences x y 0 x.length (x.length + 1) = [] → [x].map tl = spl (tl y) 0 [] (tl x) := fun ho => by
    rw [ho] at key
    rw [← key]
    show [tl x] = [tl (strSub x 0 x.length)]
    rw [sub_whole]
  unfold Txt.split
  by_cases h1 : (decide (x.length < y.length) || decide (Builtin.Str.strKind x < Builtin.Str.strKind y)) = true
  · rw [if_pos h1]
    have hlt : x.length < y.length := by
      simp only [Bool.or_eq_true, decide_eq_true_eq] at h1
      rcases h1 with h | h
      · exact h
      · exact absurd h hk
    refine none_case ?_
    cases ho : occurrences x y 0 x.length (x.length + 1) with
    | nil => rfl
    | cons c r =>
      rw [ho] at g
      have hc : c + y.length ≤ x.length := g.2.1.1
      omega
  · rw [if_neg h1]
    by_cases h2 : (occurrences x y 0 x.length (x.length + 1)).isEmpty = true
    · rw [if_pos h2]
      exact none_case (List.isEmpty_iff.mp h2)
    · rw [if_neg h2, partsBetween_eq]
      exact key
theorem kind_ok {x y : Str} (h : y.cps.all (· < 256) = true) : ¬ Builtin.Str.strKind x < Builtin.Str.strKind y := by
  have e : Builtin.Str.strKind y = 1 := by unfold PySem.Builtin.Str.strKind; rw [if_pos h]
  rw [e]
  unfold PySem.Builtin.Str.strKind
  split
  · omega
  · split <;> omega
/-- a part that the separator does not begin in, then the separator -/
theorem spl_part {S p rest acc : List Nat} (hS : S ≠ []) (h : ∀ i, i < p.length → pre S ((p ++ (S ++ rest)).drop i) = false) :
    spl S 0 acc (p ++ (S ++ rest)) = (acc ++ p) :: spl S 0 [] rest := by
  have run := spl_run S (p ++ (S ++ rest)) p.length 0 acc (by rw [List.length_append]; omega) (fun k _ k2 => h k (by omega))
  have ed : (p ++ (S ++ rest)).drop p.length = S ++ rest := List.drop_left
  rw [List.drop_zero, Nat.zero_add, List.take_left] at run
  rw [run, spl_at hS (by rw [ed]; exact pre_self S rest), ← drop_two, ed, List.drop_left]
theorem spl_last {S p acc : List Nat} (h : ∀ i, i < p.length → pre S (p.drop i) = false) : spl S 0 acc p = [acc ++ p] := by
  have run := spl_run S p p.length 0 acc (by omega) (fun k _ k2 => h k (by omega))
  rw [List.drop_zero, Nat.zero_add, List.drop_length, spl_nil, List.take_length] at run
  exact run
/-- the separator's first sign is not in the part -/
theorem free_of {s : Nat} {S p q : List Nat} (h : s ∉ p) : ∀ i, i < p.length → pre (s :: S) ((p ++ q).drop i) = false := fun i hi => by
  have hlt : i < (p ++ q).length := by rw [List.length_append]; omega
  have e : (p ++ q).drop i = (p ++ q)[i] :: (p ++ q).drop (i + 1) := List.drop_eq_getElem_cons hlt
  rw [e]
  refine pre_of_head _ _ fun z => h ?_
  have e1 : (p ++ q)[i] = p[i] := List.getElem_append_left hi
  rw [← z, e1]
  exact List.getElem_mem hi
theorem spl_part1 {s : Nat} {S p rest acc : List Nat} (h : s ∉ p) : spl (s :: S) 0 acc (p ++ (s :: S ++ rest)) = (acc ++ p) :: spl (s :: S) 0 [] rest :=
  spl_part (by simp) (free_of h)
theorem spl_last1 {s : Nat} {S p acc : List Nat} (h : s ∉ p) : spl (s :: S) 0 acc p = [acc ++ p] := spl_last fun i hi => by
  have z := free_of (S := S) (q := []) h i hi
  rw [List.append_nil] at z
  exact z
/-- joined lists -/
def joinL (S : List Nat) : List (List Nat) → List Nat
  | [] => []
  | [p] => p
  | p :: q :: r => p ++ (S ++ joinL S (q :: r))
theorem tl_join (y : Str) : ∀ parts : List Str, tl (Str.join y parts) = joinL (tl y) (parts.map tl)
  | [] => rfl
  | [_] => rfl
  | x :: z :: r => by
    show tl (x ++ y ++ Str.join y (z :: r)) = tl x ++ (tl y ++ joinL (tl y) ((z :: r).map tl))
    rw [tl_append, tl_append, tl_join y (z :: r), List.append_assoc]
theorem spl_join {s : Nat} {S : List Nat} : ∀ {parts : List (List Nat)}, parts ≠ [] → (∀ p ∈ parts, s ∉ p) → spl (s :: S) 0 [] (joinL (s :: S) parts) = parts
  | [], h, _ => absurd rfl h
  | [p], _, hp => by
    show spl (s :: S) 0 [] p = [p]
    rw [spl_last1 (hp p (List.mem_singleton.mpr rfl)), List.nil_append]
  | p :: q :: r, _, hp => by
    show spl (s :: S) 0 [] (p ++ (s :: S ++ joinL (s :: S) (q :: r))) = p :: q :: r
    rw [spl_part1 (hp p (List.mem_cons_self ..)), List.nil_append, spl_join (by simp) fun z hz => hp z (List.mem_cons_of_mem _ hz)]
theorem join_eq (y : Str) (parts : List Str) : Txt.join y parts = Str.join y parts := glued_eq_join y parts
/-- THE READ-BACK: a joined text, split -/
theorem split_join {y : Str} {s : Nat} {S : List Nat} (ey : tl y = s :: S) (hk : y.cps.all (· < 256) = true) {parts : List Str} (hne : parts ≠ []) (hp : ∀ p ∈ parts, s ∉ tl p) :
    Txt.split (Txt.join y parts) y = parts := by
  refine map_tl_inj ?_
  rw [split_spl _ y (by rw [ey]; simp) (kind_ok hk), join_eq, tl_join, ey]
  refine spl_join (fun e => hne (List.map_eq_nil_iff.mp e)) fun p h => ?_
  obtain ⟨z, hz, rfl⟩ := List.mem_map.mp h
  exact hp z hz
end TL
end 
namespace L2
open PySem PySem.Spec PyProof.Rows
/-- a list of texts, of numbered texts -/
theorem vals_strs : ∀ l : List (Str × Tok), Vals ((l.map (·.1)).map V.str) (strValues l)
  | [] => .nil
  | p :: r => .cons ⟨p.2, rfl⟩ (vals_strs r)
theorem strs_of_vals : ∀ {ys : List Str} {us : List Value}, Vals (ys.map V.str) us → StrsAre us ys
  | [], _, .nil => .nil
  | y :: ys, _, .cons r t => by
    obtain ⟨k, rfl⟩ := r
    exact .cons y k (strs_of_vals t)
/-- a new list of texts, tracked -/
def rNewStrs (ys : List Str) : Hp → VK → Prop := fun H Q => ∀ p, H p = none → Q (.ref p) (upd H p (.lst (ys.map V.str)))
section
variable {X : Cx} {pins : List (Addr × Obj)} {σ : St} {H : Hp} {s : Shared} {Q : VK}
theorem laid_strs {l : List (Str × Tok)} {ys : List Str} {k : Nat} (I : Inv X pins σ H s) (e : l.map (·.1) = ys) (hz : ys.length ≤ sizeLine) (h : rNewStrs ys H Q) :
    EP X pins σ Q (.ref s.heap.objs.size) { s with toks := k, heap := s.heap.push { cls := .type "list", data := .seq (strValues l).toArray } } := by
  have hp := I.hok.fresh (Nat.le_refl _)
  refine ⟨.ref s.heap.objs.size, upd H s.heap.objs.size (.lst (ys.map V.str)), I.laid (fun b u q => Heap.get?_push_of_some _ q) (Nat.le_refl _) ⟨by rw [List.length_map]; exact hz, strValues l, _, ?_, Heap.get?_push_size _ rfl⟩, rfl, h _ hp⟩
  rw [← e]
  exact vals_strs l
end
section
variable {X : Cx}
/-- x.split(sep) -/
theorem mt_split : MtR X "str.split" (fun x xs H Q => ∃ a b, x = .str a ∧ xs = [.str b] ∧ (b.length == 0) = false ∧ a.length + 2 ≤ sizeLine ∧ rNewStrs (Txt.split a b) H Q) := by
  intro pins s σ H x xs v us Q I rx rs h
  obtain ⟨a, b, rfl, rfl, hb, hz, h⟩ := h
  obtain ⟨t, rfl⟩ := rx
  cases rs with
  | cons r1 rs =>
    cases rs
    obtain ⟨u, rfl⟩ := r1
    have hl : (Txt.split a b).length ≤ sizeLine := Nat.le_trans (PyProof.Rows.split_le a b) hz
    have hn : (Builtin.Str.partsBetween a (Builtin.Str.occurrences a b 0 a.length (a.length + 1)) b.length).length ≤ sizeLine := by
      have e1 := StrLaws.occ_length_le a b 0 a.length (a.length + 1)
      rw [length_partsBetween]; omega
    cases h1 : (decide (a.length < b.length) || decide (Builtin.Str.strKind a < Builtin.Str.strKind b))
    · cases hf : (Builtin.Str.occurrences a b 0 a.length (a.length + 1)).isEmpty
      · refine call_meets F.slot_str_split (typeIs_str _ _ _) F.entry_str_split (F.args_str_split_2 _ _) (meets_str_split_sep a b t u h1 hb hf (by omega) hn) ?_
        show EP X pins σ Q (.ref s.heap.objs.size) { s with toks := _, heap := s.heap.push { cls := .type "list", data := .seq (strsFrom s.toks (Builtin.Str.partsBetween a (Builtin.Str.occurrences a b 0 a.length (a.length + 1)) b.length)).toArray } }
        rw [strsFrom_eq]
        exact laid_strs (ys := Txt.split a b) I ((numbered_texts _ _).trans ((if_neg (ne_true_of_eq_false h1)).trans (if_neg (ne_true_of_eq_false hf))).symm) hl h
      · refine call_meets F.slot_str_split (typeIs_str _ _ _) F.entry_str_split (F.args_str_split_2 _ _) (meets_str_split_not_found a b t u h1 hb hf) ?_
        exact laid_strs (l := [(a, t)]) (ys := Txt.split a b) (k := s.toks) I ((if_neg (ne_true_of_eq_false h1)).trans (if_pos hf)).symm hl h
    · refine call_meets F.slot_str_split (typeIs_str _ _ _) F.entry_str_split (F.args_str_split_2 _ _) (meets_str_split_cannot_occur a b t u h1) ?_
      exact laid_strs (l := [(a, t)]) (ys := Txt.split a b) (k := s.toks) I (if_pos h1).symm hl h
/-- sep.join(a list | a tuple of texts) -/
theorem mt_join : MtR X "str.join" (fun x xs H Q => ∃ a p, ∃ ys : List Str, x = .str a ∧ xs = [.ref p] ∧ (SqL X.K H p (ys.map V.str) ∨ SqT X.K H p (ys.map V.str)) ∧
    (ys.map (·.length)).sum + ys.length * a.length ≤ 16777216 ∧ Q (.str (Txt.join a ys)) H) := by
  intro pins s σ H x xs v us Q I rx rs h
  obtain ⟨a, p, ys, rfl, rfl, hp, hz, h⟩ := h
  obtain ⟨t, rfl⟩ := rx
  cases rs with
  | cons r1 rs =>
    cases rs
    cases r1
    rcases hp with hp | hp
    · obtain ⟨its, r, ⟨o, n, ho, hc, _, hd⟩, _⟩ := I.list hp
      exact PyProof.Rows.join_list (items := its.toArray) ⟨o, ho, hc, n, hd⟩ (by rw [List.toList_toArray]; exact strs_of_vals r) hz fun t' k => ⟨.str _, H, I.tok k, ⟨t', rfl⟩, h⟩
    · obtain ⟨its, r, ht, _⟩ := I.tuple hp
      exact PyProof.Rows.join_tuple (items := its.toArray) ht (by rw [List.toList_toArray]; exact strs_of_vals r) hz fun t' k => ⟨.str _, H, I.tok k, ⟨t', rfl⟩, h⟩
/-- int(text) -/
theorem call_int_str : CallR X (.type "int") (fun xs H Q => ∃ a n, xs = [.str a] ∧ PySem.intText? a = some n ∧ a.length ≤ 640 ∧ Q (.int n) H) := by
  intro pins s σ H xs us Q I rs h
  obtain ⟨a, n, rfl, hn, hl, h⟩ := h
  cases rs with
  | cons r1 rs =>
    cases rs
    obtain ⟨t, rfl⟩ := r1
    exact PySem.W.KIN.call_text hn hl ⟨.int n, H, I.tok _, ⟨_, rfl⟩, h⟩
end
section
variable {X : Cx} {o e : Expr} {to te : TE}
def tM1 (r : V → List V → Hp → VK → Prop) (to te : TE) : TE := fun σ H Q => to σ H fun x H1 => (∃ a, x = .str a) ∧ te σ H1 fun y H2 => r x [y] H2 Q
theorem pe_m1 {id : String} {name : Str} {apos pos : Pos} {r : V → List V → Hp → VK → Prop} (slot : Slot "str" name id) (ty : typeOf (.builtin id) = pure (.type "method_descriptor")) (rule : MtR X id r) (ho : PE X o to) (he : PE X e te)
    (hs : starEach [e] X.env = [(false, eval e X.env)] := by rfl) (hbase : attributeBase o name X.env (eval o X.env) = eval o X.env := by rfl) (hline : (apos.endLine == pos.line) = true := by rfl) :
    PE X (.Call (.Attribute o name apos) [e] [] pos) (tM1 r to te) := by
  intro pins s σ H Q I h
  refine PySem.Call_method1 hbase hs hline (thn (ho s σ H _ I h) fun v s1 ⟨x, H1, I1, r1, q1⟩ => ?_)
  obtain ⟨⟨a, rfl⟩, q1⟩ := q1
  obtain ⟨t, rfl⟩ := _root_.id r1
  refine ⟨"str", _, F.plainAttrs_str, slot, ty, typeIs_str _ _ _, (fun _ e => nomatch e), Calls.callWith_builtin rfl (Calls.evalArgs_plain (Calls.spliced_cons ?_))⟩
  exact thn (he s1 σ H1 _ I1 q1) fun u s2 ⟨y, H2, I2, r2, q2⟩ => Calls.spliced_nil (rule s2 σ H2 _ [y] _ [u] Q I2 r1 (.cons r2 .nil) q2)
theorem pe_split {apos pos : Pos} (ho : PE X o to) (he : PE X e te) (hs : starEach [e] X.env = [(false, eval e X.env)] := by rfl) (hbase : attributeBase o "split" X.env (eval o X.env) = eval o X.env := by rfl) (hline : (apos.endLine == pos.line) = true := by rfl) :
    PE X (.Call (.Attribute o "split" apos) [e] [] pos) (tM1 (fun x xs H Q => ∃ a b, x = .str a ∧ xs = [.str b] ∧ (b.length == 0) = false ∧ a.length + 2 ≤ sizeLine ∧ rNewStrs (Txt.split a b) H Q) to te) :=
  pe_m1 F.slot_str_split F.type_str_split mt_split ho he hs hbase hline
theorem pe_join {apos pos : Pos} (ho : PE X o to) (he : PE X e te) (hs : starEach [e] X.env = [(false, eval e X.env)] := by rfl) (hbase : attributeBase o "join" X.env (eval o X.env) = eval o X.env := by rfl) (hline : (apos.endLine == pos.line) = true := by rfl) :
    PE X (.Call (.Attribute o "join" apos) [e] [] pos) (tM1 (fun x xs H Q => ∃ a p, ∃ ys : List Str, x = .str a ∧ xs = [.ref p] ∧ (SqL X.K H p (ys.map V.str) ∨ SqT X.K H p (ys.map V.str)) ∧
      (ys.map (·.length)).sum + ys.length * a.length ≤ 16777216 ∧ Q (.str (Txt.join a ys)) H) to te) :=
  pe_m1 F.slot_str_join F.type_str_join mt_join ho he hs hbase hline
end
end L2
namespace L2
open PySem PySem.Spec PyProof.Rows
section
variable {X : Cx}
theorem op_gt_str : OpR X (compareOp .Gt) (fun x y H Q => ∃ i j, x = .str i ∧ y = .str j ∧ Q (.bl (decide (j.cps.toList < i.cps.toList))) H) := by
  intro pins s σ H x y v u Q I rx ry h
  obtain ⟨i, j, rfl, rfl, q⟩ := h
  obtain ⟨t, rfl⟩ := rx
  obtain ⟨t', rfl⟩ := ry
  exact PySem.P.gt_str (fin_bl I q rfl)
/-- one sign in a text -/
theorem op_in_sign : OpR X (compareOp .In) (fun x y H Q => ∃ (c : Nat) (z : Str), x = .str ⟨#[c]⟩ ∧ y = .str z ∧ Q (.bl (decide (c ∈ z.cps.toList))) H) := by
  intro pins s σ H x y v u Q I rx ry h
  obtain ⟨c, z, rfl, rfl, q⟩ := h
  obtain ⟨t, rfl⟩ := rx
  obtain ⟨t', rfl⟩ := ry
  exact PyProof.Rows.in_str (fin_bl I q (PySem.StrLaws.found_one z c).symm)
end
theorem IsPart.raw {v : Value} {o : Option Int} (p : IsPart v o) : ∃ l : Option (Int × Tok), v = partValue l ∧ l.map (·.1) = o := by
  cases p with
  | none => exact ⟨none, rfl, rfl⟩
  | int i t => exact ⟨some (i, t), rfl, rfl⟩
/-- a part, clipped, as the text's slice reckons it -/
def clipS (n d : Nat) : Option Int → Int
  | none => (d : Int)
  | some i => max 0 (min (if i < 0 then i + (n : Int) else i) (n : Int))
theorem clipS_eq (n d : Nat) (o : Option Int) : clipS n d o = ((HT.sIx n d o : Nat) : Int) := by
  cases o with
  | none => rfl
  | some v =>
    show max (0 : Int) (min (if v < 0 then v + (n : Int) else v) (n : Int)) = (((if v < 0 then (v + (n : Int)).toNat else min v.toNat n) : Nat) : Int)
    by_cases hv : v < 0
    · simp only [if_pos hv]
      omega
    · simp only [if_neg hv]
      omega
theorem sidx_clip (a b : Option Int) (n : Nat) : Builtin.Str.strSliceIndices a b 1 n = sliceRange (clipS n 0 a) (clipS n n b) 1 := by
  have h1 : ((1 : Int) > 0) = True := by simp
  cases a <;> cases b <;> first
    | rfl
    | (simp only [Builtin.Str.strSliceIndices, clipS, h1, if_true]; rfl)
    | simp [Builtin.Str.strSliceIndices, clipS]
theorem sidx (a b : Option Int) (n : Nat) : Builtin.Str.strSliceIndices a b 1 n = (List.range (HT.sIx n n b - HT.sIx n 0 a)).map (fun k => HT.sIx n 0 a + k) := by
  rw [sidx_clip, clipS_eq, clipS_eq]
  generalize HT.sIx n 0 a = p
  generalize HT.sIx n n b = q
  simp only [sliceRange, show ((1 : Int) > 0) = True from by simp, if_true]
  by_cases hlt : (p : Int) < q
  · have e3 : (((q : Int) - p + 1 - 1) / 1).toNat = q - p := by first | omega | (simp; done) | (simp; omega)
    simp only [hlt, if_true, e3]
    refine List.map_congr_left fun k _ => ?_
    omega
  · have : q - p = 0 := by omega
    simp [hlt, this]
/-- z[lo:hi] -/
def cutS (z : Str) (lo hi : Option Int) : Str :=
  ⟨((z.cps.toList.drop (HT.sIx z.length 0 lo)).take (HT.sIx z.length z.length hi - HT.sIx z.length 0 lo)).toArray⟩
theorem sliceText_cut (z : Str) (lo hi : Option Int) : PySem.StrLaws.sliceText z lo hi = cutS z lo hi := by
  have h1 : HT.sIx z.length 0 lo ≤ z.length := HT.sIx_le _ _ (Nat.zero_le _) _
  have h2 : HT.sIx z.length z.length hi ≤ z.length := HT.sIx_le _ _ (Nat.le_refl _) _
  have hp : HT.sIx z.length 0 lo ≤ max (HT.sIx z.length 0 lo) (HT.sIx z.length z.length hi) := Nat.le_max_left _ _
  have hq : max (HT.sIx z.length 0 lo) (HT.sIx z.length z.length hi) ≤ z.length := Nat.max_le.mpr ⟨h1, h2⟩
  have hd : max (HT.sIx z.length 0 lo) (HT.sIx z.length z.length hi) - HT.sIx z.length 0 lo = HT.sIx z.length z.length hi - HT.sIx z.length 0 lo := by omega
  have e : Builtin.Str.strSliceIndices lo hi 1 z.length =
      Builtin.Str.strSliceIndices (some ((HT.sIx z.length 0 lo : Nat) : Int)) (some ((max (HT.sIx z.length 0 lo) (HT.sIx z.length z.length hi) : Nat) : Int)) 1 z.length := by
    rw [PySem.StrLaws.strSliceIndices_plain hp hq, hd, sidx]
  have e2 : PySem.StrLaws.sliceText z lo hi =
      PySem.StrLaws.sliceText z (some ((HT.sIx z.length 0 lo : Nat) : Int)) (some ((max (HT.sIx z.length 0 lo) (HT.sIx z.length z.length hi) : Nat) : Int)) := by
    unfold PySem.StrLaws.sliceText
    rw [e]
  rw [e2, PySem.StrLaws.sliceText_nat z hp hq, hd]
  rfl
theorem cutS_length (z : Str) (lo hi : Option Int) : (cutS z lo hi).length ≤ z.length := by
  show (((z.cps.toList.drop (HT.sIx z.length 0 lo)).take (HT.sIx z.length z.length hi - HT.sIx z.length 0 lo)).toArray).size ≤ z.cps.size
  rw [List.size_toArray, List.length_take, List.length_drop, Array.length_toList]
  omega
def rSlS : V → Option Int → Option Int → Hp → VK → Prop := fun x lo hi H Q => ∃ z, x = .str z ∧ z.length ≤ sizeLine ∧ Q (.str (cutS z lo hi)) H
theorem sl_str {X : Cx} : SlR X rSlS := by
  intro pins s σ H x v vl vu lo hi sl Q I rx hs pl pu h
  obtain ⟨z, rfl, hz, q⟩ := h
  obtain ⟨t, rfl⟩ := rx
  obtain ⟨os, hos, hcs, hds⟩ := hs
  obtain ⟨l, rfl, rfl⟩ := IsPart.raw pl
  obtain ⟨u, rfl, rfl⟩ := IsPart.raw pu
  refine ⟨"str", _, F.slot_str_getitem.lookup, typeIs_str _ _ _, ?_⟩
  refine wpAny_getItem_str_slice (l := l) (u := u) (st := none) ⟨os, hos, hcs, hds⟩ rfl ?_
  have hl : (PySem.StrLaws.sliceText z (l.map (·.1)) (u.map (·.1))).length ≤ sizeLine := by
    rw [sliceText_cut]
    exact Nat.le_trans (cutS_length z _ _) hz
  rw [← sliceText_cut] at q
  unfold PySem.StrLaws.sliceText at q hl
  show Made.post (if ((1 : Int) == 1 && (Builtin.Str.strSliceIndices (l.map (·.1)) (u.map (·.1)) 1 z.length).length == z.length) = true then Made.val (.str z t)
    else Made.str ⟨((Builtin.Str.strSliceIndices (l.map (·.1)) (u.map (·.1)) 1 z.length).filterMap (z.cps[·]?)).toArray⟩) (EP X pins σ Q) s
  by_cases c : ((1 : Int) == 1 && (Builtin.Str.strSliceIndices (l.map (·.1)) (u.map (·.1)) 1 z.length).length == z.length) = true
  · rw [if_pos c] at q ⊢
    exact ⟨.str z, H, I, ⟨t, rfl⟩, q⟩
  · rw [if_neg c] at q hl ⊢
    exact ⟨hl, .str _, H, I.tok _, ⟨_, rfl⟩, q⟩
end L2
namespace Att
open PySem PySem.W PySem.Calls PyProof.Rows
theorem ints_of_wellAll {P : Params} {h : Heap} : ∀ (ns : List Int) (vs : List Value), WellAll P h vs (ns.map WData.int) → IntsAre vs ns := by
  intro ns
  induction ns with
  | nil =>
    intro vs w
    rw [List.map_nil] at w
    cases w
    exact .nil
  | cons n ns ih =>
    intro vs w
    rw [List.map_cons] at w
    cases w with
    | cons a b =>
      cases a
      exact .cons _ _ (ih _ b)
theorem script_of {l : OpenLaw} {n : Nat} (hn : l.most = some n) {P : Params} {h : Heap} {args : List WData} {vals : List Value}
    (hpre : l.row.toRowW.claim.pre args = true) (hwl : WellAll P h vals args) :
    ∃ a vs ns, vals = [Value.ref a] ∧ args = [WData.list (ns.map WData.int)] ∧ h.get? a = some { cls := .type "list", data := .seq vs.toArray } ∧ IntsAre vs ns ∧ ns.length ≤ n := by
  have hsh : WShape.hasAll [] args [.list .int] = true := (pre_splitW hpre).1
  have hc : l.pre.holds [] { args := args } = true := (pre_splitW hpre).2
  obtain ⟨d, r, rfl, h1, h2⟩ := hasAllW_cons hsh
  obtain rfl := hasAllW_nil h2
  obtain ⟨xs, rfl, h3⟩ := hasW_list h1
  obtain ⟨ns, rfl⟩ := items_int h3
  have hlen : ns.length ≤ n := by
    unfold OpenLaw.pre at hc
    have h4 : (WTm.not (.lt (.lit (.int (n : Int))) (.len (.arg 0)))).holds [] { args := [.list (ns.map .int)] } = true := by
      have h4 := (holds_andW hc).1
      rw [hn] at h4
      exact h4
    have h5 := condW_of h4 (w_not (w_lt w_lit (w_len_list (w_arg rfl))))
    rw [List.length_map] at h5
    refine Nat.le_of_not_lt fun q => ?_
    have q' : (n : Int) < ((ns.length : Nat) : Int) := by omega
    first
      | (rw [decide_eq_true q'] at h5; exact absurd h5 (by decide))
      | (simp at h5; omega)
  cases hwl with
  | cons w1 w2 =>
    cases w2
    cases w1 with
    | list ho hall => exact ⟨_, _, ns, rfl, rfl, ho, ints_of_wellAll ns _ hall, hlen⟩
theorem post_true (l : OpenLaw) (args : List WData) : l.row.toRowW.claim.post args (.bool true) args = true :=
  postW_of (r := l.row.toRowW) (X := (true == true))
    (show WShape.has [] (.bool true) .bool = true by first | rfl | decide | simp [WShape.has, WShape.arms, WShape.armsAll])
    (show (WTm.eq .res (.lit (.bool true))).value [] { args := args, res := some (.bool true), after := args } = some (.bool (true == true)) from w_eq_bool (w_res rfl) w_lit) rfl
section
variable {prog : Program} {w : World} {A : Around} {E : Value → Shared → Prop} {s : Shared} {K : Frag}
end
end Att
namespace L2
open PySem PySem.Spec PyProof.Rows
theorem vals_ints : ∀ {vs : List Value} {ns : List Int}, IntsAre vs ns → Vals (ns.map V.int) vs
  | _, _, .nil => .nil
  | _, _, .cons n t h => .cons ⟨t, rfl⟩ (vals_ints h)
end L2
namespace L2
open PySem PySem.Spec PyProof.Rows
end L2
namespace L2
open PySem PySem.Spec PyProof.Rows
/-- the j-th statement of a class's body -/
def inClass (s : Stmt) (j : Nat) : Stmt := match s with
  | .ClassDef _ _ _ body _ _ _ _ _ _ _ => body.getD j (.Pass ⟨0, 0, 0, 0⟩)
  | _ => .Pass ⟨0, 0, 0, 0⟩
def defArgs (s : Stmt) : Arguments := match s with
  | .FunctionDef _ a _ _ _ _ _ _ _ _ => a
  | _ => { posonlyargs := [], args := [], vararg := none, kwonlyargs := [], kw_defaults := [], kwarg := none, defaults := [] }
def defBody (s : Stmt) : List Stmt := match s with
  | .FunctionDef _ _ b _ _ _ _ _ _ _ => b
  | _ => []
def defScope (s : Stmt) : Scope := match s with
  | .FunctionDef _ _ _ _ _ _ sc _ _ _ => sc
  | _ => { kind := .function, names := [], isGenerator := false, isCoroutine := false }
abbrev CX0 : CXT := fun _ _ _ _ _ _ => False
abbrev E0 : XK := fun _ _ _ => False
theorem pass0 {X : Cx} : Passes CX0 X E0 := fun _ _ _ _ _ _ _ h => h.elim
structure Fun (K : PySem.W.Frag) (x qual : Str) (st : Stmt) (f : Addr) (fd : FuncData) : Prop where
  ex : ∃ (oc : Value) (od : Option Addr) (kV doc pm : Value) (an : Option Addr) (cdv ct : Value) (osl : Array (Option Value)),
    fd = PySem.W.fnOf x qual (defArgs st) (defBody st) (defScope st) .none kV doc pm an cdv ct ∧ K.lookup f = some ⟨oc, od, .func fd, osl⟩ ∧ PySem.W.codeIn K cdv qual = true
  kp : PySem.W.keepIn K (.ref f) = true
section
variable {P : Program} {w : World} {K : PySem.W.Frag} {mg : Str → Option Value} {base : Heap}
/-- THE RULE for a def: its body as a term of rules, and the reading of that term -/
theorem Fun.ok {x qual : Str} {st : Stmt} {f : Addr} {fd : FuncData} {N ps : List Str} {k : Nat} {sp : Sp} (F : Fun K x qual st f fd) (S : FnScope N ps (defScope st)) (len : ∀ vs H Q E, sp vs H Q E → vs.length = ps.length)
    (hbody : ∀ (cdv : Value) (A : Around) (outer : List Env) (s : Shared) (H : Hp) (vs : List V) (Q : VK) (E : XK), Room k (A.deeper (envOfC qual (defScope st) s.heap.objs.size f cdv)) → sp vs H Q E →
      ∃ t, PSs (cxOf CX0 P w K mg base N qual (defScope st) f cdv A outer s H E).nox (defBody st) t ∧ t { nx := fun _ H' => Q .non H', rt := Q } (start N vs) H) : FnOk P w K mg base CX0 (k + 1) f fd ps sp := by
  obtain ⟨oc, od, kV, doc, pm, an, cdv, ct, osl, rfl, lk, hcd⟩ := F.ex
  refine fn_of lk hcd S len fun A outer s H vs Q E hr hsp => ?_
  obtain ⟨t, h, q⟩ := hbody cdv A outer s H vs Q E hr hsp
  exact ⟨t, h.nox, q⟩
/-- how its arguments bind (no defaults): h is «fun _ _ _ _ _ _ us hl => match us, hl with | [_, _], _ => rfl», one _ a parameter -/
theorem Fun.binds {x qual : Str} {st : Stmt} {f : Addr} {fd : FuncData} {ps : List Str} (F : Fun K x qual st f fd)
    (h : ∀ (kV doc pm : Value) (an : Option Addr) (cdv ct : Value) (us : List Value), us.length = ps.length → bindArgs (PySem.W.fnOf x qual (defArgs st) (defBody st) (defScope st) .none kV doc pm an cdv ct) ⟨us, []⟩ = pure (ps.zip us)) : Binds K fd ps [] := by
  obtain ⟨oc, od, kV, doc, pm, an, cdv, ct, osl, rfl, lk, hcd⟩ := F.ex
  exact .all (h kV doc pm an cdv ct)
theorem fun_mk {x qual : Str} {st : Stmt} {f : Addr} {oc : Value} {od an : Option Addr} {osl : Array (Option Value)} {kV doc pm cdv ct : Value} (l : K.lookup f = some ⟨oc, od, .func (PySem.W.fnOf x qual (defArgs st) (defBody st) (defScope st) .none kV doc pm an cdv ct), osl⟩)
    (c : PySem.W.codeIn K cdv qual = true) (k : PySem.W.keepIn K (.ref f) = true) : Fun K x qual st f (PySem.W.fnOf x qual (defArgs st) (defBody st) (defScope st) .none kV doc pm an cdv ct) := ⟨⟨oc, od, kV, doc, pm, an, cdv, ct, osl, rfl, l, c⟩, k⟩
end
theorem small1000 {n : Nat} (h : n ≤ 1000) : n < sizeLine := Nat.lt_of_le_of_lt h (by decide)
section
variable {X : Cx}
theorem pv (i : Nat) {x : Str} {pos : Pos} (hN : X.N[i]? = some x := by rfl) (hv : Vis X.env.scope x := by first | exact Or.inl rfl | exact Or.inr (Or.inl rfl) | exact Or.inr (Or.inr rfl)) (hd : (x == ("__debug__" : Str)) = false := by decide)
    (hcd : (x == ("__classdict__" : Str)) = false := by decide) : PE X (.Name x pos) (tVar i) := pe_var hN hv hd hcd
end
theorem iteF {A B : Prop} (h : B) : if false = true then A else B := by
  rw [if_neg Bool.false_ne_true]
  exact h
theorem iteT {A B : Prop} (h : A) : if true = true then A else B := by
  rw [if_pos rfl]
  exact h
theorem ite2 {c A B : Prop} [Decidable c] (h1 : c → A) (h2 : ¬ c → B) : if c then A else B := by
  by_cases h : c
  · rw [if_pos h]
    exact h1 h
  · rw [if_neg h]
    exact h2 h
/-- all that was tracked is as it was -/
def Same (H H' : Hp) : Prop := ∀ b o, H b = some o → H' b = some o
theorem Same.refl (H : Hp) : Same H H := fun _ _ h => h
theorem Same.trans {H H1 H2 : Hp} (a : Same H H1) (b : Same H1 H2) : Same H H2 := fun c o h => b c o (a c o h)
theorem Same.free {H H' : Hp} (e : Same H H') {l : Addr} (h : H' l = Option.none) : H l = Option.none := by
  cases q : H l with
  | none => rfl
  | some o =>
    rw [e l o q] at h
    cases h
theorem Same.seq {K : PySem.W.Frag} {H H' : Hp} {a : Addr} {xs : List V} (e : Same H H') (h : SqL K H a xs) : SqL K H' a xs := by
  rcases h with (h | ⟨o, h⟩) | h
  · exact .inl (.inl (e _ _ h))
  · exact .inl (.inr ⟨o, e _ _ h⟩)
  · exact .inr h
section
variable {κ : Type} [DecidableEq κ]
theorem nd_snoc : ∀ {l : List κ} {k : κ}, l.Nodup → ¬ k ∈ l → (l ++ [k]).Nodup
  | [], k, _, _ => by simp
  | a :: r, k, h, hk => by
    obtain ⟨h1, h2⟩ := List.nodup_cons.mp h
    show (a :: (r ++ [k])).Nodup
    refine List.nodup_cons.mpr ⟨fun m => ?_, nd_snoc h2 fun m => hk (List.mem_cons.mpr (Or.inr m))⟩
    rcases List.mem_append.mp m with q | q
    · exact h1 q
    · exact hk (List.mem_cons.mpr (Or.inl (List.mem_singleton.mp q).symm))
end
theorem at_of {xs : List V} {z : Int} {j : Nat} {v : V} (e : z = (j : Int)) (h : xs[j]? = some v) : atI xs z = some v := by
  rw [e]
  exact atI_nat h
/-- a new instance and its __init__ leave all that was tracked as it was -/
theorem Same.made {H H1 : Hp} {x dx C : Addr} (nx : H x = Option.none) (nd : H dx = Option.none) (k : ∀ b o, (upd (upd H dx (.own x)) x (.ins C dx [])) b = some o → b ≠ x → H1 b = some o) : Same H H1 := fun b o e =>
  k b o (by rw [upd_ne (ne_of_none e nx), upd_ne (ne_of_none e nd)]; exact e) (ne_of_none e nx)
end L2
set_option Elab.async false
set_option linter.all false
set_option maxRecDepth 100000
set_option maxHeartbeats 4000000
namespace L2
open PySem PySem.Spec PyProof.Rows
section
variable {X : Cx}
/-- a power whose size is bounded by bits -/
def CPowB (i j : Int) : Prop := 0 ≤ j ∧ (Builtin.Int.intBits i : Int) * j ≤ 2 ^ 27
theorem op_powB : OpR X (binaryOp .Pow) (rI CPowB fun i j => .int (i ^ j.toNat)) := opI fun _ _ _ _ _ _ _ hc q => pow_int hc.1 hc.2 q
theorem powB_of {i : Int} {k n : Nat} (h : i.natAbs < 2 ^ k) (hn : k * n ≤ 134217728) : CPowB i (n : Int) := by
  have h1 : Builtin.Int.intBits i ≤ k := PyProof.Rows.intBits_le h
  have h2 : Builtin.Int.intBits i * n ≤ k * n := Nat.mul_le_mul_right n h1
  refine ⟨by omega, ?_⟩
  have h3 : ((Builtin.Int.intBits i * n : Nat) : Int) ≤ 134217728 := by omega
  rw [Int.natCast_mul] at h3
  exact Int.le_trans h3 (by decide)
/-- xs[i], by values, any sign -/
theorem get_list : PGet X (rIxL X.K) := by
  intro pins s σ H o i ov iv Q I ro ri h
  obtain ⟨p, xs, k, z, rfl, rfl, hq, he, q⟩ := h
  cases ro
  obtain ⟨t, rfl⟩ := ri
  obtain ⟨its, r, pl, hz⟩ := I.list hq
  obtain ⟨j, h1, h2, h3, h4, h5⟩ := atI_get he
  obtain ⟨w, ew, rw'⟩ := r.get h2
  have hl := r.length
  have hn := line63
  have fin : EP X pins σ Q w s := ⟨z, H, I, rw', q⟩
  by_cases h0 : 0 ≤ k
  · have hj : k.toNat = j := by
      rw [seqIndex_of h0 h5] at h1
      exact Option.some.inj h1
    exact wpAny_getItem_list pl.isList h0 (by omega) (by rw [hj]; simpa using ew) fin
  · have hj : (k + (its.toArray.size : Int)).toNat = j := by
      rw [seqIndex_neg (by omega) h4] at h1
      rw [List.size_toArray, ← hl]
      exact Option.some.inj h1
    exact wpAny_getItem_list_neg pl.isList (by omega) (by rw [List.size_toArray] <;> omega) (by omega) (by rw [hj]; simpa using ew) fin
end
def strsOf : List Expr → Option (List Str)
  | [] => some []
  | .Constant (.str x) _ _ :: r => (strsOf r).map (x :: ·)
  | _ => none
theorem pa_strs {X : Cx} : ∀ {es : List Expr} {xs : List Str}, strsOf es = some xs → PA X es (fun _ H Q => Q (xs.map V.str) H)
  | [], xs, h => by
    have e : xs = [] := (Option.some.inj h).symm
    subst e
    exact pa_nil
  | e :: r, xs, h => by
    unfold strsOf at h
    split at h
    · rename_i h0; cases h0
    · rename_i x j p r' h0
      injection h0 with h1 h2
      subst h1 h2
      cases hr : strsOf r with
      | none => rw [hr] at h; cases h
      | some ys =>
        rw [hr] at h
        have e : xs = x :: ys := (Option.some.inj h).symm
        subst e
        have ih := pa_strs (X := X) hr
        exact fun pins pos s σ H Q I hq => pa_cons pe_str ih rfl pos s σ H Q I hq
    · cases h
def lst1 : Stmt → List Expr
  | .Assign _ (.List es _) _ => es
  | .Assign _ (.BinOp _ _ (.List es _) _) _ => es
  | .Assign _ (.Subscript (.List es _) _ _) _ => es
  | .For _ (.List es _) _ _ _ => es
  | .Return (some (.Tuple (.Subscript (.List es _) _ _ :: _) _ _)) _ => es
  | .Return (some (.Tuple (.Call (.Attribute (.List es _) _ _) _ _ _ :: _) _ _)) _ => es
  | _ => []
def put1 (es : List Expr) : Stmt → Stmt
  | .Assign ts (.List _ p) q => .Assign ts (.List es p) q
  | .Assign ts (.BinOp l op (.List _ p) p2) q => .Assign ts (.BinOp l op (.List es p) p2) q
  | .Assign ts (.Subscript (.List _ p) i p2) q => .Assign ts (.Subscript (.List es p) i p2) q
  | .For t (.List _ p) b e q => .For t (.List es p) b e q
  | .Return (some (.Tuple (.Subscript (.List _ p) i p2 :: r) k p3)) q => .Return (some (.Tuple (.Subscript (.List es p) i p2 :: r) k p3)) q
  | .Return (some (.Tuple (.Call (.Attribute (.List _ p) m p2) as ks p3 :: r) k p4)) q => .Return (some (.Tuple (.Call (.Attribute (.List es p) m p2) as ks p3 :: r) k p4)) q
  | s => s
def lstOf : Stmt → List Expr
  | .If _ (s :: _) _ _ => lst1 s
  | s => lst1 s
def putL (es : List Expr) : Stmt → Stmt
  | .If c (s :: r) e p => .If c (put1 es s :: r) e p
  | s => put1 es s
def fillAt (es : List Expr) : Nat → List Stmt → List Stmt
  | _, [] => []
  | 0, s :: r => putL es s :: r
  | i + 1, s :: r => s :: fillAt es i r
abbrev stAt (b : List Stmt) (i : Nat) : Stmt := b.getD i (.Pass ⟨0, 0, 0, 0⟩)
def SameBut (k : Addr) (H H' : Hp) : Prop := ∀ b o, H b = some o → b ≠ k → H' b = some o
theorem SameBut.refl {k : Addr} {H : Hp} : SameBut k H H := fun _ _ h _ => h
theorem SameBut.trans {k : Addr} {H H1 H2 : Hp} (a : SameBut k H H1) (b : SameBut k H1 H2) : SameBut k H H2 := fun c o h e => b c o (a c o h e) e
theorem SameBut.upd {k : Addr} {H : Hp} {o : HO} : SameBut k H (upd H k o) := fun b u h e => by rw [upd_ne e]; exact h
theorem SameBut.new {k p : Addr} {H : Hp} {o : HO} (h : H p = none) : SameBut k H (L2.upd H p o) := fun b u q e => by rw [upd_ne (ne_of_none q h)]; exact q
theorem Same.but {k : Addr} {H H' : Hp} (h : Same H H') : SameBut k H H' := fun b o e _ => h b o e
theorem same_new {H : Hp} {p : Addr} (h : H p = none) (o : HO) : Same H (upd H p o) := fun b u q => by rw [upd_ne (ne_of_none q h)]; exact q
theorem at_lt {xs : List V} {i : Int} (h0 : 0 ≤ i) (h1 : i < (xs.length : Int)) : ∃ v, v ∈ xs ∧ atI xs i = some v := by
  have h2 : i.toNat < xs.length := by omega
  refine ⟨xs[i.toNat], List.getElem_mem h2, at_of (j := i.toNat) (by omega) (List.getElem?_eq_getElem h2)⟩
/-- a block cut behind its first statement: R is what is known there -/
theorem seq_cut {t u : TS} {D : Ends} {σ : St} {H : Hp} (R : St → Hp → Prop) (h1 : ∀ nx : St → Hp → Prop, (∀ σ' H', R σ' H' → nx σ' H') → t { D with nx := nx } σ H) (h2 : ∀ σ' H', R σ' H' → u D σ' H') : tSeq t u D σ H := h1 (u D) h2
theorem iteB {c : Bool} {A B : Prop} (h1 : c = true → A) (h2 : c = false → B) : if c = true then A else B := by
  cases c with
  | true => rw [if_pos rfl]; exact h1 rfl
  | false => rw [if_neg Bool.false_ne_true]; exact h2 rfl
end L2
set_option Elab.async false
set_option linter.all false
set_option maxRecDepth 100000
set_option maxHeartbeats 4000000
namespace L2
open PySem PySem.Spec PyProof.Rows
section
variable {X : Cx}
/-- isinstance(x, T), T one built-in class -/
theorem call_isi : CallR X (.builtin "isinstance") (fun xs H Q => ∃ x T t b, xs = [x, .ty T] ∧ TyOf X.K H x t ∧ PySem.W.kitOne X.K t (.type T) = some b ∧ Q (.bl b) H) := by
  intro pins s σ H xs us Q I r h
  obtain ⟨x, T, t, b, rfl, ty, e, q⟩ := h
  obtain ⟨u, w', rfl, rx, ry⟩ := vals2 r
  cases ry
  exact isinst_ok I rx ty e fun tk => ⟨.bl b, H, I.tok _, rfl, q⟩
/-- str(x) of a text or a number -/
def StrV : V → Str → Prop
  | .int i, y => i.natAbs.log2 < 1920 ∧ y = toString i
  | .str x, y => y = x
  | _, _ => False
theorem call_strV : CallR X (.type "str") (fun xs H Q => ∃ x y, xs = [x] ∧ StrV x y ∧ Q (.str y) H) := by
  intro pins s σ H xs us Q I r h
  obtain ⟨x, y, rfl, hs, q⟩ := h
  cases x with
  | int i =>
    obtain ⟨hd, rfl⟩ := hs
    exact call_str_int s σ H _ us Q I r ⟨i, rfl, hd, q⟩
  | str z =>
    have e : y = z := hs
    subst e
    obtain ⟨u, rfl, ru⟩ := vals1 r
    obtain ⟨t, rfl⟩ := ru
    exact PySem.P.str_of_str ⟨.str y, H, I, ⟨_, rfl⟩, q⟩
  | _ => exact hs.elim
abbrev TF := Str → St → Hp → VK → Prop
def PF (X : Cx) (es : List Expr) (t : TF) : Prop :=
  ∀ ⦃pins : List (Addr × Obj)⦄ (out : Str) (s : Shared) (σ : St) (H : Hp) (Q : VK), Inv X pins σ H s → t out σ H Q → wpAny (model X.prog X.w) X.A (joinParts out (evalEach es X.env)) (EP X pins σ Q) X.xe s
theorem pf_nil : PF X [] (fun out _ H Q => out.length ≤ sizeLine ∧ Q (.str out) H) := fun pins out s σ H Q I h => joinParts_nil ⟨.str out, H, I.tok _, ⟨_, rfl⟩, h.2⟩ h.1
theorem pf_str {a : Str} {j : Nat} {p : Pos} {es : List Expr} {t : TF} (h : PF X es t) : PF X (.Constant (.str a) j p :: es) (fun out σ H Q => (out ++ a).length ≤ sizeLine ∧ t (out ++ a) σ H Q) := by
  intro pins out s σ H Q I q
  refine joinParts_cons ?_
  refine thn (pe_str (X := X) s σ H (fun v H' => v = .str a ∧ H' = H) I ⟨rfl, rfl⟩) fun u s1 ⟨v, H1, I1, r1, e1, e2⟩ => ?_
  subst e1 e2
  obtain ⟨t', rfl⟩ := r1
  exact ⟨q.1, h _ s1 σ H1 Q I1 q.2⟩
theorem pf_fmt {e : Expr} {te : TE} {p : Pos} {es : List Expr} {t : TF} (he : PE X e te) (h : PF X es t) :
    PF X (.FormattedValue e (-1) none p :: es) (fun out σ H Q => te σ H fun x H1 => ∃ y : Str, StrV x y ∧ y.length ≤ sizeLine ∧ (out ++ y).length ≤ sizeLine ∧ t (out ++ y) σ H1 Q) := by
  intro pins out s σ H Q I q
  refine joinParts_cons (FormattedValue_plain ?_)
  refine thn (he s σ H _ I q) fun u s1 ⟨x, H1, I1, r1, y, hy, hl, hz, qq⟩ => ?_
  cases x with
  | int i =>
    obtain ⟨hd, rfl⟩ := hy
    obtain ⟨t', rfl⟩ := r1
    exact formatField_int_small hd ⟨hz, h _ _ σ H1 Q (I1.tok _) qq⟩
  | str z =>
    have e : y = z := hy
    subst e
    obtain ⟨t', rfl⟩ := r1
    exact formatField_str (fun t2 tk => ⟨hz, h _ _ σ H1 Q (I1.tok _) qq⟩) hl
  | _ => exact hy.elim
theorem pe_fstr {v1 v2 : Expr} {rest : List Expr} {pos : Pos} {t : TF} (h : PF X (v1 :: v2 :: rest) t) : PE X (.JoinedStr (v1 :: v2 :: rest) pos) (fun σ H Q => t Str.empty σ H Q) := fun pins s σ H Q I q => JoinedStr_many (h _ s σ H Q I q)
end
end L2
set_option Elab.async false
set_option linter.all false
set_option maxRecDepth 100000
set_option maxHeartbeats 4000000
namespace L2
open PySem PySem.Spec PyProof.Rows
namespace SA
open PySem.SeqAt
end SA
section
variable {X : Cx}
end
end L2
set_option Elab.async false
set_option linter.all false
set_option maxRecDepth 100000
set_option maxHeartbeats 4000000
namespace L2
open PySem PySem.Spec PyProof.Rows
section
variable {X : Cx} {CX : CXT} {k : Nat} {f : Addr} {fd : FuncData} {ps ks : List Str} {sp : Sp} {E : XK} {x : Str} {p pos : Pos} {kws : List Keyword} {tk : TA} {g : List Value → List Value → List Value} {gV : List V → List V → List V}
end
end L2
set_option Elab.async false
set_option linter.all false
set_option maxRecDepth 100000
set_option maxHeartbeats 4000000
namespace L2
open PySem PySem.Spec PyProof.Rows
section
variable {X : Cx}
/-- a list + a list, read alone -/
theorem op_catS : OpR X (binaryOp .Add) (fun x y H Q => ∃ l b xs zs, x = .ref l ∧ y = .ref b ∧ SqL X.K H l xs ∧ SqL X.K H b zs ∧ xs.length + zs.length ≤ sizeLine ∧ ∀ p, H p = none → Q (.ref p) (upd H p (.lst (xs ++ zs)))) := by
  intro pins s σ H x y v u Q I rx ry h
  obtain ⟨l, b, xs, zs, rfl, rfl, hH, hB, hz, q⟩ := h
  cases rx
  cases ry
  obtain ⟨its, r, p1, _⟩ := I.list hH
  obtain ⟨its2, r2, p2, _⟩ := I.list hB
  have z1 := r.length
  have z2 := r2.length
  obtain ⟨⟨c1, d1, da1, s1⟩, ho1, hc1, n1, hd1⟩ := p1.isList
  obtain ⟨⟨c2, d2, da2, s2⟩, ho2, hc2, n2, hd2⟩ := p2.isList
  simp only at hc1 hd1 hc2 hd2
  subst hc1 hd1 hc2 hd2
  have ea : its.toArray ++ its2.toArray = (its ++ its2).toArray := by simp
  refine concat_meets ⟨_, ho1, rfl⟩ ⟨_, ho2, rfl⟩ noFill_list_add seq_list_add F.slot_list_add F.entry_list_add (F.args_list_add_2 _ _) (list_addW l b its.toArray its2.toArray n1 n2 d1 d2 s1 s2 (by simp; omega)) ⟨ho1, ho2, ?_⟩
  rw [ea]
  exact ⟨.ref _, _, I.lnew (t' := s.toks) (r.append r2) (by rw [List.length_append]; omega), rfl, q _ I.fresh⟩
end
/-- over the pairs of a list that the body leaves as it is -/
theorem for_enum {K : PySem.W.Frag} {a : Addr} {xs : List V} {g : TG} {tb : TS} {D : Ends} {σ : St} {H : Hp} (Pv : Nat → St → Hp → Prop) (h0 : Pv 0 σ H) (hl : ∀ i σ H, i ≤ xs.length → Pv i σ H → SqL K H a xs)
    (hs : ∀ i x σ H T, xs[i]? = some x → Pv i σ H → H T = none → g (.ref T) σ (upd H T (.tup [.int (i : Nat), x])) fun σ2 H2 => tb { D with nx := Pv (i + 1), ct := Pv (i + 1), bk := D.nx } σ2 H2) (hd : ∀ σ H, Pv xs.length σ H → D.nx σ H) :
    ∃ W : Nat → Nat → St → Hp → Prop, (∃ m, W 0 m σ H) ∧ ∀ i m σ H, W i m σ H →
      ((Ite K a).stop i H ∧ D.nx σ H) ∨ ((Ite K a).go i H ∧ ∃ N : St → Hp → Prop, (∀ σ' H', N σ' H' → ∃ m', m' < m ∧ W (i + 1) m' σ' H') ∧ ∀ x H', (Ite K a).yld i H x H' → g x σ H' fun σ2 H2 => tb { D with nx := N, ct := N, bk := D.nx } σ2 H2) := by
  refine ⟨fun i m σ H => m = xs.length - i ∧ i ≤ xs.length ∧ Pv i σ H, ⟨xs.length, by simp, Nat.zero_le _, h0⟩, ?_⟩
  rintro i m σ H ⟨rfl, hi, p⟩
  have q := hl i σ H hi p
  by_cases hlt : i < xs.length
  · refine .inr ⟨⟨xs, xs[i], q, by simp [hlt]⟩, Pv (i + 1), fun σ' H' p' => ⟨xs.length - (i + 1), by omega, rfl, hlt, p'⟩, fun v H' y => ?_⟩
    obtain ⟨T, x, rfl, hT, rfl, e⟩ := y
    exact hs i x σ H T (e xs q) p hT
  · have e : i = xs.length := by omega
    subst e
    exact .inl ⟨⟨xs, q, Nat.le_refl _⟩, hd σ H p⟩
end L2
set_option Elab.async false
set_option linter.all false
set_option maxRecDepth 100000
set_option maxHeartbeats 4000000
namespace L2
open PySem PySem.Spec PyProof.Rows
namespace HW
open HT
section
variable {prog : Program} {w : World} {A : Around} {E : Value → Shared → Prop} {s : Shared}
end
end HW
section
variable {X : Cx}
end
end L2
set_option Elab.async false
set_option linter.all false
set_option maxRecDepth 100000
set_option maxHeartbeats 4000000
namespace My
open PySem L2
def top (i : Nat) : Stmt := PySem.Challenge.pw_steploft_k15_texts_of_no_machine.main.body.getD i (.Pass ⟨0, 0, 0, 0⟩)
abbrev sSack : Stmt := top 35
abbrev sPull : Stmt := top 36
def Sack (H : Hp) (k : Addr) (n : Nat) : Prop := ∃ a b c : Int, H k = some (.lst [.int a, .int b, .int c]) ∧ 0 ≤ a ∧ 0 ≤ b ∧ b < 2 ^ 140 ∧ 0 ≤ c ∧ c ≤ (n : Int)
theorem Sack.mono {H : Hp} {k : Addr} {n m : Nat} (h : Sack H k n) (e : n ≤ m) : Sack H k m := by
  obtain ⟨a, b, c, h1, h2, h3, h4, h5, h6⟩ := h
  exact ⟨a, b, c, h1, h2, h3, h4, h5, by omega⟩
theorem Sack.same {H H' : Hp} {k : Addr} {n : Nat} (h : Sack H k n) (e : Same H H') : Sack H' k n := by
  obtain ⟨a, b, c, h1, h2⟩ := h
  exact ⟨a, b, c, e _ _ h1, h2⟩
/-- a pull hands back a number below many and turns the sack alone -/
def spPull : Sp := fun vs H Q _ => ∃ (k : Addr) (many : Int) (n : Nat), vs = [.ref k, .int many] ∧ Sack H k n ∧ n < 1000000 ∧ 0 < many ∧ many < 1000000 ∧
  ∀ (r : Int) (H' : Hp), 0 ≤ r → r < many → SameBut k H H' → Sack H' k (n + 1) → Q (.int r) H'
def spSack : Sp := fun vs H Q _ => ∃ (cell j : Int), vs = [.int cell, .int j] ∧ 0 ≤ j ∧ j < 100 ∧ ∀ (k : Addr) (H' : Hp), H k = none → Same H H' → Sack H' k 0 → Q (.ref k) H'
section
variable {P : Program} {w : World} {K : PySem.W.Frag} {mg : Str → Option Value} {base : Heap}
theorem scPull : FnScope ["sack", "many", "found", "mixed"] ["sack", "many"] (defScope sPull) := ⟨rfl, rfl, rfl, by decide +kernel, rfl, by decide +kernel, by decide +kernel⟩
theorem pow5_ok {b c : Int} (h1 : 0 ≤ b) (h2 : b < 2 ^ 140) (h3 : 0 ≤ c) (h4 : c ≤ 1000000) : CPowB (b + 15485863 * c) ((5 : Nat) : Int) := by
  refine powB_of (k := 200) ?_ (by decide)
  have e1 : b + 15485863 * c < 2 ^ 199 := by
    have : (2 : Int) ^ 140 + 15485863 * 1000000 < 2 ^ 199 := by decide
    omega
  have e2 : (2 : Int) ^ 199 < 2 ^ 200 := by decide
  have e3 : (b + 15485863 * c).natAbs < (2 : Nat) ^ 200 := by
    have e4 : ((2 : Nat) ^ 200 : Nat) = ((2 : Int) ^ 200).natAbs := by decide
    have e5 : (0 : Int) ≤ b + 15485863 * c := by omega
    omega
  exact e3
theorem mix3_ok {m c : Int} (h1 : 0 ≤ m) (h2 : m < 2 ^ 140) (h3 : 0 ≤ c) (h4 : c ≤ 1000000) : CPowB (m + 32452843 * c * c) ((3 : Nat) : Int) := by
  refine powB_of (k := 200) ?_ (by decide)
  have hc : c * c ≤ 1000000 * 1000000 := Int.mul_le_mul h4 h4 h3 (by decide)
  have hc0 : 0 ≤ c * c := Int.mul_nonneg h3 h3
  have e0 : 32452843 * c * c = 32452843 * (c * c) := Int.mul_assoc _ _ _
  rw [e0]
  have e1 : m + 32452843 * (c * c) < 2 ^ 199 := by
    have : (2 : Int) ^ 140 + 32452843 * (1000000 * 1000000) < 2 ^ 199 := by decide
    omega
  have e2 : (2 : Int) ^ 199 < 2 ^ 200 := by decide
  have e4 : ((2 : Nat) ^ 200 : Nat) = ((2 : Int) ^ 200).natAbs := by decide
  have e5 : (0 : Int) ≤ m + 32452843 * (c * c) := by omega
  omega
theorem ok_pull {f : Addr} {fd : FuncData} (F : Fun K "_law_pull" "_law_pull" sPull f fd) : FnOk P w K mg base CX0 1 f fd ["sack", "many"] spPull := by
  refine F.ok scPull (fun vs H Q E h => ?_) (fun cdv A outer s H vs Q E hr h => ?_)
  · obtain ⟨k, many, n, rfl, _⟩ := h
    rfl
  · obtain ⟨k, many, n, rfl, ⟨a, b, c, hk, ha, hb, hb2, hc, hcn⟩, hn, hm0, hm1, q⟩ := h
    refine ⟨_, pss_cons (ps_if (pt_cmpR op_gt (pe_ix ix_list (pv 0) pe_int (fun _ _ => rfl)) pe_int (nomark _))
        (pss_cons (ps_set (i := 2) scPull.nd rfl (Or.inl rfl) (pe_op op_mod (pe_ix ix_list (pv 0) pe_int (fun _ _ => rfl)) (pv 1)))
        (pss_cons (ps_asg (pe_op op_fdiv (pe_ix ix_list (pv 0) pe_int (fun _ _ => rfl)) (pv 1)) (pg_sub (pv 0) pe_int set_list))
        (pss_one (ps_ret (pv 2))))) pss_nil)
      (pss_cons (ps_augS (pv 0) pe_int get_list pe_int ip_add set_list)
      (pss_cons (ps_set (i := 3) scPull.nd rfl (Or.inl rfl) (pe_op op_mod (pe_op op_powB (pe_op op_add (pe_ix ix_list (pv 0) pe_int (fun _ _ => rfl)) (pe_op op_mul pe_int (pe_ix ix_list (pv 0) pe_int (fun _ _ => rfl)))) pe_int) (pe_op op_add (pe_op op_pow pe_int pe_int) pe_int)))
      (pss_cons (ps_set (i := 3) scPull.nd rfl (Or.inl rfl) (pe_op op_mod (pe_op op_powB (pe_op op_add (pv 3) (pe_op op_mul (pe_op op_mul pe_int (pe_ix ix_list (pv 0) pe_int (fun _ _ => rfl))) (pe_ix ix_list (pv 0) pe_int (fun _ _ => rfl)))) pe_int) (pe_op op_add (pe_op op_pow pe_int pe_int) pe_int)))
      (pss_one (ps_ret (pe_op op_mod (pe_op op_fdiv (pv 3) pe_int) (pv 1))))))), ?_⟩
    refine ⟨_, rfl, k, _, _, _, rfl, rfl, SqL.of hk, rfl, _, _, rfl, rfl, _, rfl, ?_⟩
    refine ite2 (fun z => ?_) (fun z => ?_)
    · refine ⟨_, rfl, k, _, _, _, rfl, rfl, SqL.of hk, rfl, _, rfl, _, _, rfl, rfl, hm0, ?_⟩
      refine ⟨_, rfl, k, _, _, _, rfl, rfl, SqL.of hk, rfl, _, rfl, _, _, rfl, rfl, ⟨hm0, by omega⟩, _, rfl, k, _, _, 0, rfl, rfl, hk, rfl, ?_⟩
      refine ⟨_, rfl, ?_⟩
      refine q _ _ (Int.emod_nonneg _ (by omega)) (Int.emod_lt_of_pos _ hm0) SameBut.upd ⟨a / many, b, c, upd_same, Int.ediv_nonneg ha (by omega), hb, hb2, hc, by omega⟩
    · refine ⟨_, rfl, k, _, _, _, rfl, rfl, SqL.of hk, rfl, _, _, rfl, rfl, k, _, _, 2, rfl, rfl, hk, rfl, ?_⟩
      have hk2 : ∀ o, upd H k o k = some o := fun o => upd_same
      refine ⟨_, rfl, k, _, _, _, rfl, rfl, SqL.of (hk2 _), rfl, _, rfl, k, _, _, _, rfl, rfl, SqL.of (hk2 _), rfl, _, _, rfl, rfl, .inl ⟨by decide, by decide⟩, _, _, rfl, rfl, _, _, rfl, rfl, pow5_ok (c := c + 1) hb hb2 (by omega) (by omega), _, _, rfl, rfl, ⟨by decide, by decide, by decide⟩, _, _, rfl, rfl, _, _, rfl, rfl, (by show (0 : Int) < 10 ^ (39 : Int).toNat + 3; decide), ?_⟩
      refine ⟨_, rfl, _, rfl, k, _, _, _, rfl, rfl, SqL.of (hk2 _), rfl, _, _, rfl, rfl, .inl ⟨by decide, by decide⟩, _, rfl, k, _, _, _, rfl, rfl, SqL.of (hk2 _), rfl, _, _, rfl, rfl, .inr ⟨(by show -(2 ^ 64) < c + 1; omega), (by show c + 1 < 2 ^ 64; omega)⟩, _, _, rfl, rfl, _, _, rfl, rfl, mix3_ok (c := c + 1) (Int.emod_nonneg _ (by decide)) (Int.lt_trans (Int.emod_lt_of_pos _ (by decide)) (by decide)) (by omega) (by omega), _, _, rfl, rfl, ⟨by decide, by decide, by decide⟩, _, _, rfl, rfl, _, _, rfl, rfl, (by show (0 : Int) < 10 ^ (36 : Int).toNat + 67; decide), ?_⟩
      refine ⟨_, rfl, _, _, rfl, rfl, ⟨by decide, by decide⟩, _, rfl, _, _, rfl, rfl, hm0, ?_⟩
      exact q _ _ (Int.emod_nonneg _ (by omega)) (Int.emod_lt_of_pos _ hm0) SameBut.upd ⟨a, b, c + 1, upd_same, ha, hb, hb2, by omega, by omega⟩
end
end My
set_option Elab.async false
set_option linter.all false
set_option maxRecDepth 100000
set_option maxHeartbeats 4000000
namespace My
open PySem L2 TL
abbrev sNames : Stmt := top 37
/-- a def of the text, with what a call of it asks -/
structure Df (K : PySem.W.Frag) (mg : Str → Option Value) (x : Str) (st : Stmt) (ps : List Str) where
  f : Addr
  fd : FuncData
  F : Fun K x x st f fd
  b : Binds K fd ps []
  m : mg x = some (.ref f)
def isNameB (x : Str) : Bool := decide (1 ≤ x.length) && decide (x.length ≤ 8) && x.cps.toList.all fun c => decide (97 ≤ c) && decide (c ≤ 122)
def IsName (x : Str) : Prop := isNameB x = true
theorem IsName.mk {x : Str} (h1 : 1 ≤ x.length) (h2 : x.length ≤ 8) (h3 : ∀ c ∈ x.cps.toList, 97 ≤ c ∧ c ≤ 122) : IsName x := by
  unfold IsName isNameB
  rw [Bool.and_eq_true, Bool.and_eq_true, List.all_eq_true]
  refine ⟨⟨decide_eq_true h1, decide_eq_true h2⟩, fun c hc => ?_⟩
  rw [Bool.and_eq_true]
  exact ⟨decide_eq_true (h3 c hc).1, decide_eq_true (h3 c hc).2⟩
theorem IsName.len {x : Str} (h : IsName x) : 1 ≤ x.length ∧ x.length ≤ 8 := by
  unfold IsName isNameB at h
  rw [Bool.and_eq_true, Bool.and_eq_true] at h
  exact ⟨of_decide_eq_true h.1.1, of_decide_eq_true h.1.2⟩
theorem IsName.cps {x : Str} (h : IsName x) : ∀ c ∈ x.cps.toList, 97 ≤ c ∧ c ≤ 122 := by
  unfold IsName isNameB at h
  rw [Bool.and_eq_true, List.all_eq_true] at h
  intro c hc
  have q := h.2 c hc
  rw [Bool.and_eq_true] at q
  exact ⟨of_decide_eq_true q.1, of_decide_eq_true q.2⟩
def letters : Str := "abcdefghijklmnopqrstuvwxyz"
def tblA : List Str := ["a", "b", "x", "acc", "h", "abcdefgh", "if", "then", "nop", "hidden", "put", "reg", "add", "alu"]
def tblB : List Str := ["else", "or", "less"]
theorem tbl_names : ∀ x ∈ tblA ++ tblB, IsName x := by
  have h : (tblA ++ tblB).all isNameB = true := by decide +kernel
  exact fun x hx => List.all_eq_true.mp h x hx
theorem letters_eq : letters.cps.toList = (List.range 26).map (97 + ·) := by decide +kernel
theorem letters_len : letters.length = 26 := by decide +kernel
theorem letter_at {i : Int} (h0 : 0 ≤ i) (h1 : i < 26) : atI letters.cps.toList i = some (97 + i.toNat) := by
  have e : i = ((i.toNat : Nat) : Int) := by omega
  rw [e]
  refine atI_nat ?_
  rw [letters_eq, List.getElem?_map, List.getElem?_range (by omega)]
  rfl
/-- the names that the while makes -/
def zn (j : Nat) : Str := ⟨#[122, 97 + j]⟩
theorem zn_inj {i j : Nat} (h : zn i = zn j) : i = j := by
  have e : (#[122, 97 + i] : Array Nat) = #[122, 97 + j] := congrArg Str.cps h
  have e2 : ([122, 97 + i] : List Nat) = [122, 97 + j] := congrArg Array.toList e
  injection e2 with _ e3
  injection e3 with e4 _
  omega
theorem zn_name {j : Nat} (h : j ≤ 25) : IsName (zn j) := by
  refine IsName.mk (by show 1 ≤ 2; decide) (by show 2 ≤ 8; decide) fun c hc => ?_
  have hc : c ∈ ([122, 97 + j] : List Nat) := hc
  rcases List.mem_cons.mp hc with rfl | hc
  · omega
  · have := List.mem_singleton.mp hc
    omega
theorem pigeon : ∀ (t : Nat) (ns : List Str), (∀ j, j < t → zn j ∈ ns) → t ≤ ns.length
  | 0, _, _ => Nat.zero_le _
  | t + 1, ns, h => by
    have h1 : zn t ∈ ns := h t (Nat.lt_succ_self t)
    have h2 := pigeon t (ns.erase (zn t)) fun j hj => (List.mem_erase_of_ne (fun e => by have := zn_inj e; omega)).mpr (h j (Nat.lt_succ_of_lt hj))
    rw [List.length_erase_of_mem h1] at h2
    have h3 : 0 < ns.length := List.length_pos_of_mem h1
    omega
theorem inV_str (x : Str) (ns : List Str) : inV (.str x) (ns.map V.str) = decide (x ∈ ns) := by
  by_cases h : x ∈ ns
  · rw [decide_eq_true h]
    refine List.any_eq_true.mpr ⟨.str x, List.mem_map.mpr ⟨x, h, rfl⟩, ?_⟩
    show (x == x) = true
    exact beq_self_eq_true x
  · rw [decide_eq_false h]
    refine List.any_eq_false.mpr fun v hv q => ?_
    obtain ⟨y, hy, rfl⟩ := List.mem_map.mp hv
    have q : (y == x) = true := q
    have e : y = x := eq_of_beq q
    exact h (e ▸ hy)
theorem flat_strs (ns : List Str) : (ns.map V.str).all flatV = true := by
  refine List.all_eq_true.mpr fun v hv => ?_
  obtain ⟨y, hy, rfl⟩ := List.mem_map.mp hv
  rfl
/-- found != [] -/
theorem dp_strs {K : PySem.W.Frag} {H : Hp} : ∀ ns : List Str, DpAll K H (ns.map V.str) (ns.map PyData.str)
  | [] => .nil
  | x :: r => .cons (.str x) (dp_strs r)
theorem depth_strs : ∀ ns : List Str, PyData.depthAll (ns.map PyData.str) = 0
  | [] => rfl
  | x :: r => by
    show max (PyData.depth (.str x)) (PyData.depthAll (r.map PyData.str)) = 0
    rw [depth_strs r]
    rfl
theorem strOk_of {x : Str} (h : IsName x) : PyData.strOk x = true := by
  unfold PyData.strOk
  rw [← Array.all_toList, List.all_eq_true]
  intro c hc
  have := h.cps c hc
  exact decide_eq_true (by omega)
theorem shaped_strs {ns : List Str} (h : ∀ x ∈ ns, IsName x) : SeqAt.shaped (.list (ns.map PyData.str)) = true := by
  unfold SeqAt.shaped
  rw [Bool.and_eq_true]
  constructor
  · show PyData.canLayAll0 (ns.map PyData.str) = true
    rw [PyProof.Rows.canLayAll_strs', List.all_eq_true]
    exact fun x hx => strOk_of (h x hx)
  · refine decide_eq_true ?_
    show PyData.depthAll (ns.map PyData.str) + 1 ≤ 64
    rw [depth_strs]
    decide
/-- one sign after the other, joined -/
theorem join_signs : ∀ cs : List Nat, tl (Str.join (Str.ofString "") (cs.map fun c => (⟨#[c]⟩ : Str))) = cs
  | [] => rfl
  | [c] => rfl
  | c :: d :: r => by
    have ih := join_signs (d :: r)
    show tl ((⟨#[c]⟩ : Str) ++ Str.ofString "" ++ Str.join (Str.ofString "") ((d :: r).map fun c => (⟨#[c]⟩ : Str))) = c :: d :: r
    rw [tl_append, tl_append, ih]
    rfl
theorem join_name {cs : List Nat} (h1 : 1 ≤ cs.length) (h2 : cs.length ≤ 8) (h3 : ∀ c ∈ cs, 97 ≤ c ∧ c ≤ 122) : IsName (Txt.join (Str.ofString "") (cs.map fun c => (⟨#[c]⟩ : Str))) := by
  have e : (Txt.join (Str.ofString "") (cs.map fun c => (⟨#[c]⟩ : Str))).cps.toList = cs := by
    rw [join_eq]
    exact join_signs cs
  have el : (Txt.join (Str.ofString "") (cs.map fun c => (⟨#[c]⟩ : Str))).length = cs.length := by
    have := congrArg List.length e
    rw [Array.length_toList] at this
    exact this
  exact IsName.mk (by rw [el]; exact h1) (by rw [el]; exact h2) (by rw [e]; exact h3)
/-- the last sign of a name changed -/
theorem cut_name {x : Str} (h : IsName x) {c : Nat} (h1 : 97 ≤ c) (h2 : c ≤ 122) : IsName (cutS x none (some (-1)) ++ ⟨#[c]⟩) := by
  have hl := h.len
  have e : (cutS x none (some (-1)) ++ (⟨#[c]⟩ : Str)).cps.toList = x.cps.toList.take (x.length - 1) ++ [c] := by
    show tl (cutS x none (some (-1)) ++ (⟨#[c]⟩ : Str)) = _
    rw [tl_append]
    congr 1
    show ((x.cps.toList.drop (HT.sIx x.length 0 none)).take (HT.sIx x.length x.length (some (-1)) - HT.sIx x.length 0 none)) = _
    have e1 : HT.sIx x.length 0 none = 0 := rfl
    have e2 : HT.sIx x.length x.length (some (-1)) = x.length - 1 := by
      simp only [HT.sIx]
      rw [if_pos (by decide)]
      omega
    rw [e1, e2, List.drop_zero]
    rfl
  have hx : x.cps.toList.length = x.length := Array.length_toList ..
  have el : (cutS x none (some (-1)) ++ (⟨#[c]⟩ : Str)).length = x.length := by
    have : (cutS x none (some (-1)) ++ (⟨#[c]⟩ : Str)).cps.toList.length = x.length := by
      rw [e, List.length_append, List.length_take, hx]
      show min (x.length - 1) x.length + 1 = x.length
      omega
    rw [← this]
    exact (Array.length_toList ..).symm
  refine IsName.mk (by omega) (by omega) fun d hd => ?_
  rw [e] at hd
  rcases List.mem_append.mp hd with q | q
  · exact h.cps d (List.mem_of_mem_take q)
  · have := List.mem_singleton.mp q
    omega
structure NamesOk (m : Nat) (ns : List Str) : Prop where
  len : ns.length = m
  nd : ns.Nodup
  all : ∀ x ∈ ns, IsName x
def spNames : Sp := fun vs H Q _ => ∃ (k : Addr) (many : Nat) (n : Nat), vs = [.ref k, .int many] ∧ Sack H k n ∧ n < 100000 ∧ 1 ≤ many ∧ many ≤ 6 ∧
  ∀ (l : Addr) (ns : List Str) (H' : Hp), H l = none → SameBut k H H' → Sack H' k (n + 100) → H' l = some (.lst (ns.map V.str)) → NamesOk many ns → Q (.ref l) H'
end My
set_option Elab.async false
set_option linter.all false
set_option maxRecDepth 100000
set_option maxHeartbeats 1000000
namespace My
open PySem L2 TL
section
variable {P : Program} {w : World} {K : PySem.W.Frag} {mg : Str → Option Value} {base : Heap}
abbrev TT : List V := tblA.map V.str ++ tblB.map V.str
/-- the heap while names are made: H0 at the entry, the sack at k, the table at p, the names so far at l -/
structure NSt (H0 : Hp) (k p l : Addr) (ns : List Str) (H : Hp) (m : Nat) : Prop where
  sack : Sack H k m
  tab : H p = some (.lst TT)
  fd : H l = some (.lst (ns.map V.str))
  keep : SameBut k H0 H
theorem NSt.pull {H0 : Hp} {k p l : Addr} {ns : List Str} {H H' : Hp} {m : Nat} (h : NSt H0 k p l ns H m) (hp : p ≠ k) (hl : l ≠ k) (s : SameBut k H H') (S : Sack H' k (m + 1)) : NSt H0 k p l ns H' (m + 1) :=
  ⟨S, s _ _ h.tab hp, s _ _ h.fd hl, h.keep.trans s⟩
theorem NSt.same {H0 : Hp} {k p l : Addr} {ns : List Str} {H H' : Hp} {m : Nat} (h : NSt H0 k p l ns H m) (s : Same H H') : NSt H0 k p l ns H' m :=
  ⟨h.sack.same s, s _ _ h.tab, s _ _ h.fd, h.keep.trans s.but⟩
theorem NSt.mono {H0 : Hp} {k p l : Addr} {ns : List Str} {H : Hp} {m m' : Nat} (h : NSt H0 k p l ns H m) (e : m ≤ m') : NSt H0 k p l ns H m' := ⟨h.sack.mono e, h.tab, h.fd, h.keep⟩
theorem tt_at {r : Int} (h0 : 0 ≤ r) (h1 : r < 17) : ∃ x : Str, IsName x ∧ atI TT r = some (.str x) := by
  obtain ⟨v, hv, h⟩ := at_lt (xs := TT) h0 (by show r < (17 : Int); exact h1)
  have hv : v ∈ (tblA ++ tblB).map V.str := by rw [List.map_append]; exact hv
  obtain ⟨x, hx, rfl⟩ := List.mem_map.mp hv
  exact ⟨x, tbl_names x hx, h⟩
abbrev sg (c : Nat) : Str := ⟨#[c]⟩
theorem sum_sg : ∀ cs : List Nat, ((cs.map sg).map (·.length)).sum = cs.length
  | [] => rfl
  | c :: r => by
    rw [List.map_cons, List.map_cons, List.sum_cons, sum_sg r, List.length_cons]
    show 1 + r.length = r.length + 1
    omega
theorem last_of {ns : List Str} (h : ns ≠ []) : ∃ y ∈ ns, atI (ns.map V.str) (-1) = some (.str y) := by
  refine ⟨ns.getLast h, List.getLast_mem h, ?_⟩
  have e : ns.map V.str = ns.dropLast.map V.str ++ [.str (ns.getLast h)] := by
    conv => lhs; rw [← List.dropLast_concat_getLast h, List.map_append]
    rfl
  rw [e]
  exact atI_last _ _
theorem z_add (t : Nat) : (Str.ofString "z") ++ sg (97 + t) = zn t := by
  have e : tl ((Str.ofString "z") ++ sg (97 + t)) = tl (zn t) := by
    rw [tl_append]
    rfl
  have e2 : ((Str.ofString "z") ++ sg (97 + t)).cps = (zn t).cps := Array.ext' e
  cases h : (Str.ofString "z") ++ sg (97 + t) with
  | mk c =>
    rw [h] at e2
    cases h2 : zn t with
    | mk d =>
      rw [h2] at e2
      exact congrArg Str.mk e2
abbrev NN : List Str := ["sack", "many", "letters", "some", "found", "k", "name", "step", "j"]
theorem scNames : FnScope NN ["sack", "many"] (defScope sNames) := ⟨rfl, rfl, rfl, by decide +kernel, rfl, by decide +kernel, by decide +kernel⟩
theorem ok_names {f : Addr} {fd : FuncData} (F : Fun K "_law_names" "_law_names" sNames f fd) (dP : Df K mg "_law_pull" sPull ["sack", "many"]) (mr : mg "range" = none) : FnOk P w K mg base CX0 2 f fd ["sack", "many"] spNames := by
  have GP : FnOk P w K mg base CX0 1 dP.f dP.fd ["sack", "many"] spPull := ok_pull dP.F
  refine F.ok scNames (fun vs H Q E h => ?_) (fun cdv A outer s H vs Q E hr h => ?_)
  · obtain ⟨k, many, n, rfl, _⟩ := h
    rfl
  · obtain ⟨k, many, n, rfl, S0, hn, hm0, hm1, q⟩ := h
    have e : defBody sNames = fillAt (lstOf (stAt (defBody sNames) 1)) 1 (fillAt (lstOf (stAt (defBody sNames) 2)) 2 (defBody sNames)) := by rfl
    have hA : strsOf (lstOf (stAt (defBody sNames) 1)) = some tblA := by decide +kernel
    have hB : strsOf (lstOf (stAt (defBody sNames) 2)) = some tblB := by decide +kernel
    rw [e]
    generalize lstOf (stAt (defBody sNames) 1) = esA at hA ⊢
    generalize lstOf (stAt (defBody sNames) 2) = esB at hB ⊢
    clear e
    refine ⟨_, pss_cons (ps_set (i := 2) scNames.nd rfl (Or.inr rfl) pe_str)
      (pss_cons (ps_set (i := 3) scNames.nd rfl (Or.inl rfl) (pe_lst (pa_strs hA)))
      (pss_cons (ps_set (i := 3) scNames.nd rfl (Or.inl rfl) (pe_op op_cat (pv 3) (pe_lst (pa_strs hB))))
      (pss_cons (ps_set (i := 4) scNames.nd rfl (Or.inl rfl) (pe_lst pa_nil))
      (pss_cons (ps_for PassesOwn.never rfl (pi_range1 rfl mr (pa_cons (pv 1) pa_nil)) (pg_name (i := 5) scNames.nd rfl (Or.inl rfl))
        (pss_cons (ps_set (i := 6) scNames.nd rfl (Or.inl rfl) (pe_ix ix_list (pv 3) (pe_call GP hr rfl dP.m dP.F.kp dP.b .nil pass0 (pa_cons (pv 0) (pa_cons pe_int pa_nil))) (fun _ _ => rfl)))
        (pss_cons (ps_if (pt_cmpR op_eq (pe_call GP hr rfl dP.m dP.F.kp dP.b .nil pass0 (pa_cons (pv 0) (pa_cons pe_int pa_nil))) pe_int (nomark _))
          (pss_one (ps_set (i := 6) scNames.nd rfl (Or.inl rfl) (pe_join pe_str (pe_lc (own := [("j", 8)]) (g := gName 8) (by rfl) scNames.nd
            (pi_range1 rfl mr (pa_cons (pe_op op_add pe_int (pe_call GP hr rfl dP.m dP.F.kp dP.b .nil pass0 (pa_cons (pv 0) (pa_cons pe_int pa_nil)))) pa_nil))
            (blkOk_by (own := [("j", 8)]) (N := NN) (sc := defScope sNames) (by decide +kernel)) (fun _ _ _ _ _ => pg_name (i := 8) scNames.nd rfl (Or.inl rfl)) (fun _ _ _ _ _ => pts_nil)
            (fun _ _ _ _ _ => pe_ix ix_str (pv 2) (pe_call GP hr rfl dP.m dP.F.kp dP.b .nil pass0 (pa_cons (pv 0) (pa_cons pe_int pa_nil))) (fun _ _ => rfl)))))) pss_nil)
        (pss_cons (ps_if (PW.pt (pw_and (pt_cmpR (op_neD hr.units) (pv 4) (pe_lst pa_nil) (nomark _)) (pw_and1 (pt_cmpR op_eq (pe_call GP hr rfl dP.m dP.F.kp dP.b .nil pass0 (pa_cons (pv 0) (pa_cons pe_int pa_nil))) pe_int (nomark _)))))
          (pss_one (ps_set (i := 6) scNames.nd rfl (Or.inl rfl) (pe_op op_add_str (pe_slice sl_str (pe_ix ix_list (pv 4) (pe_un un_neg pe_int) (fun _ _ => rfl)) po_none (po_some (pe_un un_neg pe_int))) (pe_ix ix_str (pv 2) (pe_call GP hr rfl dP.m dP.F.kp dP.b .nil pass0 (pa_cons (pv 0) (pa_cons pe_int pa_nil))) (fun _ _ => rfl))))) pss_nil)
        (pss_cons (ps_set (i := 7) scNames.nd rfl (Or.inl rfl) pe_int)
        (pss_cons (ps_while PassesOwn.never (pt_cmpR op_in_seq (pv 6) (pv 4) rfl)
          (pss_cons (ps_set (i := 6) scNames.nd rfl (Or.inl rfl) (pe_op op_add_str pe_str (pe_ix ix_str (pv 2) (pv 7) (fun _ _ => rfl))))
          (pss_one (ps_set (i := 7) scNames.nd rfl (Or.inl rfl) (pe_op op_add (pv 7) pe_int)))))
        (pss_one (ps_expr (pe_bm PySem.F.plainAttrs_list PySem.F.slot_list_append PySem.F.type_list_append mt_append (pv 4) (pa_cons (pv 6) pa_nil))))))))))
      (pss_one (ps_ret (pv 4))))))), ?_⟩
    -- letters = ..; some = [..]; some = some + [..]; found = []
    refine ⟨(by decide), fun p1 h1 => ?_⟩
    refine ⟨_, rfl, (by decide), fun p2 h2 => ⟨p1, p2, _, _, rfl, rfl, (by rw [upd_ne (ne_of_none upd_same h2)]; exact upd_same), upd_same, (by decide), fun p h3 => ?_⟩⟩
    refine ⟨(by decide), fun l h4 => ?_⟩
    have s1 : Same H (upd H p1 (.lst (tblA.map V.str))) := same_new h1 _
    have s2 := s1.trans (same_new h2 (.lst (tblB.map V.str)))
    have s3 := s2.trans (same_new h3 (.lst TT))
    have s4 := s3.trans (same_new h4 (.lst []))
    have hkH : ∃ o, H k = some o := by obtain ⟨a, b, c, q, _⟩ := S0; exact ⟨_, q⟩
    obtain ⟨ok, hk⟩ := hkH
    have npk : p ≠ k := (ne_of_none (s2 _ _ hk) h3).symm
    have nlk : l ≠ k := (ne_of_none (s3 _ _ hk) h4).symm
    have npl : p ≠ l := ne_of_none upd_same h4
    have hl0 : H l = none := s3.free h4
    have N0 : NSt H k p l [] (upd (upd (upd (upd H p1 (.lst (tblA.map V.str))) p2 (.lst (tblB.map V.str))) p (.lst TT)) l (.lst [])) n :=
      ⟨S0.same s4, by rw [upd_ne npl]; exact upd_same, upd_same, s4.but⟩
    refine ⟨_, rfl, (many : Int), rfl, by omega, by omega, for_range (lo := 0) (n := many) (fun i σ H5 => ∃ (ns : List Str) (v5 v6 v7 : Option V), σ = [some (.ref k), some (.int many), some (.str letters), some (.ref p), some (.ref l), v5, v6, v7, none] ∧ NSt H k p l ns H5 (n + 16 * i) ∧ NamesOk i ns)
      ⟨[], none, none, none, rfl, N0, ⟨rfl, List.nodup_nil, fun x hx => absurd hx (by simp)⟩⟩ ?_ ?_⟩
    · rintro i σ H5 hi ⟨ns, v5, v6, v7, rfl, N5, O5⟩
      have hnl : ns.length = i := O5.len
      -- name = some[..]
      refine seq_cut (fun σ' H' => ∃ (x : Str) (v7 : Option V), σ' = [some (.ref k), some (.int many), some (.str letters), some (.ref p), some (.ref l), some (.int (0 + i)), some (.str x), v7, none] ∧ IsName x ∧ NSt H k p l ns H' (n + 16 * i + 1)) (fun nx imp => ?_) ?_
      · refine ⟨_, rfl, _, rfl, k, 17, n + 16 * i, rfl, N5.sack, by omega, by decide, by decide, fun r H6 hr0 hr1 sb S6 => ?_⟩
        have N6 := N5.pull npk nlk sb S6
        obtain ⟨x, hx, hat⟩ := tt_at hr0 hr1
        exact ⟨p, _, _, _, rfl, rfl, SqL.of N6.tab, hat, imp _ _ ⟨x, _, rfl, hx, N6⟩⟩
      rintro σ H6 ⟨x, v7, rfl, hx, N6⟩
      -- if .. == 0: name = ''.join(..)
      refine seq_cut (fun σ' H' => ∃ (x : Str) (v7 : Option V), σ' = [some (.ref k), some (.int many), some (.str letters), some (.ref p), some (.ref l), some (.int (0 + i)), some (.str x), v7, none] ∧ IsName x ∧ NSt H k p l ns H' (n + 16 * i + 11)) (fun nx imp => ?_) ?_
      · refine ⟨_, rfl, k, 3, n + 16 * i + 1, rfl, N6.sack, by omega, by decide, by decide, fun r H7 hr0 hr1 sb S7 => ⟨rfl, _, rfl, ?_⟩⟩
        have N7 := N6.pull npk nlk sb S7
        refine ite2 (fun _ => ?_) (fun _ => imp _ _ ⟨x, _, rfl, hx, N7.mono (by omega)⟩)
        refine ⟨⟨_, rfl⟩, _, rfl, k, 8, n + 16 * i + 2, rfl, N7.sack, by omega, by decide, by decide, fun r2 H8 hr20 hr21 sb2 S8 => ?_⟩
        have N8 := N7.pull npk nlk sb2 S8
        have hkD : ∀ {D : Addr}, H8 D = none → D ≠ k ∧ D ≠ p ∧ D ≠ l := fun {D} hD => by
          obtain ⟨a8, b8, c8, hk8, _⟩ := N8.sack
          exact ⟨(ne_of_none hk8 hD).symm, (ne_of_none N8.tab hD).symm, (ne_of_none N8.fd hD).symm⟩
        refine ⟨_, _, rfl, rfl, _, rfl, by omega, by omega, fun D hD => ?_⟩
        obtain ⟨nDk, nDp, nDl⟩ := hkD hD
        refine lc_range (lo := 0) (n := (1 + r2).toNat) (fun j H9 => ∃ cs : List Nat, H9 D = some (.lst ((cs.map sg).map V.str)) ∧ cs.length = j ∧ (∀ c ∈ cs, 97 ≤ c ∧ c ≤ 122) ∧ NSt H k p l ns H9 (n + 16 * i + 3 + j))
          ⟨[], upd_same, rfl, fun c hc => absurd hc (by simp), N8.same (same_new hD _)⟩ ?_ ?_
        · rintro j H9 hj ⟨cs, hD9, hcl, hcs, N9⟩
          refine ⟨rfl, _, rfl, _, rfl, k, 26, n + 16 * i + 3 + j, rfl, N9.sack, by omega, by decide, by decide, fun r3 H10 a3 b3 sb3 S10 => ?_⟩
          have N10 := N9.pull npk nlk sb3 S10
          refine ⟨letters, r3, 97 + r3.toNat, rfl, rfl, (by rw [letters_len]; decide), letter_at a3 b3, _, sb3 _ _ hD9 nDk, ?_, cs ++ [97 + r3.toNat], ?_, ?_, ?_, ?_⟩
          · rw [List.length_map, List.length_map]
            exact small1000 (by omega)
          · rw [upd_same, List.map_append, List.map_append]
            rfl
          · rw [List.length_append, hcl]
            rfl
          · intro c hc
            rcases List.mem_append.mp hc with z | z
            · exact hcs c z
            · have := List.mem_singleton.mp z
              omega
          · obtain ⟨a10, b10, c10, hk10, z10⟩ := N10.sack
            refine ⟨⟨a10, b10, c10, by rw [upd_ne nDk.symm]; exact hk10, z10⟩, by rw [upd_ne nDp.symm]; exact N10.tab, by rw [upd_ne nDl.symm]; exact N10.fd, fun b o hb nb => ?_⟩
            have hD0 : H D = none := by
              cases hz : H D with
              | none => rfl
              | some o =>
                have := N8.keep D o hz nDk
                rw [hD] at this
                cases this
            rw [upd_ne (ne_of_none hb hD0)]
            exact N10.keep b o hb nb
        · rintro H9 ⟨cs, hD9, hcl, hcs, N9⟩
          refine ⟨_, D, cs.map sg, rfl, rfl, .inl (SqL.of hD9), ?_, imp _ _ ⟨_, _, rfl, join_name (cs := cs) (by omega) (by omega) hcs, N9.mono (by omega)⟩⟩
          rw [sum_sg, List.length_map]
          show cs.length + cs.length * 0 ≤ _
          omega
      rintro σ H7 ⟨x, v7, rfl, hx, N7⟩
      -- if found != [] and .. == 0
      refine seq_cut (fun σ' H' => ∃ (x : Str) (v7 : Option V), σ' = [some (.ref k), some (.int many), some (.str letters), some (.ref p), some (.ref l), some (.int (0 + i)), some (.str x), v7, none] ∧ IsName x ∧ NSt H k p l ns H' (n + 16 * i + 13)) (fun nx imp => ?_) ?_
      · refine ⟨_, rfl, (by decide), fun e he => ⟨.list (ns.map PyData.str), .list [], .lst (SqL.of (by rw [upd_ne (ne_of_none N7.fd he)]; exact N7.fd)) (dp_strs ns), .lst (SqL.of upd_same) .nil, shaped_strs O5.all, (by decide), _, rfl, ?_⟩⟩
        have N7e := N7.same (same_new he (.lst []))
        refine iteB (fun c => ?_) (fun _ => iteF (imp _ _ ⟨x, _, rfl, hx, N7e.mono (by omega)⟩))
        have hne : ns ≠ [] := by
          intro z
          subst z
          exact absurd c (by decide)
        refine ⟨_, rfl, k, 4, n + 16 * i + 11, rfl, N7e.sack, by omega, by decide, by decide, fun r H8 hr0 hr1 sb S8 => ⟨rfl, _, rfl, ?_⟩⟩
        have N8 := N7e.pull npk nlk sb S8
        refine ite2 (fun _ => ?_) (fun _ => imp _ _ ⟨x, _, rfl, hx, N8.mono (by omega)⟩)
        obtain ⟨y, hy, hat⟩ := last_of hne
        have hyn := O5.all y hy
        have hyl := hyn.len
        refine ⟨_, rfl, _, rfl, l, _, _, _, rfl, rfl, SqL.of N8.fd, hat, _, rfl, _, rfl, _, rfl, (Nat.le_of_lt (small1000 (by omega))), _, rfl, _, rfl, k, 26, n + 16 * i + 12, rfl, N8.sack, by omega, by decide, by decide, fun r3 H9 a3 b3 sb3 S9 => ?_⟩
        have N9 := N8.pull npk nlk sb3 S9
        refine ⟨letters, r3, 97 + r3.toNat, rfl, rfl, (by rw [letters_len]; decide), letter_at a3 b3, _, _, rfl, rfl, ?_, imp _ _ ⟨_, _, rfl, cut_name hyn (by omega) (by omega), N9⟩⟩
        have := cutS_length y none (some (-1))
        exact Nat.le_of_lt (small1000 (by show (cutS y none (some (-1))).length + 1 ≤ 1000; omega))
      rintro σ H8 ⟨x, v7, rfl, hx, N8⟩
      -- step = 0; while name in found
      refine seq_cut (fun σ' H' => σ' = [some (.ref k), some (.int many), some (.str letters), some (.ref p), some (.ref l), some (.int (0 + i)), some (.str x), some (.int 0), none] ∧ H8 = H') (fun nx imp => imp _ _ ⟨rfl, rfl⟩) ?_
      rintro σ H' ⟨rfl, rfl⟩
      refine seq_cut (fun σ' H' => ∃ (x : Str) (t : Nat), σ' = [some (.ref k), some (.int many), some (.str letters), some (.ref p), some (.ref l), some (.int (0 + i)), some (.str x), some (.int t), none] ∧ IsName x ∧ x ∉ ns ∧ H8 = H') (fun nx imp => ?_) ?_
      · refine ⟨fun m σ H' => ∃ (x : Str) (t : Nat), σ = [some (.ref k), some (.int many), some (.str letters), some (.ref p), some (.ref l), some (.int (0 + i)), some (.str x), some (.int t), none] ∧ H8 = H' ∧ IsName x ∧ m = 10 - t ∧ t ≤ 7 ∧ (∀ j, j + 1 < t → zn j ∈ ns) ∧ (0 < t → x = zn (t - 1)),
          ⟨10, x, 0, rfl, rfl, hx, rfl, by decide, fun j hj => absurd hj (by omega), fun z => absurd z (by omega)⟩, ?_⟩
        rintro m σ H' ⟨y, t, rfl, rfl, hy, rfl, ht7, hz, hyz⟩
        refine ⟨_, rfl, _, rfl, l, _, rfl, .inl (SqL.of N8.fd), rfl, flat_strs ns, _, rfl, ?_⟩
        refine iteB (fun c => ?_) (fun c => ?_)
        · have c' : inV (.str y) (ns.map V.str) = true := c
          rw [inV_str] at c'
          have hin : y ∈ ns := of_decide_eq_true c'
          have hall : ∀ j, j < t → zn j ∈ ns := fun j hj => by
            by_cases e : j + 1 = t
            · have : y = zn j := by rw [hyz (by omega)]; congr 1; omega
              rw [← this]
              exact hin
            · exact hz j (by omega)
          have hpg := pigeon t ns hall
          refine ⟨_, fun σ' H'' z => z, ?_⟩
          refine ⟨_, rfl, _, rfl, letters, (t : Int), 97 + t, rfl, rfl, (by rw [letters_len]; decide), letter_at (by omega) (by omega), _, _, rfl, rfl, (by show 2 ≤ sizeLine; decide), ?_⟩
          refine ⟨_, rfl, _, _, rfl, rfl, ?_⟩
          refine ⟨10 - (t + 1), by omega, zn t, t + 1, ?_, rfl, zn_name (by omega), rfl, by omega, fun j hj => hall j (by omega), fun _ => rfl⟩
          rw [← z_add]
          rfl
        · have c' : inV (.str y) (ns.map V.str) = false := c
          rw [inV_str] at c'
          exact imp _ _ ⟨y, t, rfl, hy, of_decide_eq_false c', rfl⟩
      rintro σ H' ⟨y, t, rfl, hy, hyn, rfl⟩
      refine ⟨_, rfl, .inl ⟨rfl, _, SqL.of N8.fd⟩, _, rfl, l, _, _, rfl, rfl, N8.fd, ?_, ns ++ [y], _, _, _, rfl, ?_, ?_⟩
      · rw [List.length_map]
        exact small1000 (by omega)
      · obtain ⟨a8, b8, c8, hk8, e1, e2, e3, e4, e5⟩ := N8.sack
        refine ⟨⟨a8, b8, c8, by rw [upd_ne nlk.symm]; exact hk8, e1, e2, e3, e4, by omega⟩, by rw [upd_ne npl]; exact N8.tab, ?_, fun b o hb nb => ?_⟩
        · rw [upd_same, List.map_append]
          rfl
        · rw [upd_ne (ne_of_none hb hl0)]
          exact N8.keep b o hb nb
      · refine ⟨?_, nd_snoc O5.nd hyn, fun z hz => ?_⟩
        · rw [List.length_append, hnl]
          rfl
        · rcases List.mem_append.mp hz with q' | q'
          · exact O5.all z q'
          · rw [List.mem_singleton.mp q']
            exact hy
    · rintro σ H5 ⟨ns, v5, v6, v7, rfl, N5, O5⟩
      refine ⟨_, rfl, ?_⟩
      exact q l ns H5 hl0 N5.keep (N5.sack.mono (by omega)) N5.fd O5
end
end My
set_option Elab.async false
set_option linter.all false
set_option maxRecDepth 100000
set_option maxHeartbeats 1000000
namespace My
open PySem L2 TL
abbrev sOwn : Stmt := top 38
mutual
inductive Tp (H : Hp) : V → PyData → Prop
  | int (i : Int) : Tp H (.int i) (.int i)
  | str (x : Str) : Tp H (.str x) (.str x)
  | tup {a : Addr} {xs : List V} {ds : List PyData} : H a = some (.tup xs) → TpAll H xs ds → Tp H (.ref a) (.tuple ds)
inductive TpAll (H : Hp) : List V → List PyData → Prop
  | nil : TpAll H [] []
  | cons {v : V} {vs : List V} {d : PyData} {ds : List PyData} : Tp H v d → TpAll H vs ds → TpAll H (v :: vs) (d :: ds)
end
def KeepT (H H' : Hp) : Prop := ∀ b xs, H b = some (.tup xs) → H' b = some (.tup xs)
theorem KeepT.trans {H H1 H2 : Hp} (a : KeepT H H1) (b : KeepT H1 H2) : KeepT H H2 := fun c xs h => b c xs (a c xs h)
theorem KeepT.of {H H' : Hp} (h : Same H H') : KeepT H H' := fun b xs e => h b _ e
theorem KeepT.but {k : Addr} {H H' : Hp} {ys : List V} (h : SameBut k H H') (hk : H k = some (.lst ys)) : KeepT H H' := fun b xs e => h b _ e (by
  intro z
  subst z
  rw [hk] at e
  cases e)
mutual
theorem Tp.keep {H H' : Hp} (h : KeepT H H') : ∀ {v : V} {d : PyData}, Tp H v d → Tp H' v d
  | _, _, .int i => .int i
  | _, _, .str x => .str x
  | _, _, .tup e r => .tup (h _ _ e) (TpAll.keep h r)
theorem TpAll.keep {H H' : Hp} (h : KeepT H H') : ∀ {vs : List V} {ds : List PyData}, TpAll H vs ds → TpAll H' vs ds
  | _, _, .nil => .nil
  | _, _, .cons a r => .cons (Tp.keep h a) (TpAll.keep h r)
end
theorem TpAll.strs {H : Hp} : ∀ ns : List Str, TpAll H (ns.map V.str) (ns.map PyData.str)
  | [] => .nil
  | x :: r => .cons (.str x) (TpAll.strs r)
theorem TpAll.strs_inv {H : Hp} : ∀ {ns : List Str} {vs : List V}, TpAll H vs (ns.map PyData.str) → vs = ns.map V.str
  | [], _, .nil => rfl
  | x :: r, _, .cons (.str _) t => by
    rw [TpAll.strs_inv t]
    rfl
structure OwnD where
  bits : Int
  names : List Str
  hidden : Int
  alus : Int
  moves : Int
  cells : Int
def ownD (o : OwnD) : PyData := .tuple [.int o.bits, .tuple (o.names.map PyData.str), .int o.hidden, .int o.alus, .int o.moves, .int o.cells]
structure OwnOk (o : OwnD) : Prop where
  bits : 1 ≤ o.bits ∧ o.bits ≤ 8
  names : ∃ m, NamesOk m o.names ∧ 1 ≤ m ∧ m ≤ 6
  hidden : 0 ≤ o.hidden ∧ o.hidden ≤ 12
  alus : 1 ≤ o.alus ∧ o.alus ≤ 3
  moves : 1 ≤ o.moves ∧ o.moves ≤ 3
  cells : 0 ≤ o.cells ∧ o.cells ≤ 2 ^ o.bits.toNat
theorem own_inv {H : Hp} {p : Addr} {o : OwnD} (h : Tp H (.ref p) (ownD o)) : ∃ q : Addr, H p = some (.tup [.int o.bits, .ref q, .int o.hidden, .int o.alus, .int o.moves, .int o.cells]) ∧ H q = some (.tup (o.names.map V.str)) := by
  unfold ownD at h
  cases h with
  | tup e r =>
    cases r with | cons a r => cases r with | cons b r => cases r with | cons c r => cases r with | cons d r => cases r with | cons f r => cases r with | cons g r =>
      cases r; cases a; cases c; cases d; cases f; cases g
      cases b with
      | tup e2 r2 => exact ⟨_, e, by rw [e2, TpAll.strs_inv r2]⟩
theorem pow_rng : ∀ m : Nat, m ≤ 8 → 1 ≤ m → 2 ≤ (1 : Int) * 2 ^ m ∧ (1 : Int) * 2 ^ m ≤ 256 := by decide
abbrev tp (r : Int) : Int := 1 * 2 ^ (1 + r).toNat
def spOwn : Sp := fun vs H Q _ => ∃ (k : Addr) (n : Nat), vs = [.ref k] ∧ Sack H k n ∧ n < 90000 ∧
  ∀ (p : Addr) (o : OwnD) (H' : Hp), H p = none → SameBut k H H' → Sack H' k (n + 120) → Tp H' (.ref p) (ownD o) → OwnOk o → Q (.ref p) H'
inductive Plc where
  | reg (x : Str)
  | hid (j : Int)
def plcD : Plc → PyData
  | .reg x => .tuple [.str "reg", .str x]
  | .hid j => .tuple [.str "hid", .int j]
inductive Ordr where
  | alu (op : Str) (t a b : Plc)
  | put (t : Plc) (n : Int)
  | two (kind : Str) (t a : Plc)
section
variable {P : Program} {w : World} {K : PySem.W.Frag} {mg : Str → Option Value} {base : Heap}
theorem scSack : FnScope ["cell", "k"] ["cell", "k"] (defScope sSack) := ⟨rfl, rfl, rfl, by decide +kernel, rfl, by decide +kernel, by decide +kernel⟩
theorem ok_sack {f : Addr} {fd : FuncData} (F : Fun K "_law_sack" "_law_sack" sSack f fd) (mm : mg "max" = none) : FnOk P w K mg base CX0 1 f fd ["cell", "k"] spSack := by
  refine F.ok scSack (fun vs H Q E h => ?_) (fun cdv A outer s H vs Q E hr h => ?_)
  · obtain ⟨c, j, rfl, _⟩ := h
    rfl
  · obtain ⟨c, j, rfl, hj0, hj1, q⟩ := h
    refine ⟨_, pss_one (ps_ret (pe_lst (pa_cons (pe_callB (call_max2 rfl) (by rfl) mm (by decide +kernel) (pa_cons pe_int (pa_cons (pe_op op_sub (pv 0) (pe_op op_pow pe_int pe_int)) pa_nil)))
      (pa_cons (pe_op op_add (pe_op op_mod (pv 0) (pe_op op_add (pe_op op_pow pe_int pe_int) pe_int)) (pe_op op_mul pe_int (pv 1))) (pa_cons pe_int pa_nil))))), ?_⟩
    refine ⟨_, rfl, _, _, rfl, rfl, ⟨by decide, by decide, by decide⟩, _, _, rfl, rfl, _, _, rfl, ?_⟩
    refine ⟨_, rfl, _, _, rfl, rfl, ⟨by decide, by decide, by decide⟩, _, _, rfl, rfl, _, _, rfl, rfl, (by show (0 : Int) < 10 ^ (40 : Int).toNat + 121; decide), _, rfl, _, _, rfl, rfl, .inl ⟨by decide, by decide⟩, _, _, rfl, rfl, (by show 3 ≤ sizeLine; decide), fun k hk => ?_⟩
    refine q k _ hk (same_new hk _) ⟨_, _, 0, upd_same, ?_, ?_, ?_, by decide, by decide⟩
    · split <;> omega
    · have := Int.emod_nonneg c (show (10 : Int) ^ (40 : Int).toNat + 121 ≠ 0 by decide)
      omega
    · have h1 := Int.emod_lt_of_pos c (show (0 : Int) < 10 ^ (40 : Int).toNat + 121 by decide)
      have h2 : (10 : Int) ^ (40 : Int).toNat + 121 + 7919 * 100 < 2 ^ 140 := by decide
      omega
theorem scOwn : FnScope ["sack", "bits", "names", "hidden", "top", "cells"] ["sack"] (defScope sOwn) := ⟨rfl, rfl, rfl, by decide +kernel, rfl, by decide +kernel, by decide +kernel⟩
theorem ok_own {f : Addr} {fd : FuncData} (F : Fun K "_law_own" "_law_own" sOwn f fd) (dP : Df K mg "_law_pull" sPull ["sack", "many"]) (dN : Df K mg "_law_names" sNames ["sack", "many"]) (mr : mg "range" = none) (mn : mg "min" = none) (mt : mg "tuple" = none) : FnOk P w K mg base CX0 3 f fd ["sack"] spOwn := by
  have GP : FnOk P w K mg base CX0 1 dP.f dP.fd ["sack", "many"] spPull := ok_pull dP.F
  have GN : FnOk P w K mg base CX0 2 dN.f dN.fd ["sack", "many"] spNames := ok_names dN.F dP mr
  refine F.ok scOwn (fun vs H Q E h => ?_) (fun cdv A outer s H vs Q E hr h => ?_)
  · obtain ⟨k, n, rfl, _⟩ := h
    rfl
  · obtain ⟨k, n, rfl, S0, hn, q⟩ := h
    have hr1 : Room 1 _ := hr.mono (by decide)
    refine ⟨_, pss_cons (ps_set (i := 1) scOwn.nd rfl (Or.inl rfl) (pe_op op_add pe_int (pe_call GP hr1 rfl dP.m dP.F.kp dP.b .nil pass0 (pa_cons (pv 0) (pa_cons pe_int pa_nil)))))
      (pss_cons (ps_set (i := 2) scOwn.nd rfl (Or.inl rfl) (pe_call GN hr rfl dN.m dN.F.kp dN.b .nil pass0 (pa_cons (pv 0) (pa_cons (pe_op op_add pe_int (pe_call GP hr1 rfl dP.m dP.F.kp dP.b .nil pass0 (pa_cons (pv 0) (pa_cons pe_int pa_nil)))) pa_nil))))
      (pss_cons (ps_set (i := 3) scOwn.nd rfl (Or.inl rfl) (pe_ix ix_list (pe_lst (pa_cons (pe_call GP hr1 rfl dP.m dP.F.kp dP.b .nil pass0 (pa_cons (pv 0) (pa_cons pe_int pa_nil))) (pa_cons (pe_call GP hr1 rfl dP.m dP.F.kp dP.b .nil pass0 (pa_cons (pv 0) (pa_cons pe_int pa_nil))) pa_nil))) (pe_call GP hr1 rfl dP.m dP.F.kp dP.b .nil pass0 (pa_cons (pv 0) (pa_cons pe_int pa_nil))) (fun _ _ => rfl)))
      (pss_cons (ps_set (i := 4) scOwn.nd rfl (Or.inl rfl) (pe_op op_shl pe_int (pv 1)))
      (pss_cons (ps_set (i := 5) scOwn.nd rfl (Or.inl rfl) (pe_ix ix_list (pe_lst (pa_cons pe_int (pa_cons (pe_call GP hr1 rfl dP.m dP.F.kp dP.b .nil pass0 (pa_cons (pv 0) (pa_cons (pe_op op_add (pe_callB (call_min2 rfl) (by rfl) mn (by decide +kernel) (pa_cons (pv 4) (pa_cons pe_int pa_nil))) pe_int) pa_nil))) (pa_cons (pv 4) (pa_cons (pe_call GP hr1 rfl dP.m dP.F.kp dP.b .nil pass0 (pa_cons (pv 0) (pa_cons (pe_op op_add (pv 4) pe_int) pa_nil))) pa_nil))))) (pe_call GP hr1 rfl dP.m dP.F.kp dP.b .nil pass0 (pa_cons (pv 0) (pa_cons pe_int pa_nil))) (fun _ _ => rfl)))
      (pss_one (ps_ret (pe_tup (pa_cons (pv 1) (pa_cons (pe_callTy call_tuple_of (by rfl) mt (by decide +kernel) (pa_cons (pv 2) pa_nil)) (pa_cons (pv 3) (pa_cons (pe_op op_add pe_int (pe_call GP hr1 rfl dP.m dP.F.kp dP.b .nil pass0 (pa_cons (pv 0) (pa_cons pe_int pa_nil)))) (pa_cons (pe_op op_add pe_int (pe_call GP hr1 rfl dP.m dP.F.kp dP.b .nil pass0 (pa_cons (pv 0) (pa_cons pe_int pa_nil)))) (pa_cons (pv 5) pa_nil)))))))))))))
      , ?_⟩
    -- bits
    refine ⟨_, rfl, k, 8, n, rfl, S0, by omega, by decide, by decide, fun r1 H1 a1 b1 sb1 S1 => ⟨_, _, rfl, rfl, ?_⟩⟩
    -- names
    refine ⟨_, rfl, _, rfl, k, 6, n + 1, rfl, S1, by omega, by decide, by decide, fun r2 H2 a2 b2 sb2 S2 => ⟨_, _, rfl, rfl, k, (1 + r2).toNat, n + 2, (by rw [show (((1 + r2).toNat : Nat) : Int) = 1 + r2 by omega]; rfl), S2, by omega, by omega, by omega, fun l ns H3 hl3 sb3 S3 hl O3 => ?_⟩⟩
    -- hidden
    refine ⟨_, rfl, k, 4, n + 102, rfl, S3, by omega, by decide, by decide, fun r4 H4 a4 b4 sb4 S4 => ⟨_, rfl, k, 13, n + 103, rfl, S4, by omega, by decide, by decide, fun r5 H5 a5 b5 sb5 S5 => ⟨(by show 2 ≤ sizeLine; decide), fun p5 h5 => ?_⟩⟩⟩
    refine ⟨_, rfl, k, 2, n + 104, rfl, S5.same (same_new h5 _), by omega, by decide, by decide, fun r6 H6 a6 b6 sb6 S6 => ?_⟩
    have nk5 : p5 ≠ k := by obtain ⟨_, _, _, z, _⟩ := S5; exact (ne_of_none z h5).symm
    obtain ⟨v6, hv6, at6⟩ := at_lt (xs := [V.int r4, V.int r5]) a6 (by show r6 < (2 : Int); exact b6)
    obtain ⟨hd, rfl, hd0, hd1⟩ : ∃ hd : Int, v6 = .int hd ∧ 0 ≤ hd ∧ hd ≤ 12 := by
      rcases List.mem_cons.mp hv6 with z | z
      · exact ⟨r4, z, by omega, by omega⟩
      · exact ⟨r5, List.mem_singleton.mp z, by omega, by omega⟩
    refine ⟨p5, _, _, _, rfl, rfl, SqL.of (sb6 _ _ upd_same nk5), at6, ?_⟩
    -- top
    refine ⟨_, rfl, _, _, rfl, rfl, ⟨by omega, by omega, by decide⟩, ?_⟩
    obtain ⟨t0, t1⟩ := pow_rng (1 + r1).toNat (by omega) (by omega)
    have t0 : 2 ≤ tp r1 := t0
    have t1 : tp r1 ≤ 256 := t1
    -- cells
    have m0 : (0 : Int) < (if (9 : Int) < tp r1 then 9 else tp r1) + 1 := by split <;> omega
    have m1 : (if (9 : Int) < tp r1 then 9 else tp r1) + 1 < 1000000 := by split <;> omega
    have m2 : (if (9 : Int) < tp r1 then 9 else tp r1) ≤ tp r1 := by split <;> omega
    refine ⟨_, rfl, _, rfl, _, _, rfl, _, _, rfl, rfl, k, _, n + 105, rfl, S6, by omega, m0, m1, fun r7 H7 a7 b7 sb7 S7 => ?_⟩
    refine ⟨_, rfl, _, rfl, _, rfl, _, _, rfl, rfl, k, tp r1 + 1, n + 106, rfl, S7, by omega, by omega, by omega, fun r8 H8 a8 b8 sb8 S8 => ⟨(by show 4 ≤ sizeLine; decide), fun p8 h8 => ?_⟩⟩
    refine ⟨_, rfl, k, 4, n + 107, rfl, S8.same (same_new h8 _), by omega, by decide, by decide, fun r9 H9 a9 b9 sb9 S9 => ?_⟩
    have b7' : r7 < (if (9 : Int) < tp r1 then 9 else tp r1) + 1 := b7
    have b8' : r8 < tp r1 + 1 := b8
    have nk8 : p8 ≠ k := by obtain ⟨_, _, _, z, _⟩ := S8; exact (ne_of_none z h8).symm
    obtain ⟨v9, hv9, at9⟩ := at_lt (xs := [V.int 0, V.int r7, V.int (tp r1), V.int r8]) a9 (by show r9 < (4 : Int); exact b9)
    obtain ⟨ce, rfl, ce0, ce1⟩ : ∃ ce : Int, v9 = .int ce ∧ 0 ≤ ce ∧ ce ≤ tp r1 := by
      rcases List.mem_cons.mp hv9 with z | z
      · exact ⟨0, z, by omega, by omega⟩
      rcases List.mem_cons.mp z with z | z
      · exact ⟨r7, z, by omega, by omega⟩
      rcases List.mem_cons.mp z with z | z
      · exact ⟨tp r1, z, by omega, by omega⟩
      · exact ⟨r8, List.mem_singleton.mp z, by omega, by omega⟩
    refine ⟨p8, _, _, _, rfl, rfl, SqL.of (sb9 _ _ upd_same nk8), at9, ?_⟩
    -- the tuple
    have kp3 : SameBut k H3 H9 := sb4.trans (sb5.trans ((SameBut.new h5).trans (sb6.trans (sb7.trans (sb8.trans ((SameBut.new h8).trans sb9))))))
    have nlk : l ≠ k := by
      obtain ⟨_, _, _, z, _⟩ := S2
      exact (ne_of_none z hl3).symm
    have hl9 := kp3 _ _ hl nlk
    refine ⟨_, rfl, _, rfl, l, _, rfl, .inl ⟨SqL.of hl9, fun t ht => ?_⟩⟩
    refine ⟨_, rfl, _, rfl, k, 3, n + 108, rfl, S9.same (same_new ht _), by omega, by decide, by decide, fun r10 H10 a10 b10 sb10 S10 => ⟨_, _, rfl, rfl, ?_⟩⟩
    refine ⟨_, rfl, k, 3, n + 109, rfl, S10, by omega, by decide, by decide, fun r11 H11 a11 b11 sb11 S11 => ⟨_, _, rfl, rfl, _, rfl, (by show 6 ≤ sizeLine; decide), fun p hp => ?_⟩⟩
    have ntk : t ≠ k := by obtain ⟨_, _, _, z, _⟩ := S9; exact (ne_of_none z ht).symm
    have all : SameBut k H H11 := sb1.trans (sb2.trans (sb3.trans (kp3.trans ((SameBut.new ht).trans (sb10.trans sb11)))))
    have hp0 : H p = none := by
      cases z : H p with
      | none => rfl
      | some o =>
        by_cases e : p = k
        · obtain ⟨_, _, _, z2, _⟩ := S11
          subst e
          rw [hp] at z2
          cases z2
        · rw [all p o z e] at hp
          cases hp
    have ht11 : H11 t = some (.tup (ns.map V.str)) := sb11 _ _ (sb10 _ _ upd_same ntk) ntk
    refine q p ⟨1 + r1, ns, hd, 1 + r10, 1 + r11, ce⟩ _ hp0 (all.trans (SameBut.new hp)) ((S11.same (same_new hp _)).mono (by omega)) ?_ ?_
    · exact .tup upd_same (.cons (.int _) (.cons (.tup (same_new hp _ _ _ ht11) (TpAll.strs ns)) (.cons (.int _) (.cons (.int _) (.cons (.int _) (.cons (.int _) .nil))))))
    · refine ⟨⟨?_, ?_⟩, ⟨_, O3, by omega, by omega⟩, ⟨hd0, hd1⟩, ⟨?_, ?_⟩, ⟨?_, ?_⟩, ⟨ce0, ?_⟩⟩
      all_goals (try dsimp only)
      all_goals (try omega)
      have z : tp r1 = 2 ^ (1 + r1).toNat := Int.one_mul _
      rw [← z]
      exact ce1
end
end My
set_option Elab.async false
set_option linter.all false
set_option maxRecDepth 100000
set_option maxHeartbeats 1000000
namespace My
open PySem L2 TL
inductive Part where
  | plc (c : Plc)
  | txt (x : Str)
  | num (n : Int)
abbrev numT (n : Int) : Str := Str.ofString (toString n)
def partD : Part → PyData
  | .plc c => plcD c
  | .txt x => .str x
  | .num n => .int n
theorem TpAll.len {H : Hp} : ∀ {vs : List V} {ds : List PyData}, TpAll H vs ds → vs.length = ds.length
  | _, _, .nil => rfl
  | _, _, .cons _ r => by rw [List.length_cons, List.length_cons, TpAll.len r]
theorem TpAll.get {H : Hp} : ∀ {vs : List V} {ps : List Part} {i : Nat} {v : V}, TpAll H vs (ps.map partD) → vs[i]? = some v → ∃ p, ps[i]? = some p ∧ Tp H v (partD p)
  | _, [], _, _, .nil, e => by simp at e
  | _, p :: r, 0, _, .cons h _, e => by
    simp at e
    subst e
    exact ⟨p, rfl, h⟩
  | _, p :: r, i + 1, v, .cons _ t, e => by
    obtain ⟨q, h1, h2⟩ := TpAll.get (i := i) (v := v) t (by simpa using e)
    exact ⟨q, by simpa using h1, h2⟩
end My
set_option Elab.async false
set_option linter.all false
set_option maxRecDepth 100000
set_option maxHeartbeats 4000000
namespace L2
open PySem PySem.Spec PyProof.Rows
section
variable {prog : Program} {w : World} {A : Around} {R : Result → Shared → Prop} {a : Addr}
theorem all_loop (I : Nat → Shared → Prop) (turn : ∀ n s E, I n s → wpAny (model prog w) A.in1 (pyNext (.ref a)) (fun r s₁ => match r with
    | none => R (.ok (.ret (.bool true))) s₁
    | some v => ∃ b, v = .bool b ∧ if b = true then ∃ m, m < n ∧ I m s₁ else R (.ok (.ret (.bool false))) s₁) E s) :
    ∀ n s, I n s → codeAny (model prog w) A (.builtin "all.loop" ⟨[.ref a], []⟩) R s := by
  intro n
  induction n using Nat.strongRecOn with
  | ind n ih =>
    intro s hI
    refine codeAny_builtin F.entry_all_loop ?_
    rw [Around.under_plainId F.plain_all_loop _]
    show wpAny _ A.in1 (pyNext (.ref a) >>= _) _ _ s
    refine wpAny_bind (wpAny_mono (turn n s _ hI) (fun r s₁ h₁ => ?_) fun _ _ e => e)
    cases r with
    | none => exact wpAny_bind (wpAny_rule (wpAny_pure h₁))
    | some v =>
      obtain ⟨b, rfl, h₁⟩ := h₁
      refine wpAny_bind (wpAny_holding (wpAny_truthy_bool ?_))
      refine wpAny_bind (wpAny_letGo ?_)
      cases b with
      | true =>
        simp only [if_true] at h₁ ⊢
        obtain ⟨m, hm, h₁⟩ := h₁
        exact wpAny_pure ⟨plainId_quiet F.plain_all_loop _, ih m hm _ h₁⟩
      | false =>
        simp only [Bool.false_eq_true, if_false] at h₁ ⊢
        exact wpAny_bind (wpAny_rule (wpAny_pure h₁))
theorem call_all_by {s : Shared} {Q : Value → Shared → Prop} {E : Value → Shared → Prop} {g n : Nat} (hg : s.heap.IsGen a g) (I : Nat → Shared → Prop) (h : I n s)
    (turn : ∀ n s E, I n s → wpAny (model prog w) A.in1 (pyNext (.ref a)) (fun r s₁ => match r with
      | none => Q (.bool true) s₁
      | some v => ∃ b, v = .bool b ∧ if b = true then ∃ m, m < n ∧ I m s₁ else Q (.bool false) s₁) E s) : wpAny (model prog w) A (call (.builtin "all") [.ref a]) Q E s := by
  refine call_function_tree F.kind_all F.plain_all F.entry_all (F.args_all1 _) ?_
  unfold Builtin.«all»
  refine wpAny_bind (m := oneArg "all" _) (wpAny_pure ?_)
  refine wpAny_bind (wpAny_pyIter_gen hg ?_)
  exact wpAny_pure ⟨plainId_quiet F.plain_all_loop _, all_loop I (fun n s E hI => turn n s E hI) n s h⟩
end
/-- the table of a def's code: it has grown, at most -/
def TabOk (P : Addr) (ps : Array Value) : Heap → Prop := fun h => ∃ more, h.get? P = some { cls := .none, data := .fields (ps ++ more) } ∧ TriplesOk (ps ++ more).toList
theorem TabOk.stay {P : Addr} {ps : Array Value} : ∀ h1 h2 : Heap, TabOk P ps h1 → (∀ o, h1.get? P = some o → h2.get? P = some o) → TabOk P ps h2 :=
  fun _ _ ⟨more, e, t⟩ k => ⟨more, k _ e, t⟩
/-- what making a generator wants of the heap behind the top: the def's code object, the module of the builtins -/
structure GenK (base : Heap) (mg : Str → Option Value) (cd : Value) (P : Addr) : Prop where
  code : ∃ c o vs file tf flags tg inF text tt, cd = .ref c ∧ base.get? c = some o ∧ o.cls = .type "code" ∧ o.data = .fields vs ∧ vs[11]? = some (.ref P) ∧ vs.getD 18 .none = .str file tf ∧ vs.getD 7 .none = .int flags tg ∧ vs.getD 9 .none = .bool inF ∧ vs.getD 10 .none = .int text tt ∧ c ≠ P
  blt : ∃ bm o, mg "__builtins__" = some (.ref bm) ∧ bm ≠ builtinsNs ∧ base.get? bm = some o ∧ o.cls = .type "module" ∧ o.dict = some builtinsNs ∧ o.data = .plain
section
variable {X : Cx} {pins : List (Addr × Obj)} {σ : St} {H : Hp} {s : Shared}
theorem Inv.gens {s' : Shared} (I : Inv X pins σ H s) (hh : s'.heap = s.heap) (ho : s'.os = s.os) (hg : GB s.gens.size s'.gens) : Inv X pins σ H s' := by
  obtain ⟨h', g', d', t', o'⟩ := s'
  have e1 : h' = s.heap := hh
  have e2 : o' = s.os := ho
  subst e1 e2
  exact ⟨I.ok, I.os, I.bare.step hg, I.base, I.loc, I.cell, I.free, I.freeC, I.pin, I.hok, I.len⟩
theorem gen_code {P : Addr} {ps : Array Value} {M : Model} {A : Around} {E : Value → Shared → Prop} {Q : Value → Shared → Prop} {pos : Pos} {qual : Str} {scope : Scope} (I : Inv X pins σ H s) (hK : GenK X.base X.mg X.env.code P) (hP : H P = some (.ext (TabOk P ps)))
    (h : ∀ code s', Inv X pins σ H s' → (∀ b o, b ≠ P → s.heap.get? b = some o → s'.heap.get? b = some o) → Q code s') : wpAny M A (genexprCode X.env pos qual scope) Q E s := by
  obtain ⟨⟨more, ht, htr⟩, hex, hst⟩ := I.hok P _ hP
  obtain ⟨c, o, vs, file, tf, flags, tg, inF, text, tt, hc, hl, hcls, hd, h11, h18, h7, h9, h10, hne⟩ := hK.code
  have ho := I.bk c o hl
  have h11' : vs.getD 11 .none = .ref P := by rw [Array.getD_eq_getD_getElem?, h11]; rfl
  have hcode : s.heap.IsCode c P (ps ++ more) := ⟨o, vs, file, tf, flags, tg, inF, text, tt, _, ho, hd, h11', h18, h7, h9, h10, ht, rfl, htr, hne⟩
  have htab : s.heap.TableAt c P (ps ++ more) := ⟨⟨o, vs, ho, hcls, hd, h11⟩, ht⟩
  cases hf : codeAmong pos (ps ++ more).toList with
  | some c' => exact wpAny_genexprCode_hit hc hcode hf (h _ _ I (fun b o _ e => e))
  | none =>
    refine wpAny_genexprCodeX hc hcode htab hf fun c' h' tk hx hc' _ hcode' _ htab' _ => ?_
    have e : upd H P (.ext (TabOk P ps)) = H := by
      funext b
      by_cases hb : b = P
      · subst hb; rw [upd_same, hP]
      · rw [upd_ne hb]
    obtain ⟨_, _, _, _, _, _, _, _, _, op, _, _, _, _, _, _, _, hop, hpd, htr', _⟩ := hcode'
    have I' := I.write (x := P) (e := P) (o := .ext (TabOk P ps)) (t' := tk) (h' := h') (by rw [hP]; trivial) (.inl rfl) (fun b u hb q => hx b u hb q) ⟨_, htab'.2⟩
      ⟨⟨more ++ #[rawInt pos.line, rawInt pos.col, .ref c'], by rw [← Array.append_assoc]; exact htab'.2, by rw [← Array.append_assoc]; exact htr'⟩, ⟨_, htab'.2⟩, TabOk.stay⟩
    rw [e] at I'
    exact h _ _ I' (fun b o hb q => hx b o hb q)
end
/-- the context of a generator's frame -/
abbrev Cx.gen (X : Cx) (A : Around) (s : Shared) (H : Hp) (scope : Scope) (cenv : Env) (fp : List Addr) : Cx :=
  { X with A := A, s_0 := s, H_0 := H, env := cenv, outer := X.stack, stack := cenv :: X.stack, ex := fp, fn := fun x => scope.names.lookup x == some .cell, pn := [], xe := fun _ _ => False }
section
variable {X : Cx} {pins : List (Addr × Obj)} {σ : St} {H : Hp} {s : Shared}
theorem gen_start {scope : Scope} {own : List (Str × Nat)} {fp : List Addr} {A : Around} {code : Value} {cenv : Env} {gs : Array GenState} {tk : Nat} {h' : Heap} {m : Str → Option Value} {a : Addr} {og : Obj} (I : Inv X pins σ H s) (ok : BlkOk X.N X.env.scope scope own) (hN : X.N.Nodup)
    (hfp : ∀ b ∈ fp, FpOk X pins H b ∧ b < s.heap.objs.size) (hcell : ∀ y ∈ scope.names, y.2 ≠ .cell) (hA : A.handled = none) (hfr : A.frames = some (cenv :: X.stack))
    (hcenv : cenv = genEnv scope (cloFrom X.env.cells scope.names []) s.heap.objs.size code builtinsNs X.env) (hgs : GB s.gens.size gs) (hn : h'.Ns s.heap.objs.size m) (kp : ∀ b o, s.heap.get? b = some o → h'.get? b = some o)
    (ha : h'.get? a = some og) (hal : s.heap.objs.size < a) (hog : ∀ v, og.data ≠ .cell v) :
    Inv (X.gen A { s with gens := gs } H scope cenv fp) [(a, og)] (wipe σ (own.map (·.2))) H { s with gens := gs, toks := tk, heap := h' } := by
  have hfree : ∀ y ∈ scope.names, y.2 = .free → ∃ c, X.env.cells.lookup y.1 = some c := fun y hy e => by
    rcases ok.free y hy e with k | k
    · exact I.ok.has _ (.inl k)
    · exact I.ok.has _ (.inr k)
  have hL : cenv.locals = s.heap.objs.size := by rw [hcenv]; rfl
  have hcl : cenv.cells = cloFrom X.env.cells scope.names [] := by rw [hcenv]; rfl
  have hsc : cenv.scope = scope := by rw [hcenv]; rfl
  have cm : ∀ {y c}, (y, c) ∈ cloFrom X.env.cells scope.names [] → (y, NameKind.free) ∈ scope.names ∧ X.env.cells.lookup y = some c ∧ c < s.heap.objs.size := fun {y c} hm => by
    rcases cloFrom_mem hm with hm | ⟨h1, rfl⟩
    · cases hm
    · obtain ⟨c, hc⟩ := hfree _ h1 rfl
      rw [hc]
      obtain ⟨w, z⟩ := I.cell _ _ hc
      exact ⟨h1, rfl, z.lt⟩
  have mem : ∀ {y c}, cenv.cells.lookup y = some c → X.env.cells.lookup y = some c ∧ c < s.heap.objs.size := fun {y c} e => by
    rw [hcl] at e
    exact (cm (PySem.mem_of_lookup e)).2
  have look : ∀ {y}, scope.names.lookup y = some .free → ∃ c, cenv.cells.lookup y = some c ∧ X.env.cells.lookup y = some c := fun {y} hl => by
    have hy : (y, NameKind.free) ∈ scope.names := PySem.mem_of_lookup hl
    obtain ⟨c', e'⟩ := mem_lookup (cloFrom_has (cells := X.env.cells) (acc := []) hy)
    rw [← hcl] at e'
    exact ⟨c', e', (mem e').1⟩
  have nocell : ∀ y, scope.names.lookup y ≠ some .cell := fun y e => hcell _ (PySem.mem_of_lookup e) rfl
  have okB : (X.gen A { s with gens := gs } H scope cenv fp).Ok := by
    refine ⟨I.ok.mod, by show cenv.scope.kind = _; rw [hsc]; exact ok.kind, by show cenv.globals = _; rw [hcenv]; exact I.ok.glob, by show cenv.builtins = _; rw [hcenv]; rfl, by show s.heap.objs.size ≤ cenv.locals; rw [hL]; exact Nat.le_refl _,
      fun y z c e1 e2 => ?_, fun y hy => ?_, fun y c z e => ?_, fun _ => hA, hfr, .inr ⟨rfl, by show cenv.frame = some cenv.locals; rw [hcenv]; rfl⟩, fun b hb => ⟨?_, fun y c e z => ?_⟩, I.bs, Nat.le_trans I.ok.bsz I.sz, fun b o e hb => ?_, fun b hb z => ?_, I.stack, I.stkFree⟩
    · exact I.ok.inj y z c (mem e1).1 (mem e2).1
    · have hy : cenv.scope.names.lookup y = some .cell ∨ cenv.scope.names.lookup y = some .free := hy
      rw [hsc] at hy
      rcases hy with hy | hy
      · exact absurd hy (nocell y)
      · obtain ⟨c, h1, _⟩ := look hy
        exact ⟨c, h1⟩
    · have z : (scope.names.lookup y == some NameKind.cell) = true := z
      have z : scope.names.lookup y = some .cell := by simpa using z
      exact absurd z (nocell y)
    · show b ≠ cenv.locals
      rw [hL]; exact Nat.ne_of_lt (hfp b hb).2
    · exact (hfp b hb).1.2.2.2.2.1 y c (mem e).1 z
    · rcases (hfp b hb).1.2.2.2.1 with z | z
      · exact I.ok.noex b o e z
      · exact absurd (Nat.lt_of_lt_of_le (Heap.lt_size e) (Nat.le_trans I.ok.bsz z)) (Nat.lt_irrefl _)
    · rcases List.mem_cons.mp (I.stkSub b z) with z | z
      · exact (hfp b hb).1.2.1 z
      · exact (hfp b hb).1.2.2.1 z
  refine ⟨okB, rfl, ⟨hgs.all, Nat.le_refl _⟩, Un.kept kp, ⟨m, ?_, fun i y av e1 e2 e3 => ?_⟩, fun y c e => ?_, ?_, fun y c e => ?_, fun p hp => ?_, I.hok.kept kp, by rw [wipe_length]; exact I.len⟩
  · show Heap.Ns _ cenv.locals _
    rw [hL]
    exact hn
  · obtain ⟨e2, hne⟩ := wipe_some e2
    have e3 : Vis cenv.scope y := e3
    unfold Vis at e3
    rw [hsc] at e3
    have hfr : scope.names.lookup y = some .free := by
      rcases e3 with e3 | e3 | e3
      · rcases ok.own _ (PySem.mem_of_lookup e3) (.inl rfl) with e' | e'
        · obtain ⟨p, hp, hpy⟩ := List.mem_map.mp e'
          have e3 := ok.ix p hp
          have : p.1 = y := hpy
          rw [this] at e3
          exact absurd (List.mem_map.mpr ⟨p, hp, nodup_ix hN e3 e1⟩) hne
        · exact absurd (List.mem_of_getElem? e1) e'
      · exact absurd e3 (nocell y)
      · exact e3
    obtain ⟨m', hn', hl⟩ := I.loc
    have hvis : Vis X.env.scope y := (ok.free _ (PySem.mem_of_lookup hfr) rfl).elim (fun k => .inr (.inl k)) (fun k => .inr (.inr k))
    obtain ⟨w, r, q⟩ := hl i y av e1 e2 hvis
    refine ⟨w, r, .inr ⟨.inr (by show cenv.scope.names.lookup y = _; rw [hsc]; exact hfr), ?_⟩⟩
    obtain ⟨c, h1, h2⟩ := look hfr
    rcases q with ⟨k, _⟩ | ⟨_, c', e', z⟩
    · have k : X.env.scope.names.lookup y = some .local := k
      rcases ok.free _ (PySem.mem_of_lookup hfr) rfl with k' | k' <;> rw [show X.env.scope.names.lookup y = _ from k'] at k <;> cases k
    · rw [h2] at e'; cases e'
      exact ⟨c, h1, z.keeps kp⟩
  · obtain ⟨w, z⟩ := I.cell y c (mem e).1
    exact ⟨w, z.keeps kp⟩
  · show H cenv.locals = none
    rw [hL]; exact I.hok.fresh (Nat.le_refl _)
  · exact I.freeC y c (mem e).1
  · have hp : p ∈ [(a, og)] := hp
    obtain rfl : p = (a, og) := by simpa using hp
    refine ⟨ha, I.hok.fresh (Nat.le_of_lt hal), by show a ≠ cenv.locals; rw [hL]; exact Nat.ne_of_gt hal, fun z => ?_, hog⟩
    rcases List.mem_cons.mp (I.stkSub a z) with z | z
    · exact absurd (Nat.lt_trans (z ▸ I.lt) hal) (Nat.lt_irrefl _)
    · exact I.nofs (Nat.le_of_lt hal) z
end
end L2
set_option Elab.async false
set_option linter.all false
set_option maxRecDepth 100000
set_option maxHeartbeats 4000000
namespace L2
open PySem PySem.Spec PyProof.Rows
theorem AllBare.set {s : Shared} {g : Nat} {gs : GenState} (h : AllBare s.gens) (hb : gs.bare = true) : GB s.gens.size (s.setGen g gs).gens := by
  have sz := (GenOnly.setGen s g gs).1
  refine ⟨fun y hy => ?_, Nat.le_of_eq sz.symm⟩
  obtain ⟨i, hi, rfl⟩ := Array.mem_iff_getElem.mp hy
  by_cases e : i = g
  · subst e
    have h1 : (s.setGen i gs).gens[i]? = some gs := setGen_self (gs := s.gens[i]'(by rw [← sz]; exact hi)) (Array.getElem?_eq_getElem _)
    rw [Array.getElem?_eq_getElem hi] at h1
    rw [Option.some.inj h1]; exact hb
  · have h1 := (GenOnly.setGen s g gs).2 i e
    rw [Array.getElem?_eq_getElem hi] at h1
    obtain ⟨hi', e'⟩ := Array.getElem?_eq_some_iff.mp h1.symm
    rw [← e']
    exact h _ (Array.getElem_mem hi')
/-- nothing happened but to the generators -/
structure Same3 (s s' : Shared) : Prop where
  heap : s'.heap = s.heap
  os : s'.os = s.os
  gens : GB s.gens.size s'.gens
/-- all(..) (z = true), any(..) (z = false) of a generator expression -/
def tQG (z : Bool) (P : Addr) (wi : TI) (g : TG) (te : TE) (vs : List Nat) : TE := fun σ H Q => wi σ H fun J H1 => (∃ ps, H1 P = some (.ext (TabOk P ps))) ∧ ∃ W : Nat → Nat → Hp → Prop, (∃ m, W 0 m H1) ∧ ∀ i m H, W i m H →
  (J.stop i H ∧ Q (.bl z) H) ∨ (J.go i H ∧ ∃ Nx : Hp → Prop, (∀ H', Nx H' → ∃ m', m' < m ∧ W (i + 1) m' H') ∧ ∀ x H', J.yld i H x H' → g x (wipe σ vs) H' fun σ2 H2 => wipe σ2 vs = wipe σ vs ∧
    te σ2 H2 fun y H3 => ∃ b, y = .bl b ∧ if b = z then Nx H3 else Q (.bl (!z)) H3)
structure GenSc (scope : Scope) : Prop where
  co : scope.isCoroutine = false
  cell : ∀ y ∈ scope.names, y.2 ≠ .cell
  it : scope.names.lookup (".0" : Str) = some NameKind.local
section
variable {X : Cx} {k : Nat}
theorem gen_make {z : Bool} {P : Addr} {pins : List (Addr × Obj)} {s : Shared} {σ : St} {H : Hp} {Q : VK} {elt tg iter : Expr} {scope : Scope} {own : List (Str × Nat)} {pos : Pos} {wi : TI} {g : TG} {te : TE}
    (hc : X.calm = true) (hN : X.N.Nodup) (hr : Room (k + 1) X.A) (I : Inv X pins σ H s) (hi : PI X tg iter wi) (ok : BlkOk X.N X.env.scope scope own) (gsc : GenSc scope) (hK : GenK X.base X.mg X.env.code P)
    (hg : ∀ (A : Around) (s : Shared) (H : Hp) (C : Addr) (cl : List (Str × Addr)) (code : Value) (fp : List Addr), Room k A → PG (X.gen A s H scope (genEnv scope cl C code builtinsNs X.env) fp) tg g)
    (he : ∀ (A : Around) (s : Shared) (H : Hp) (C : Addr) (cl : List (Str × Addr)) (code : Value) (fp : List Addr), Room k A → PE (X.gen A s H scope (genEnv scope cl C code builtinsNs X.env) fp) elt te)
    (hs : ∀ x, genFold iter X.env x = pure x) (h : tQG z P wi g te (own.map (·.2)) σ H Q) :
    wpAny (model X.prog X.w) X.A (eval (.GeneratorExp elt [⟨tg, iter, [], 0⟩] scope pos) X.env) (fun v s' => ∃ (a : Addr) (gi n : Nat) (J : Nat → Shared → Prop), v = .ref a ∧ s'.heap.IsGen a gi ∧ J n s' ∧
      ∀ n s (E : Value → Shared → Prop), J n s → wpAny (model X.prog X.w) X.A.in1 (pyNext (.ref a)) (fun r s₁ => match r with
        | none => EP X pins σ Q (.bool z) s₁
        | some v => ∃ b, v = .bool b ∧ if b = z then ∃ m, m < n ∧ J m s₁ else EP X pins σ Q (.bool (!z)) s₁) E s) X.xe s := by
  have hfree : ∀ y ∈ scope.names, y.2 = .free → ∃ c, X.env.cells.lookup y.1 = some c := fun y hy e => by
    rcases ok.free y hy e with k | k
    · exact I.ok.has _ (.inl k)
    · exact I.ok.has _ (.inr k)
  refine wpAny_GeneratorExp_make gsc.co (closure_ok hfree) gsc.cell gsc.it ok.kind (by have := hr.dp; omega) (thn (hi s σ H _ I h) fun xv s1 hx => thn hx fun itv s2 h2 => ?_) hs
  obtain ⟨it, fp, tn, J, H2, e, I2, T, st2, f2, ⟨ps, hP⟩, W, ⟨m0, w0⟩, turn⟩ := h2
  subst e
  refine ⟨I2.nolimit, gen_code I2 hK hP fun code s3 I3 k3 => ?_⟩
  obtain ⟨bm, ob, hb1, hb2, hb3, hb4, hb5, hb6⟩ := hK.blt
  refine wpAny_builtinsFor (by rw [I3.ok.glob]; exact I3.mod.glob.keeps I3.bk) hb1 hb2 (I3.bk _ _ hb3) hb4 hb5 hb6 ?_
  intro h' hn' hs'
  have nfp : ∀ b ∈ fp, H2 b = none := fun b hb => (f2 b hb).1
  have st3 : tn 0 s3.heap := T.keep _ _ _ st2 fun b hb o e => k3 b o (fun z => by rw [z] at hb; rw [nfp P hb] at hP; cases hP) e
  have f3 : ∀ b ∈ fp, FpOk X pins H2 b ∧ b < s3.heap.objs.size := fun b hb => ⟨f2 b hb, by
    obtain ⟨o, e, _⟩ := T.obj _ _ st3 b hb
    exact Heap.lt_size e⟩
  have hsz : h'.objs.size = s3.heap.objs.size + 1 := by rw [hs'.1, Heap.size_push]
  have keep' : ∀ b o, s3.heap.get? b = some o → h'.get? b = some o := fun b o e => hs'.extBut b o (Nat.ne_of_lt (Heap.lt_size e)) (Heap.get?_push_of_some _ e)
  generalize hcenv : genEnv scope (cloFrom X.env.cells scope.names []) s3.heap.objs.size code builtinsNs X.env = cenv
  generalize hge : (PySem.Expr.GeneratorExp elt [⟨tg, iter, [], 0⟩] scope pos) = ge
  generalize hog : ({ cls := .type "generator", data := .fields #[.int s3.gens.size 0, .str "<genexpr>" (s3.toks + 1), .str (X.env.qual ++ "<genexpr>") (s3.toks + 1 + 1)] } : Obj) = og
  generalize hgs : s3.gens.push (.fresh (.compStart ge 0 (.ref it) .none cenv)) = gs
  have hgB : GB s3.gens.size gs := by rw [← hgs]; exact ⟨I3.bare.all.push rfl, by simp⟩
  have hgsz : gs.size = s3.gens.size + 1 := by rw [← hgs]; simp
  have keep5 : ∀ b o, s3.heap.get? b = some o → (h'.push og).get? b = some o := fun b o e => Heap.get?_push_of_some _ (keep' b o e)
  have hgo : (h'.push og).get? h'.objs.size = some og := Heap.get?_push_size _ (by rw [← hog]; rfl)
  generalize ha : h'.objs.size = a at hgo ⊢
  have hal : s3.heap.objs.size < a := by omega
  generalize hA2 : X.A.in1.in1 = A2
  have frA : A2.frames = some X.stack := by rw [← hA2]; exact I3.ok.frames
  generalize hAg : A2.over (.compLoop ge 0 (.ref it) .none cenv) [] = Ag
  have hAd : Ag.handled = none := by rw [← hAg, ← hA2]; exact hr.hd
  have hAf : Ag.frames = some (cenv :: X.stack) := by
    rw [← hAg, ← hge]
    show pushEnvs [cenv] A2.frames = _
    rw [frA]; rfl
  have hrg : Room k Ag := ⟨hAd, by
    rw [← hAg, ← hA2, ← hge]
    have := hr.dp
    show X.A.depth + 1 + 3 * k + 5 < _
    omega, by
    rw [← hAg, ← hA2, ← hge]
    have := hr.un
    show X.A.units + 5 + 16 * k + 200 < _
    omega⟩
  have I5 := gen_start (a := a) (og := og) (tk := s3.toks + 1 + 1 + 1) (h' := h'.push og) I3 ok hN f3 gsc.cell hAd hAf hcenv.symm hgB (hn'.push _) keep5 hgo hal (fun v q => by rw [← hog] at q; cases q)
  have pg := hg Ag { s3 with gens := gs } H2 s3.heap.objs.size (cloFrom X.env.cells scope.names []) code fp hrg
  have pe := he Ag { s3 with gens := gs } H2 s3.heap.objs.size (cloFrom X.env.cells scope.names []) code fp hrg
  rw [hcenv] at pg pe
  have st5 : tn 0 (h'.push og) := T.keep _ _ _ st3 fun b _ o e => keep5 b o e
  have cL : cenv.locals = s3.heap.objs.size := by rw [← hcenv]; rfl
  have stat : ∀ {σ' : St} {H' : Hp} {s' : Shared}, Inv (X.gen Ag { s3 with gens := gs } H2 scope cenv fp) [(a, og)] σ' H' s' → (∀ b ∈ fp, H' b = none) → ∀ b ∈ fp, FpOk (X.gen Ag { s3 with gens := gs } H2 scope cenv fp) [(a, og)] H' b := fun {σ' H' s'} I' hn b hb =>
    ⟨hn b hb, (I'.ok.exf b hb).1, I'.ok.exfs b hb, .inl hb, fun x c e => (I'.ok.exf b hb).2 x c e, fun p hp => by
      have hp : p ∈ [(a, og)] := hp
      obtain rfl : p = (a, og) := by simpa using hp
      exact Nat.ne_of_gt (Nat.lt_trans (f3 b hb).2 hal)⟩
  -- back in the def's context
  have back : ∀ {σ' : St} {H' : Hp} {s' : Shared}, Inv (X.gen Ag { s3 with gens := gs } H2 scope cenv fp) [(a, og)] σ' H' s' → Inv X pins σ H' s' := fun {σ' H' s'} I' =>
    I3.call' (ch := fp) I'.os I'.base I'.hok ⟨I'.bare.all, Nat.le_trans hgB.sz I'.bare.sz⟩ fun b hb => ⟨(f3 b hb).1.2.2.2.1, (f3 b hb).1.2.1, (f3 b hb).1.2.2.2.2.1, (f3 b hb).1.2.2.2.2.2⟩
  generalize hXg : X.gen Ag { s3 with gens := gs } H2 scope cenv fp = Xg at I5 pg pe stat back
  have xp : Xg.prog = X.prog := by rw [← hXg]
  have xw : Xg.w = X.w := by rw [← hXg]
  have xk : Xg.K = X.K := by rw [← hXg]
  have xa : Xg.A = Ag := by rw [← hXg]
  have xc : Xg.calm = true := by rw [← hXg]; exact hc
  have xenv : Xg.env = cenv := by rw [← hXg]
  have xe : Xg.xe = fun _ _ => False := by rw [← hXg]
  have xs0 : Xg.s_0.gens.size = s3.gens.size + 1 := by rw [← hXg]; exact hgsz
  let Rn : GenEnd := fun n s₀ r s₁ => r = .ok .next ∧ (fun _ _ (s₁ : Shared) => ∃ σ' H', Inv Xg [(a, og)] σ' H' s₁ ∧ Q (.bl z) H') n s₀ s₁
  let Y : Protocol := fun _ _ v s kap => ∃ b, v = .bool b ∧ if b = z then (∃ σ' H', Inv Xg [(a, og)] σ' H' s) ∧ ∀ s'', Same3 s s'' → kap (.send .none) s'' else ∃ σ' H', Inv Xg [(a, og)] σ' H' s ∧ Q (.bl (!z)) H'
  have seg : ∀ (n i m : Nat) (s₀ s' : Shared) (H' : Hp), m < n → Inv Xg [(a, og)] (wipe σ (own.map (·.2))) H' s' → tn i s'.heap → (∀ b ∈ fp, H' b = none) → W i m H' →
      Seg (model X.prog X.w) A2 Rn Y n s₀ (.compLoop ge 0 (.ref it) .none cenv) ((model X.prog X.w).den (.compLoop ge 0 (.ref it) .none cenv)) [] s' := by
    intro n
    induction n with
    | zero => intro i m s₀ s' H' hm; exact absurd hm (Nat.not_lt_zero _)
    | succ n ih =>
      intro i m s₀ s5 H5 hm I5 st5 n5 w5
      rw [← hge]
      show Seg _ A2 _ _ _ s₀ _ ((compTurn (.GeneratorExp elt [⟨tg, iter, [], 0⟩] scope pos) 0 (.ref it) .none cenv).onRaise (leaving cenv)) [] s5
      rw [compTurn_gen, Sem.onRaise_eq_wrap, hge]
      refine seg_bind_wrap (wpAny_standAt ?_)
      rcases turn i m H5 w5 with ⟨stop, qq⟩ | ⟨go, Nx, hNx, step⟩
      · have td := T.done Xg xp xw xk xc i s5 _ H5 (fun _ _ => False) I5 (stat I5 n5) st5 stop
        rw [xa] at td
        refine seg_bind_wrap ?_
        rw [hAg]
        refine thnF td fun r s6 ⟨hr, I6⟩ => ?_
        subst hr
        exact seg_end (.ok .next) ⟨rfl, _, H5, I6, qq⟩
      · have ti := T.item Xg xp xw xk xc i s5 _ H5 (fun _ _ => False) I5 (stat I5 n5) st5 go
        rw [xa] at ti
        refine seg_bind_wrap ?_
        rw [hAg]
        refine thnF ti fun r s6 ⟨u, hr, h6⟩ => ?_
        subst hr
        refine seg_bind_wrap ?_
        rw [hAg]
        refine thnF h6 fun _ s7 ⟨x, H7, I7, r7, y7, st7, n7⟩ => ?_
        have I7' := I7.pinned (stat I7 n7) (T.obj _ _ st7)
        have pgx := pg s7 _ H7 x u _ I7' r7 (step x H7 y7)
        rw [xp, xw, xa, xenv, xe] at pgx
        refine seg_bind_wrap ?_
        rw [hAg]
        refine thnF pgx fun _ s8 ⟨σ8, H8, I8, hw8, q8⟩ => ?_
        refine seg_bind_wrap ?_
        rw [hAg]
        refine wpAny_tests_nil ?_
        simp only [if_true]
        have hy : ∀ v, yieldOut cenv v = yieldValue v := fun v => by
          have : cenv.scope.isCoroutine = false := by rw [← hcenv]; exact gsc.co
          simp only [yieldOut, this, Bool.false_eq_true, if_false]
        simp only [hy]
        rw [Sem.bind_eq_wrap', Sem.bind_eq_wrap', Sem.wrap_wrap, Sem.wrap_wrap]
        have pex := pe s8 σ8 H8 _ I8 q8
        rw [xp, xw, xa, xenv, xe] at pex
        refine seg_wrap ?_
        rw [hAg]
        refine thnF pex fun y s9 ⟨yv, H9, I9, r9, b, hb, q9⟩ => ?_
        subst hb
        have r9 : y = Value.bool b := r9
        subst r9
        refine seg_at (seg_yield rfl rfl rfl ⟨b, rfl, ?_⟩)
        by_cases hbz : b = z
        · rw [if_pos hbz] at q9 ⊢
          obtain ⟨m', hm', w'⟩ := hNx H9 q9
          have pin' : ∀ b ∈ fp, ∀ o, s7.heap.get? b = some o → s9.heap.get? b = some o ∧ H9 b = none := fun b hb o e =>
            let z := I9.pin (b, o) (List.mem_append_right _ (List.mem_append_right _ (mem_pinsAt hb e)))
            ⟨z.1, z.2.1⟩
          have hl : (wipe σ (own.map (·.2))).length = σ8.length := by rw [← hw8, wipe_length]
          have I9' : Inv Xg [(a, og)] (wipe σ (own.map (·.2))) H9 s9 := (I9.unpinned (pins := [(a, og)])).weak hl fun j v e => by
            rw [← hw8] at e
            exact (wipe_some e).1
          refine ⟨⟨_, H9, I9'⟩, fun s'' sm => ?_⟩
          refine seg_again (by rw [← hge]; rfl) (ih (i + 1) m' s'' s'' H9 (by omega) (I9'.gens sm.heap sm.os sm.gens) ?_ (fun b hb => ?_) w')
          · rw [sm.heap]
            exact T.keep _ _ _ st7 fun b hb o e => (pin' b hb o e).1
          · obtain ⟨o, e, _⟩ := T.obj _ _ st7 b hb
            exact (pin' b hb o e).2
        · rw [if_neg hbz] at q9 ⊢
          exact ⟨_, H9, I9.unpinned (pins := [(a, og)]), q9⟩
  have start : ∀ s'' : Shared, Same3 { s3 with gens := gs, toks := s3.toks + 1 + 1 + 1, heap := h'.push og } s'' →
      GenState.Goes (model X.prog X.w) A2 Rn Y (m0 + 1) (.fresh (.compStart ge 0 (.ref it) .none cenv)) (.send .none) s'' := by
    intro s'' sm
    refine ⟨rfl, ?_⟩
    have stS : tn 0 s''.heap := by rw [sm.heap]; exact st5
    have loop := seg (m0 + 1) 0 m0 s'' s'' H2 (by omega) (I5.gens sm.heap sm.os sm.gens) stS nfp w0
    rw [← hge] at loop ⊢
    show Seg _ A2 _ _ _ s'' _ ((compStart (.GeneratorExp elt [⟨tg, iter, [], 0⟩] scope pos) 0 (.ref it) .none cenv).onRaise (leaving cenv)) [] s''
    unfold compStart
    rw [Sem.onRaise_eq_wrap]
    show Seg _ A2 _ _ _ s'' _ ((ask >>= _).wrap _ _ _ _) [] s''
    refine seg_bind_wrap (wpAny_askSetting ?_)
    split
    · exact seg_again rfl loop
    · first
        | exact seg_bind_wrap (wpAny_rule (seg_bind_wrap (wpAny_standAt (seg_bind_wrap (T.self _ 0 s'' _ _ stS (seg_again rfl loop))))))
        | (refine seg_bind_wrap (wpAny_rule ?_); show Seg _ A2 _ _ _ s'' _ ((standAt iter.pos >>= _).wrap _ _ _ _) [] s''; exact seg_bind_wrap (wpAny_standAt (seg_bind_wrap (T.self _ 0 s'' _ _ stS (seg_again rfl loop)))))
  have isg : ∀ {σ' : St} {H' : Hp} {s' : Shared}, Inv Xg [(a, og)] σ' H' s' → s'.heap.IsGen a s3.gens.size := fun {σ' H' s'} I' => by
    have z := (I'.pin (a, og) (List.mem_append_right _ (by simp))).1
    exact ⟨og, _, _, z, by rw [← hog], by rw [← hog], by rw [← hog]⟩
  refine ⟨a, s3.gens.size, m0 + 1, fun n s' => ∃ gst σ' H', s'.gens[s3.gens.size]? = some gst ∧ Inv Xg [(a, og)] σ' H' s' ∧ ∀ s'', Same3 s' s'' → gst.Goes (model X.prog X.w) A2 Rn Y n (.send .none) s'', rfl, isg I5,
    ⟨_, _, H2, by rw [← hgs]; exact Array.getElem?_push_size .., I5, start⟩, ?_⟩
  rintro n s5 E ⟨gst, σ5, H5, hgst, I5, goes⟩
  have lt : ∀ {σ' : St} {H' : Hp} {s' : Shared}, Inv Xg [(a, og)] σ' H' s' → s3.gens.size < s'.gens.size := fun {σ' H' s'} I' => by
    have := I'.bare.sz
    rw [xs0] at this
    omega
  rw [← hA2] at goes
  refine wpAny_pyNext_genexpQ (A := X.A.in1) (P := fun _ _ (s₁ : Shared) => ∃ σ' H', Inv Xg [(a, og)] σ' H' s₁ ∧ Q (.bl z) H') hr.hd I5.nolimit (by have := hr.dp; show X.A.depth < _; omega) (isg I5) hgst
    (goes _ ⟨rfl, rfl, AllBare.set I5.bare.all rfl⟩) (fun v s₁ gs' hb hv => ?_) (fun s₁ hp h1 hk => ?_)
  · obtain ⟨b, rfl, hv⟩ := hv
    refine ⟨b, rfl, ?_⟩
    by_cases hbz : b = z
    · rw [if_pos hbz] at hv ⊢
      obtain ⟨⟨σ6, H6, I6⟩, kap⟩ := hv
      cases n with
      | zero => exact (kap s₁ ⟨rfl, rfl, I6.bare.self⟩).elim
      | succ m =>
        refine ⟨m, Nat.lt_succ_self m, gs', σ6, H6, ?_, I6.gens rfl rfl (AllBare.set I6.bare.all hb), fun s'' sm => ?_⟩
        · simp [Shared.setGen, lt I6]
        · have := kap s'' ⟨sm.heap, sm.os, ⟨sm.gens.all, by have := sm.gens.sz; simpa [Shared.setGen] using this⟩⟩
          rw [← hA2]
          exact this
    · rw [if_neg hbz] at hv ⊢
      obtain ⟨σ6, H6, I6, q6⟩ := hv
      exact ⟨.bl (!z), H6, back (I6.gens rfl rfl (AllBare.set I6.bare.all hb)), rfl, q6⟩
  · obtain ⟨σ6, H6, I6, q6⟩ := hp
    have I7 := I6.gens (s' := s₁.setGen s3.gens.size .finished) rfl rfl (AllBare.set I6.bare.all rfl)
    have I8 := I7.kept (h' := h1) (t' := s₁.toks) hk
    exact ⟨.bl z, H6, back I8, rfl, q6⟩
theorem pe_allG {P : Addr} {x : Str} {p pos gpos : Pos} {elt tg iter : Expr} {scope : Scope} {own : List (Str × Nat)} {wi : TI} {g : TG} {te : TE} (hc : X.calm = true) (hN : X.N.Nodup) (hr : Room (k + 1) X.A) (hgl : Gl X x) (hm : X.mg x = none) (hv : bootBuiltins x = some (.builtin "all"))
    (hK : GenK X.base X.mg X.env.code P) (hi : PI X tg iter wi) (ok : BlkOk X.N X.env.scope scope own) (gsc : GenSc scope)
    (hg : ∀ (A : Around) (s : Shared) (H : Hp) (C : Addr) (cl : List (Str × Addr)) (code : Value) (fp : List Addr), Room k A → PG (X.gen A s H scope (genEnv scope cl C code builtinsNs X.env) fp) tg g)
    (he : ∀ (A : Around) (s : Shared) (H : Hp) (C : Addr) (cl : List (Str × Addr)) (code : Value) (fp : List Addr), Room k A → PE (X.gen A s H scope (genEnv scope cl C code builtinsNs X.env) fp) elt te)
    (hs : ∀ x, genFold iter X.env x = pure x := by intro _; rfl) (hn : x ≠ "__name__" := by decide) (hdb : (x == ("__debug__" : Str)) = false := by decide) :
    PE X (.Call (.Name x p) [.GeneratorExp elt [⟨tg, iter, [], 0⟩] scope gpos] [] pos) (tQG true P wi g te (own.map (·.2))) := by
  intro pins s σ H Q I h
  refine wpAny_Call_Name_kw (ld_blt I hgl hm hv ?_ hn hdb)
  refine PyProof.Rows.callWith_builtin1 (Calls.spliced_cons (thn (gen_make hc hN hr I hi ok gsc hK hg he hs h) fun u s1 ⟨a, gi, n, J, e, hgen, h0, turn⟩ => ?_)) rfl rfl
  subst e
  exact Calls.spliced_nil (call_all_by hgen J h0 turn)
end
end L2
set_option Elab.async false
set_option linter.all false
set_option maxRecDepth 100000
set_option maxHeartbeats 4000000
namespace L2
open PySem PySem.Spec PyProof.Rows
/-- the written part without the tables of some defs' code -/
def kWo (K : PySem.W.Frag) (ts : List Addr) : PySem.W.Frag := K.filter fun p => !ts.contains p.1
theorem kWo_lookup {K : PySem.W.Frag} {ts : List Addr} {a : Addr} (h : a ∉ ts) : (kWo K ts).lookup a = K.lookup a := by
  unfold kWo
  induction K with
  | nil => rfl
  | cons p r ih =>
    obtain ⟨b, o⟩ := p
    rw [List.filter_cons]
    by_cases hb : b ∈ ts
    · have : (!ts.contains b) = false := by simpa using hb
      rw [if_neg (by rw [this]; decide), ih]
      have ne : a ≠ b := fun e => h (e ▸ hb)
      have : (a == b) = false := by simpa using ne
      simp [List.lookup, this]
    · have : (!ts.contains b) = true := by simpa using hb
      rw [if_pos this]
      simp only [List.lookup]
      split
      · rfl
      · exact ih
theorem kWo_none {K : PySem.W.Frag} {ts : List Addr} {a : Addr} (h : a ∈ ts) : (kWo K ts).lookup a = none := by
  unfold kWo
  induction K with
  | nil => rfl
  | cons p r ih =>
    obtain ⟨b, o⟩ := p
    rw [List.filter_cons]
    split
    · rename_i hb
      have hb : b ∉ ts := by simpa using hb
      have ne : a ≠ b := fun e => hb (e ▸ h)
      have : (a == b) = false := by simpa using ne
      simp only [List.lookup, this]
      exact ih
    · exact ih
/-- each is the table of a code object, empty -/
def TabsOk (h : Heap) (ts : List Addr) : Prop :=
  ∀ P ∈ ts, isCodeTable h P ∧ h.get? P = some { cls := .none, data := .fields #[] }
section
variable {K : PySem.W.Frag} {h : Heap} {ts : List Addr}
theorem TabsOk.ne (t : TabsOk h ts) {a : Addr} {o : Obj} (e : h.get? a = some o) (hn : o.cls ≠ .none ∨ o.data ≠ .fields #[]) : a ∉ ts := fun hm => by
  obtain ⟨_, e2⟩ := t a hm
  rw [e] at e2
  cases e2
  rcases hn with hn | hn
  · exact hn rfl
  · exact hn rfl
theorem TabsOk.keep (t : TabsOk h ts) (X : K.In h) {a : Addr} {o : Obj} (e : K.lookup a = some o) (hn : o.cls ≠ .none ∨ o.data ≠ .fields #[]) : (kWo K ts).lookup a = some o := by
  rw [kWo_lookup (t.ne (X a o e) hn)]; exact e
theorem TabsOk.ns (t : TabsOk h ts) (X : K.In h) {a : Addr} {x : Str} {r : Option Value} (e : PySem.W.nsIn K a x = some r) : PySem.W.nsIn (kWo K ts) a x = some r := by
  unfold PySem.W.nsIn at e ⊢
  split at e
  · rename_i es _ _ ho
    rw [t.keep X ho (.inr fun z => by cases z)]
    exact e
  · cases e
theorem TabsOk.code (t : TabsOk h ts) (X : K.In h) {cd : Value} {q : Str} (e : PySem.W.codeIn K cd q = true) : PySem.W.codeIn (kWo K ts) cd q = true := by
  unfold PySem.W.codeIn at e ⊢
  split at e
  · rename_i c
    split at e
    · rename_i vs _ ho
      rw [t.keep X ho (.inr fun z => by
        have z : Data.fields vs = Data.fields #[] := z
        cases z
        cases e)]
      exact e
    · cases e
  · cases e
theorem TabsOk.kp (t : TabsOk h ts) (X : K.In h) {f : Addr} {oc : Value} {od : Option Addr} {fd : FuncData} {sl : Array (Option Value)} (l : K.lookup f = some ⟨oc, od, .func fd, sl⟩) : PySem.W.keepIn (kWo K ts) (.ref f) = true := by
  unfold PySem.W.keepIn
  dsimp only
  rw [t.keep X l (.inr fun z => by cases z)]
end
/-- nothing is tracked but the script, known to the object, and the tables -/
def tabH (ts : List Addr) (b : Addr) : Option HO := if b ∈ ts then some (.ext (TabOk b #[])) else none
theorem law_callG {P : Program} {w : World} {K : PySem.W.Frag} {ts : List Addr} {mg mb : Str → Option Value} {CX : CXT} {k : Nat} {fa a : Addr} {fd : FuncData} {x : Str} {sp : Sp} {s₁ : Shared} {vs : List Value} {ns : List Int}
    (KX : K.In s₁.heap) (tk : TabsOk s₁.heap ts) (hns : s₁.heap.Ns mainGlobals mg) (hb : s₁.heap.Ns builtinsNs mb) (hbb : ∀ x : Str, x ≠ "__name__" → mb x = bootBuiltins x) (hlim : s₁.heap.NoLimit) (hg : s₁.gens = #[])
    (ha : s₁.heap.get? a = some { cls := .type "list", data := .seq vs.toArray }) (hi : IntsAre vs ns) (hl : ns.length ≤ sizeLine) (hr : Room k callerA)
    (F : ∀ base : Heap, (kWo K ts).In base → base.Ns mainGlobals mg → (∀ b o, s₁.heap.get? b = some o → b ∉ ts → b ≠ a → base.get? b = some o) → FnOk P w (kWo K ts) mg base CX k fa fd [x] sp) (hbind : ∀ (s : Shared) (u : Value), BindsTo s fd ⟨[u], []⟩ [(x, u)])
    (hsp : ∀ H : Hp, (∀ P ∈ ts, ∃ ps, H P = some (.ext (TabOk P ps))) → SqL (kWo K ts) H a (ns.map V.int) → sp [.ref a] H (fun v H' => v = .bl true ∧ ∀ b o, H b = some o → H' b = some o) fun _ _ _ => False)
    (hCX : ∀ H e s', CX [] H s₁ (fun _ _ _ => False) e s' → False) :
    codeAny (model P w) callerA (.call (.ref fa) ⟨[.ref a], []⟩) (fun r s' => r = .ok (.ret (.bool true)) ∧ OldK s₁.heap s'.heap ∧ s'.os = s₁.os ∧ AllBare s'.gens) s₁ := by
  have rv := vals_ints hi
  have lenV := hi.length
  have tb : ∀ b ∈ ts, ∃ ps, tabH ts b = some (.ext (TabOk b ps)) ∧ s₁.heap.get? b = some { cls := .none, data := .fields ps } ∧ TriplesOk ps.toList ∧ isCodeTable s₁.heap b := fun b hb => by
    obtain ⟨h1, h2⟩ := tk b hb
    refine ⟨#[], ?_, h2, trivial, h1⟩
    unfold tabH
    rw [if_pos hb]
  have tn : ∀ b, b ∉ ts → tabH ts b = none := fun b hb => by unfold tabH; rw [if_neg hb]
  have hats : a ∉ ts := fun hm => by
    obtain ⟨_, _, e, _⟩ := tb a hm
    rw [ha] at e; cases e
  have core : ∀ H : Hp, (∀ b, b ≠ a → H b = tabH ts b) → (H a = none ∨ ∃ o xs, H a = some (.frz o (.lst xs))) → SqL (kWo K ts) H a (ns.map V.int) → HOk P w H s₁.heap → (H a ≠ none → K.lookup a = none) →
      codeAny (model P w) callerA (.call (.ref fa) ⟨[.ref a], []⟩) (fun r s' => r = .ok (.ret (.bool true)) ∧ OldK s₁.heap s'.heap ∧ s'.os = s₁.os ∧ AllBare s'.gens) s₁ := by
    intro H hO hOa hS hok hK
    have base_of : ∀ {b : Addr} {o : Obj}, s₁.heap.get? b = some o → H b = none → (hidT s₁.heap H).get? b = some o := fun e n => hidT_get e n
    have cases_ : ∀ b, H b = none ∨ b = a ∨ b ∈ ts := fun b => by
      by_cases h1 : b = a
      · exact .inr (.inl h1)
      · by_cases h2 : b ∈ ts
        · exact .inr (.inr h2)
        · exact .inl (by rw [hO b h1, tn b h2])
    have noA : ∀ {b : Addr} {o : Obj} {es : Array DictEntry} {ep : Nat}, s₁.heap.get? b = some o → o.data = .dict es ep → H b = none := fun {b o es ep} e d => by
      rcases cases_ b with q | q | q
      · exact q
      · subst q
        rw [ha] at e; cases e
        have d' : Data.seq vs.toArray _ = Data.dict es ep := d
        cases d'
      · obtain ⟨ps, _, e2, _⟩ := tb b q
        rw [e2] at e; cases e
        have d' : Data.fields ps = Data.dict es ep := d
        cases d'
    have nsK : ∀ {b : Addr} {m : Str → Option Value}, s₁.heap.Ns b m → (hidT s₁.heap H).Ns b m := fun {b m} ⟨o, es, ep, e, d, r⟩ => ⟨o, es, ep, base_of e (noA e d), d, r⟩
    have hKb : (kWo K ts).In (hidT s₁.heap H) := fun b o e => by
      by_cases hm : b ∈ ts
      · rw [kWo_none hm] at e; cases e
      · rw [kWo_lookup hm] at e
        refine base_of (KX b o e) ?_
        by_cases h1 : b = a
        · subst h1
          cases q : H b with
          | none => rfl
          | some u => rw [hK (by rw [q]; simp)] at e; cases e
        · rw [hO b h1, tn b hm]
    have hM : Mod (kWo K ts) mg (hidT s₁.heap H) := ⟨hKb, nsK hns, ⟨mb, nsK hb, hbb⟩, let ⟨mc, h1, h2⟩ := hlim; ⟨mc, nsK h1, h2⟩⟩
    have e0 : Env0 P w (kWo K ts) mg (hidT s₁.heap H) callerA [] s₁ H := ⟨rfl, hM, fun b o e => of_hidT e, Nat.le_of_eq (hidT_size _ _), trivial, fun b hb => absurd (show b ∈ ([] : List Addr) from hb) (by simp), hok, .of_eq hg⟩
    have hT : ∀ P ∈ ts, ∃ ps, H P = some (.ext (TabOk P ps)) := fun P hp => by
      obtain ⟨ps, e, _⟩ := tb P hp
      exact ⟨ps, by rw [hO P (fun z => hats (z ▸ hp))]; exact e⟩
    refine codeAny_mono ((F _ hKb (nsK hns) fun b o e h1 h2 => base_of e (by rw [hO b h2, tn b h1])).run callerA [] s₁ H ⟨[.ref a], []⟩ [.ref a] [.ref a] _ _ hr e0 (hbind s₁ (.ref a)) (.cons rfl .nil) (hsp H hT hS)) fun r s' h => ?_
    cases r with
    | error e => exact (hCX H e s' h).elim
    | ok fl =>
      cases fl with
      | next => exact False.elim h
      | brk => exact False.elim h
      | cont => exact False.elim h
      | ret u =>
        obtain ⟨v, H', os, bare, un, hok', r', q⟩ := h
        obtain ⟨q', kp⟩ : v = .bl true ∧ ∀ b o, H b = some o → H' b = some o := q
        subst q'
        obtain rfl : u = Value.bool true := r'
        have keep : ∀ b o, b ∉ ts → s₁.heap.get? b = some o → s'.heap.get? b = some o := fun b o hm e => by
          by_cases h1 : b = a
          · subst h1
            rcases hOa with z | ⟨ob, xs, z⟩
            · exact un.keep b o e z (by intro z; exact absurd (show b ∈ ([] : List Addr) from z) (by simp)) (by simp)
            · have z2 := un.frzs b ob _ z
              obtain ⟨e1, _⟩ := hok b _ z
              obtain ⟨e2, _⟩ := hok' b _ z2
              rw [e] at e1; cases e1
              exact e2
          · exact un.keep b o e (by rw [hO b h1, tn b hm]) (by intro z; exact absurd (show b ∈ ([] : List Addr) from z) (by simp)) (by simp)
        refine ⟨rfl, ⟨fun b o e => ?_, fun b o e => ?_⟩, os, bare.all⟩
        · by_cases hm : b ∈ ts
          · obtain ⟨ps, e1, e2, _, e3⟩ := tb b hm
            rw [e2] at e; cases e
            have hb' : H b = some (.ext (TabOk b ps)) := by rw [hO b (fun z => hats (z ▸ hm))]; exact e1
            obtain ⟨⟨more, e4, _⟩, _⟩ := hok' b _ (kp b _ hb')
            exact .inr (.inl ⟨e3, rfl, ps, more, rfl, e4⟩)
          · exact .inl (keep b o hm e)
        · by_cases hm : b ∈ ts
          · obtain ⟨ps, e1, e2, _, e3⟩ := tb b hm
            have hb' : H b = some (.ext (TabOk b ps)) := by rw [hO b (fun z => hats (z ▸ hm))]; exact e1
            obtain ⟨⟨more, e4, _⟩, _⟩ := hok' b _ (kp b _ hb')
            exact ⟨_, e4⟩
          · exact ⟨o, keep b o hm e⟩
  have tOk : ∀ (H : Hp) b u, (∀ b, b ≠ a → H b = tabH ts b) → b ≠ a → H b = some u → ObjOk P w H s₁.heap b u := fun H b u hO hb z => by
    by_cases hm : b ∈ ts
    · obtain ⟨ps, e1, e2, e3, _⟩ := tb b hm
      rw [hO b hb, e1] at z; cases z
      exact ⟨⟨#[], by simpa using e2, by simpa using e3⟩, ⟨_, e2⟩, TabOk.stay⟩
    · rw [hO b hb, tn b hm] at z; cases z
  cases hk : K.lookup a with
  | some o =>
    have e := KX a o hk
    rw [ha] at e
    cases e
    have hO : ∀ b, b ≠ a → (fun b => tabH ts b) b = tabH ts b := fun _ _ => rfl
    refine core (fun b => tabH ts b) hO (.inl (tn a hats)) (.inr ⟨_, vs.toArray, _, by rw [kWo_lookup hats]; exact hk, rfl, rfl, rfl, by rw [List.size_toArray, lenV]; exact hl, by simpa using rv⟩) (fun b u z => ?_) fun z => absurd (tn a hats) z
    refine tOk _ b u hO (fun e => ?_) z
    subst e
    have z : tabH ts b = some u := z
    rw [tn b hats] at z; cases z
  | none =>
    have hO : ∀ b, b ≠ a → (fun b => if b = a then some (.frz { cls := .type "list", data := .seq vs.toArray } (.lst (ns.map V.int))) else tabH ts b) b = tabH ts b := fun b hb => if_neg hb
    refine core _ hO (.inr ⟨_, _, if_pos rfl⟩) (.inl (.inr ⟨{ cls := .type "list", data := .seq vs.toArray }, if_pos rfl⟩)) (fun b u z => ?_) fun _ => hk
    by_cases hb : b = a
    · have z' := (if_pos hb).symm.trans z
      cases z'
      subst hb
      exact ⟨ha, by rw [List.length_map]; exact hl, vs, _, rv, ha⟩
    · exact tOk _ b u hO hb z
end L2
set_option Elab.async false
set_option linter.all false
set_option maxRecDepth 100000
set_option maxHeartbeats 4000000
namespace PySem
namespace ZT
open Sem (wp)
section
variable {prog : Program} {w : World} {A : Around} {EE : Value → Shared → Prop} {s : Shared}
theorem nxT_item {it l : Addr} {i : Nat} {items} {x : Value} {QQ : Value → Shared → Prop} (hit : s.heap.IsTupleIter it l i)
    (hl : s.heap.IsTuple l items) (hx : items[i]? = some x)
    (hQQ : ∀ h', h'.IsTupleIter it l (i + 1) → Heap.SameBut it s.heap h' → QQ x { s with heap := h' }) :
    wpAny (model prog w) A (Builtin.SmallTypes.nextOf (.ref it)) QQ EE s := by
  obtain ⟨o, hoo, hc, hdd⟩ := id hit
  obtain ⟨ol, hol, _, nl, hdl⟩ := hl
  unfold Builtin.SmallTypes.nextOf
  refine wpAny_bind (wpAny_callSpecial?_slot (name := Str.ofString "__next__") hit.typeIs F.slot_tuple_iterator_next
    (wpAny_call_entry F.slot_tuple_iterator_next hit.typeIs F.entry_tuple_iterator_next ?_ (F.args_tuple_iterator_next_1 _)))
  show wpAny _ _ (field (.ref it) 0 >>= _) _ _ s
  refine wpAny_bind (wpAny_field hoo hdd (x := .ref l) rfl ?_)
  show wpAny _ _ (if (Value.ref l == Value.none) = true then _ else _) _ _ s
  rw [if_neg (show ¬ ((Value.ref l == Value.none) = true) from Bool.false_ne_true)]
  show wpAny _ _ (field (.ref it) 1 >>= _) _ _ s
  refine wpAny_bind (wpAny_field hoo hdd (x := .int i 0) rfl ?_)
  show wpAny _ _ (seqItems? (.ref l) >>= _) _ _ s
  refine wpAny_bind (wpAny_seqItems hol hdl ?_)
  simp only [Int.toNat_natCast, hx]
  refine wpAny_bind (wpAny_setField hoo hdd (by simp) (wpAny_pure ⟨x, rfl, wpAny_pure (hQQ _ ?_ (Heap.SameBut.update ..))⟩))
  exact ⟨_, Heap.get?_update_self _ hoo (Obj.isFreed_of_fields (Obj.data_mapFields hdd _)), (Obj.cls_mapFields ..).trans hc, by
    rw [Obj.data_mapFields hdd]; simp [rawInt]⟩
theorem nxT_end {it l : Addr} {i : Nat} {items} {QQ : Value → Shared → Prop} (hh : A.handled = none)
    (hit : s.heap.IsTupleIter it l i) (hl : s.heap.IsTuple l items) (hx : items[i]? = none)
    (hEE : ∀ h' e, Heap.ExtBut it s.heap h' → (∃ o, h'.get? e = some o ∧ o.cls = .type "StopIteration") → EE (.ref e) { s with heap := h' }) :
    wpAny (model prog w) A (Builtin.SmallTypes.nextOf (.ref it)) QQ EE s := by
  obtain ⟨o, hoo, hc, hdd⟩ := id hit
  obtain ⟨ol, hol, _, nl, hdl⟩ := hl
  unfold Builtin.SmallTypes.nextOf
  refine wpAny_bind (wpAny_callSpecial?_slot (name := Str.ofString "__next__") hit.typeIs F.slot_tuple_iterator_next
    (wpAny_call_entry F.slot_tuple_iterator_next hit.typeIs F.entry_tuple_iterator_next ?_ (F.args_tuple_iterator_next_1 _)))
  show wpAny _ _ (field (.ref it) 0 >>= _) _ _ s
  refine wpAny_bind (wpAny_field hoo hdd (x := .ref l) rfl ?_)
  show wpAny _ _ (if (Value.ref l == Value.none) = true then _ else _) _ _ s
  rw [if_neg (show ¬ ((Value.ref l == Value.none) = true) from Bool.false_ne_true)]
  show wpAny _ _ (field (.ref it) 1 >>= _) _ _ s
  refine wpAny_bind (wpAny_field hoo hdd (x := .int i 0) rfl ?_)
  show wpAny _ _ (seqItems? (.ref l) >>= _) _ _ s
  refine wpAny_bind (wpAny_seqItems hol hdl ?_)
  simp only [Int.toNat_natCast, hx]
  refine wpAny_bind (wpAny_rule (wpAny_bind (wpAny_setField hoo hdd (by simp) ?_)))
  show wpAny _ _ (newExc (.type "StopIteration") [] >>= _) _ _ _
  refine wpAny_bind ?_
  simp only [newExc, newTuple]
  refine wpAny_bind (wpAny_newObj_type ?_ (by size_fits))
  refine wpAny_bind (m := firstArgMember _ _) (wpAny_of_eq (a := Value.none) (by first | rfl | (simp only [firstArgMember]; rfl)) ?_)
  refine wpAny_newObj_type ?_ (by size_fits)
  simp only [raiseNew]
  refine wpAny_bind (wpAny_handled ?_)
  first | rw [show A.in1.handled = none from hh] | rw [hh]
  refine wpAny_bind (wpAny_pure (wpAny_throw ?_))
  exact hEE _ _ (((Heap.SameBut.update ..).extBut.push _).push _) ⟨_, Heap.get?_push_size _ rfl, rfl⟩
theorem zpT_item {z TI TO i1 i2 l1 l2 : Addr} {k1 k2 : Nat} {xs ys : Array Value} {x y a b : Value} {QQ : Value → Shared → Prop} (D : ZipApart z TI TO i1 i2 l1 l2)
    (hz : IsZip s.heap z TI TO .none) (hti : IsPair s.heap TI (.ref i1) (.ref i2)) (hto : IsPair s.heap TO a b)
    (h1 : s.heap.IsTupleIter i1 l1 k1) (h2 : s.heap.IsTupleIter i2 l2 k2) (hl1 : s.heap.IsTuple l1 xs) (hl2 : s.heap.IsTuple l2 ys) (hx : xs[k1]? = some x) (hy : ys[k2]? = some y)
    (hQQ : ∀ h', IsZip h' z TI TO (rawInt s.heap.objs.size) → IsPair h' TO x y → h'.IsTupleIter i1 l1 (k1 + 1) → h'.IsTupleIter i2 l2 (k2 + 1) → IsPair h' s.heap.objs.size x y → h'.objs.size = s.heap.objs.size + 1 →
      (∀ c o, c ≠ z → c ≠ TO → c ≠ i1 → c ≠ i2 → s.heap.get? c = some o → h'.get? c = some o) → QQ (.ref s.heap.objs.size) { s with heap := h' }) :
    wpAny (model prog w) A (Builtin.«zip.__next__» ⟨[.ref z], []⟩) (fun fin s' => ∃ v, fin = .done (.ret v) ∧ QQ v s') EE s := by
  show wpAny _ _ (field (.ref z) 2 >>= _) _ _ _
  refine wpAny_bind (wpAny_field hz rfl (x := .bool false) rfl ?_)
  show wpAny _ _ (field (.ref z) 3 >>= _) _ _ _
  refine wpAny_bind (wpAny_field hz rfl (x := .ref TI) rfl ?_)
  refine wpAny_bind (wpAny_seqItems hti rfl ?_)
  show wpAny _ _ (Builtin.SmallTypes.ownedTupleIsFree (.ref z) >>= _) _ _ _
  refine wpAny_bind ?_
  unfold Builtin.SmallTypes.ownedTupleIsFree
  refine wpAny_bind (wpAny_field hz rfl (x := .none) rfl (wpAny_pure ?_))
  simp only [if_true]
  refine wpAny_bind (wpAny_rule ?_)
  refine wpAny_bind (wpAny_field hz rfl (x := .ref TO) rfl ?_)
  refine wpAny_bind (wpAny_setField_rec hz (by simp) fun ga hza hsa => ?_)
  replace hza : IsZip ga z TI TO .ellipsis := hza
  refine wpAny_bind ?_
  simp only [List.zipIdx_cons, List.zipIdx_nil, List.forIn_cons, List.forIn_nil]
  refine wpAny_bind (wpAny_bind (wpAny_onRaise ?_))
  show wpAny _ _ (Builtin.SmallTypes.nextOf (.ref i1) >>= _) _ _ _
  refine wpAny_bind (nxT_item (h1.extBut hsa.extBut D.i1z) (hl1.extBut hsa.extBut D.l1z) hx fun gb h1b hsb => wpAny_pure ?_)
  have htob : IsPair gb TO a b := hsb.extBut _ _ D.TOi1 (hsa.extBut _ _ D.TOz hto)
  refine wpAny_bind (wpAny_seqItems htob rfl ?_)
  refine wpAny_bind (wpAny_updateSeq_pair htob fun gc htoc hsc => ?_)
  replace htoc : IsPair gc TO x b := htoc
  refine wpAny_bind (wpAny_letGo (wpAny_pure ?_))
  refine wpAny_bind (wpAny_bind (wpAny_onRaise ?_))
  show wpAny _ _ (Builtin.SmallTypes.nextOf (.ref i2) >>= _) _ _ _
  refine wpAny_bind (nxT_item (((h2.extBut hsa.extBut D.i2z).extBut hsb.extBut D.i12.symm).extBut hsc.extBut D.TOi2.symm)
    (((hl2.extBut hsa.extBut D.l2z).extBut hsb.extBut D.l2i1).extBut hsc.extBut D.l2TO) hy fun gd h2d hsd => wpAny_pure ?_)
  have htod : IsPair gd TO x b := hsd.extBut _ _ D.TOi2 htoc
  refine wpAny_bind (wpAny_seqItems htod rfl ?_)
  refine wpAny_bind (wpAny_updateSeq_pair htod fun ge htoe hse => ?_)
  replace htoe : IsPair ge TO x y := htoe
  refine wpAny_bind (wpAny_letGo (wpAny_pure (wpAny_pure ?_)))
  refine wpAny_bind (wpAny_seqItems htoe rfl ?_)
  refine wpAny_bind (wpAny_newTuple ?_)
  have hsz : ge.objs.size = s.heap.objs.size := by rw [hse.1, hsd.1, hsc.1, hsb.1, hsa.1]
  have hze : IsZip ge z TI TO .ellipsis := hse.extBut _ _ D.TOz.symm (hsd.extBut _ _ D.i2z.symm (hsc.extBut _ _ D.TOz.symm (hsb.extBut _ _ D.i1z.symm hza)))
  have hkke : ∀ c o, c ≠ z → c ≠ TO → c ≠ i1 → c ≠ i2 → s.heap.get? c = some o → ge.get? c = some o := fun c o c1 c2 c3 c4 e =>
    hse.extBut _ _ c2 (hsd.extBut _ _ c4 (hsc.extBut _ _ c2 (hsb.extBut _ _ c3 (hsa.extBut _ _ c1 e))))
  have h1e : ge.IsTupleIter i1 l1 (k1 + 1) := ((h1b.extBut hsc.extBut D.TOi1.symm).extBut hsd.extBut D.i12).extBut hse.extBut D.TOi1.symm
  have h2e : ge.IsTupleIter i2 l2 (k2 + 1) := h2d.extBut hse.extBut D.TOi2.symm
  have hzlt : z < ge.objs.size := Heap.lt_size hze
  have htolt : TO < ge.objs.size := Heap.lt_size htoe
  have hi1lt : i1 < ge.objs.size := by obtain ⟨_, e, _⟩ := h1e; exact Heap.lt_size e
  have hi2lt : i2 < ge.objs.size := by obtain ⟨_, e, _⟩ := h2e; exact Heap.lt_size e
  show wpAny _ _ (Builtin.SmallTypes.ownedTupleHandOut (.ref z) (.ref ge.objs.size) >>= _) _ _ _
  refine wpAny_bind ?_
  unfold Builtin.SmallTypes.ownedTupleHandOut
  have hzf : IsZip (ge.push { cls := .type "tuple", data := .seq #[x, y] }) z TI TO .ellipsis := Heap.get?_push_of_some _ hze
  refine wpAny_bind (wpAny_setField_rec hzf (by simp) fun gg hzg hsg => ?_)
  replace hzg : IsZip gg z TI TO (rawInt ge.objs.size) := hzg
  refine wpAny_setField_rec hzg (by simp) fun gh hzh hsh => ?_
  replace hzh : IsZip gh z TI TO (rawInt ge.objs.size) := hzh
  have up : ∀ c o, c ≠ z → ge.get? c = some o → gh.get? c = some o := fun c o c1 e => hsh.extBut _ _ c1 (hsg.extBut _ _ c1 (Heap.get?_push_of_some _ e))
  have hTh : IsPair gh ge.objs.size x y := hsh.extBut _ _ (Nat.ne_of_gt hzlt) (hsg.extBut _ _ (Nat.ne_of_gt hzlt) (Heap.get?_push_size _ rfl))
  have hz8 : gh.objs.size = ge.objs.size + 1 := by rw [hsh.1, hsg.1, Heap.size_push]
  rw [hsz] at hzh hTh hz8
  refine wpAny_pure ⟨_, rfl, ?_⟩
  show QQ (.ref ge.objs.size) _
  rw [hsz]
  exact hQQ gh hzh (up _ _ D.TOz htoe) (h1e.at fun o e => up _ o D.i1z e) (h2e.at fun o e => up _ o D.i2z e) hTh hz8 fun c o c1 c2 c3 c4 e => up c o c1 (hkke c o c1 c2 c3 c4 e)
theorem zpT_end {z TI TO i1 i2 l1 l2 : Addr} {k1 k2 : Nat} {xs ys : Array Value} {a b : Value} {QQ : Fin → Shared → Prop} (hh : A.handled = none) (D : ZipApart z TI TO i1 i2 l1 l2)
    (hz : IsZip s.heap z TI TO .none) (hti : IsPair s.heap TI (.ref i1) (.ref i2)) (hto : IsPair s.heap TO a b)
    (h1 : s.heap.IsTupleIter i1 l1 k1) (h2 : s.heap.IsTupleIter i2 l2 k2) (hl1 : s.heap.IsTuple l1 xs) (hl2 : s.heap.IsTuple l2 ys) (hend : xs[k1]? = none ∨ ys[k2]? = none)
    (hEE : ∀ h' e, (∀ c o, c ≠ z → c ≠ TO → c ≠ i1 → c ≠ i2 → s.heap.get? c = some o → h'.get? c = some o) → (∃ o, h'.get? e = some o ∧ o.cls = .type "StopIteration") → EE (.ref e) { s with heap := h' }) :
    wpAny (model prog w) A (Builtin.«zip.__next__» ⟨[.ref z], []⟩) QQ EE s := by
  show wpAny _ _ (field (.ref z) 2 >>= _) _ _ _
  refine wpAny_bind (wpAny_field hz rfl (x := .bool false) rfl ?_)
  show wpAny _ _ (field (.ref z) 3 >>= _) _ _ _
  refine wpAny_bind (wpAny_field hz rfl (x := .ref TI) rfl ?_)
  refine wpAny_bind (wpAny_seqItems hti rfl ?_)
  show wpAny _ _ (Builtin.SmallTypes.ownedTupleIsFree (.ref z) >>= _) _ _ _
  refine wpAny_bind ?_
  unfold Builtin.SmallTypes.ownedTupleIsFree
  refine wpAny_bind (wpAny_field hz rfl (x := .none) rfl (wpAny_pure ?_))
  simp only [if_true]
  refine wpAny_bind (wpAny_rule ?_)
  refine wpAny_bind (wpAny_field hz rfl (x := .ref TO) rfl ?_)
  refine wpAny_bind (wpAny_setField_rec hz (by simp) fun ga hza hsa => ?_)
  replace hza : IsZip ga z TI TO .ellipsis := hza
  refine wpAny_bind ?_
  simp only [List.zipIdx_cons, List.zipIdx_nil, List.forIn_cons, List.forIn_nil]
  refine wpAny_bind (wpAny_bind (wpAny_onRaise ?_))
  show wpAny _ _ (Builtin.SmallTypes.nextOf (.ref i1) >>= _) _ _ _
  cases hx : xs[k1]? with
  | none =>
    refine wpAny_bind (nxT_end hh (h1.extBut hsa.extBut D.i1z) (hl1.extBut hsa.extBut D.l1z) hx fun gb e hsb he => ?_)
    obtain ⟨oe, hoe, hce⟩ := he
    have hzb : IsZip gb z TI TO .ellipsis := hsb _ _ D.i1z.symm hza
    have hez : e ≠ z := fun x => by subst x; rw [hzb] at hoe; cases hoe; simp at hce
    refine wpAny_setField_rec hzb (by simp) fun gc _ hsc => hEE gc e (fun c o c1 _ c3 _ x => hsc.extBut _ _ c1 (hsb _ _ c3 (hsa.extBut _ _ c1 x))) ⟨oe, hsc.extBut _ _ hez hoe, hce⟩
  | some x =>
    have hy : ys[k2]? = none := by rcases hend with h | h; rw [hx] at h; cases h; exact h
    refine wpAny_bind (nxT_item (h1.extBut hsa.extBut D.i1z) (hl1.extBut hsa.extBut D.l1z) hx fun gb h1b hsb => wpAny_pure ?_)
    have htob : IsPair gb TO a b := hsb.extBut _ _ D.TOi1 (hsa.extBut _ _ D.TOz hto)
    refine wpAny_bind (wpAny_seqItems htob rfl ?_)
    refine wpAny_bind (wpAny_updateSeq_pair htob fun gc htoc hsc => ?_)
    refine wpAny_bind (wpAny_letGo (wpAny_pure ?_))
    refine wpAny_bind (wpAny_bind (wpAny_onRaise ?_))
    show wpAny _ _ (Builtin.SmallTypes.nextOf (.ref i2) >>= _) _ _ _
    refine wpAny_bind (nxT_end hh (((h2.extBut hsa.extBut D.i2z).extBut hsb.extBut D.i12.symm).extBut hsc.extBut D.TOi2.symm)
      (((hl2.extBut hsa.extBut D.l2z).extBut hsb.extBut D.l2i1).extBut hsc.extBut D.l2TO) hy fun gd e hsd he => ?_)
    obtain ⟨oe, hoe, hce⟩ := he
    have hzd : IsZip gd z TI TO .ellipsis := hsd _ _ D.i2z.symm (hsc.extBut _ _ D.TOz.symm (hsb.extBut _ _ D.i1z.symm hza))
    have hez : e ≠ z := fun x => by subst x; rw [hzd] at hoe; cases hoe; simp at hce
    refine wpAny_setField_rec hzd (by simp) fun ge _ hse => hEE ge e (fun c o c1 c2 c3 c4 x => hse.extBut _ _ c1 (hsd _ _ c4 (hsc.extBut _ _ c2 (hsb.extBut _ _ c3 (hsa.extBut _ _ c1 x))))) ⟨oe, hse.extBut _ _ hez hoe, hce⟩
theorem pyT_item {z TI TO i1 i2 l1 l2 : Addr} {k1 k2 : Nat} {xs ys : Array Value} {x y a b : Value} {QQ : Option Value → Shared → Prop} (D : ZipApart z TI TO i1 i2 l1 l2)
    (hz : IsZip s.heap z TI TO .none) (hti : IsPair s.heap TI (.ref i1) (.ref i2)) (hto : IsPair s.heap TO a b)
    (h1 : s.heap.IsTupleIter i1 l1 k1) (h2 : s.heap.IsTupleIter i2 l2 k2) (hl1 : s.heap.IsTuple l1 xs) (hl2 : s.heap.IsTuple l2 ys) (hx : xs[k1]? = some x) (hy : ys[k2]? = some y)
    (hQQ : ∀ h', IsZip h' z TI TO (rawInt s.heap.objs.size) → IsPair h' TO x y → h'.IsTupleIter i1 l1 (k1 + 1) → h'.IsTupleIter i2 l2 (k2 + 1) → IsPair h' s.heap.objs.size x y → h'.objs.size = s.heap.objs.size + 1 →
      (∀ c o, c ≠ z → c ≠ TO → c ≠ i1 → c ≠ i2 → s.heap.get? c = some o → h'.get? c = some o) → QQ (some (.ref s.heap.objs.size)) { s with heap := h' }) :
    wpAny (model prog w) A (pyNext (.ref z)) QQ EE s := by
  have hT : s.TypeIs (.ref z) "zip" := ⟨_, hz, rfl⟩
  unfold pyNext
  exact wpAny_bind (wpAny_attempt (wpAny_callSpecial?_slot (name := Str.ofString "__next__") hT F.slot_zip_next
    (wpAny_call_entry F.slot_zip_next hT F.entry_zip_next
      (zpT_item D hz hti hto h1 h2 hl1 hl2 hx hy fun h' a1 a2 a3 a4 a5 a6 a7 => wpAny_pure (hQQ h' a1 a2 a3 a4 a5 a6 a7)) (F.args_zip_next_1 _))))
theorem pyT_end {z TI TO i1 i2 l1 l2 : Addr} {k1 k2 : Nat} {xs ys : Array Value} {a b : Value} {QQ : Option Value → Shared → Prop} (hh : A.handled = none) (D : ZipApart z TI TO i1 i2 l1 l2)
    (hz : IsZip s.heap z TI TO .none) (hti : IsPair s.heap TI (.ref i1) (.ref i2)) (hto : IsPair s.heap TO a b)
    (h1 : s.heap.IsTupleIter i1 l1 k1) (h2 : s.heap.IsTupleIter i2 l2 k2) (hl1 : s.heap.IsTuple l1 xs) (hl2 : s.heap.IsTuple l2 ys) (hend : xs[k1]? = none ∨ ys[k2]? = none)
    (hQQ : ∀ h', (∀ c o, c ≠ z → c ≠ TO → c ≠ i1 → c ≠ i2 → s.heap.get? c = some o → h'.get? c = some o) → QQ none { s with heap := h' }) : wpAny (model prog w) A (pyNext (.ref z)) QQ EE s := by
  have hT : s.TypeIs (.ref z) "zip" := ⟨_, hz, rfl⟩
  unfold pyNext
  refine wpAny_bind (wpAny_attempt (wpAny_callSpecial?_slot (name := Str.ofString "__next__") hT F.slot_zip_next
    (wpAny_call_entry F.slot_zip_next hT F.entry_zip_next (zpT_end hh D hz hti hto h1 h2 hl1 hl2 hend fun h' e hkk he => ?_) (F.args_zip_next_1 _))))
  obtain ⟨o, hoo, hc⟩ := he
  refine wpAny_bind (wpAny_isInstance (T := "StopIteration") (b := true) ⟨o, hoo, hc⟩ isSubtype_stop ?_)
  exact wpAny_pure (hQQ _ hkk)
end
abbrev zpH1 (h : Heap) (l1 : Addr) : Heap := h.push { cls := .type "tuple_iterator", data := .fields #[.ref l1, .int 0 0] }
abbrev zpH2 (h : Heap) (l1 l2 : Addr) : Heap := (zpH1 h l1).push { cls := .type "tuple_iterator", data := .fields #[.ref l2, .int 0 0] }
abbrev zpH3 (h : Heap) (l1 l2 : Addr) : Heap := (zpH2 h l1 l2).push { cls := .type "tuple", data := .seq #[.ref h.objs.size, .ref (zpH1 h l1).objs.size] }
abbrev zpH4 (h : Heap) (l1 l2 : Addr) : Heap := (zpH3 h l1 l2).push { cls := .type "tuple", data := .seq #[.none, .none] }
abbrev zpH5 (h : Heap) (l1 l2 : Addr) : Heap := (zpH4 h l1 l2).push { cls := .type "zip", data := .fields #[.none, .bool false, .bool false, .ref (zpH2 h l1 l2).objs.size, .ref (zpH3 h l1 l2).objs.size] }
theorem mtT_new (l1 l2 : Addr) (xs ys : Array Value) :
    Meets (Builtin.«zip.__new__» ⟨[.type "zip", .ref l1, .ref l2], []⟩) (fun _ R s => s.heap.IsTuple l1 xs ∧ s.heap.IsTuple l2 ys ∧
      R (.ok (.ret (.ref (zpH4 s.heap l1 l2).objs.size))) { s with heap := zpH5 s.heap l1 l2 }) :=
  .of_wp fun prog w A R s h => by
    obtain ⟨hp, g, d, tk, os⟩ := s; obtain ⟨hl1, hl2, h⟩ := h
    have hsub := sub_zip
    have hL1 : Heap.IsTuple (Shared.heap ⟨hp, g, d, tk, os⟩) l1 xs := hl1
    have hL2 : Heap.IsTuple (Shared.heap ⟨hp.push { cls := .type "tuple_iterator", data := .fields #[.ref l1, .int 0 0] }, g, d, tk, os⟩) l2 ys := Heap.IsTuple.push hl2 _
    wp_walk using wpAny_pyIter_tuple hL1, wpAny_pyIter_tuple hL2
    exact ⟨_, rfl, h⟩
section
variable {prog : Program} {w : World} {A : Around} {EE : Value → Shared → Prop} {s : Shared}
theorem clT_zip {l1 l2 : Addr} {xs ys : Array Value} {QQ : Value → Shared → Prop} (hl1 : s.heap.IsTuple l1 xs) (hl2 : s.heap.IsTuple l2 ys)
    (h : ∀ h', IsZip h' (s.heap.objs.size + 4) (s.heap.objs.size + 2) (s.heap.objs.size + 3) .none → IsPair h' (s.heap.objs.size + 2) (.ref s.heap.objs.size) (.ref (s.heap.objs.size + 1)) →
      IsPair h' (s.heap.objs.size + 3) .none .none → h'.IsTupleIter s.heap.objs.size l1 0 → h'.IsTupleIter (s.heap.objs.size + 1) l2 0 → h'.objs.size = s.heap.objs.size + 5 →
      (∀ c o, s.heap.get? c = some o → h'.get? c = some o) → QQ (.ref (s.heap.objs.size + 4)) { s with heap := h' }) :
    wpAny (model prog w) A (call (.type "zip") [.ref l1, .ref l2]) QQ EE s := by
  refine callType_new F.called_zip (by decide) (F.typeCall_zip_2 _ _) (F.newCall_zip_2 _ _) (fun obj => F.args_object_init_3 obj _ _) F.entry_zip_new
    (mtT_new l1 l2 xs ys) ⟨hl1, hl2, ?_⟩
  have z1 : (zpH1 s.heap l1).objs.size = s.heap.objs.size + 1 := Heap.size_push ..
  have z2 : (zpH2 s.heap l1 l2).objs.size = s.heap.objs.size + 2 := by rw [Heap.size_push, z1]
  have z3 : (zpH3 s.heap l1 l2).objs.size = s.heap.objs.size + 3 := by rw [Heap.size_push, z2]
  have z4 : (zpH4 s.heap l1 l2).objs.size = s.heap.objs.size + 4 := by rw [Heap.size_push, z3]
  have z5 : (zpH5 s.heap l1 l2).objs.size = s.heap.objs.size + 5 := by rw [Heap.size_push, z4]
  have g5 : (zpH5 s.heap l1 l2).get? (zpH4 s.heap l1 l2).objs.size = some _ := Heap.get?_push_size _ rfl
  have g4 : (zpH5 s.heap l1 l2).get? (zpH3 s.heap l1 l2).objs.size = some _ := Heap.get?_push_of_some _ (Heap.get?_push_size _ rfl)
  have g3 : (zpH5 s.heap l1 l2).get? (zpH2 s.heap l1 l2).objs.size = some _ := Heap.get?_push_of_some _ (Heap.get?_push_of_some _ (Heap.get?_push_size _ rfl))
  have g2 : (zpH5 s.heap l1 l2).get? (zpH1 s.heap l1).objs.size = some _ := Heap.get?_push_of_some _ (Heap.get?_push_of_some _ (Heap.get?_push_of_some _ (Heap.get?_push_size _ rfl)))
  have g1 : (zpH5 s.heap l1 l2).get? s.heap.objs.size = some _ := Heap.get?_push_of_some _ (Heap.get?_push_of_some _ (Heap.get?_push_of_some _ (Heap.get?_push_of_some _ (Heap.get?_push_size _ rfl))))
  show _ ∧ _
  rw [z2, z3, z4] at g5
  rw [z1, z2] at g3
  rw [z3] at g4
  rw [z1] at g2
  rw [z4]
  exact ⟨⟨_, g5, rfl⟩, h _ g5 g3 g4 ⟨_, g1, rfl, rfl⟩ ⟨_, g2, rfl, rfl⟩ z5 fun c o x =>
    Heap.get?_push_of_some _ (Heap.get?_push_of_some _ (Heap.get?_push_of_some _ (Heap.get?_push_of_some _ (Heap.get?_push_of_some _ x))))⟩
end
end ZT
end PySem
set_option Elab.async false
set_option linter.all false
set_option maxRecDepth 100000
set_option maxHeartbeats 4000000
namespace L2
open PySem PySem.Spec PyProof.Rows
theorem tup_lt {h : Heap} {a : Addr} {its : Array Value} (p : IsTup h a its) : a < h.objs.size := by
  obtain ⟨o, ho, _⟩ := p
  exact Heap.lt_size ho
/-- the lists at a and b as they stand at each turn, the items in new pairs -/
def ItzT (K : PySem.W.Frag) (a b : Addr) : It :=
  ⟨fun i H => ∃ (xs ys : List V) (x y : V), SqT K H a xs ∧ SqT K H b ys ∧ xs[i]? = some x ∧ ys[i]? = some y,
    fun i H v H' => ∃ T x y, v = .ref T ∧ H T = none ∧ H' = upd H T (.tup [x, y]) ∧ (∀ xs, SqT K H a xs → xs[i]? = some x) ∧ ∀ ys, SqT K H b ys → ys[i]? = some y,
    fun i H => ∃ xs ys : List V, SqT K H a xs ∧ SqT K H b ys ∧ (xs.length ≤ i ∨ ys.length ≤ i)⟩
theorem turn_zipT {P : Program} {w : World} {K : PySem.W.Frag} {elts : List Expr} {kk : Nat} {tpos : Pos} {a b z TI TO i1 i2 : Addr} (D : ZipApart z TI TO i1 i2 a b) :
    Turn P w K (.Tuple elts kk tpos) (ItzT K a b) [z, TI, TO, i1, i2] z (fun i h => IsZip h z TI TO .none ∧ IsPair h TI (.ref i1) (.ref i2) ∧ (∃ x y, IsPair h TO x y) ∧ h.IsTupleIter i1 a i ∧ h.IsTupleIter i2 b i) where
  mem := by simp
  obj := fun i h st c hc => by
    obtain ⟨hz, hTI, ⟨x, y, hTO⟩, ⟨o1, e1, _, d1⟩, ⟨o2, e2, _, d2⟩⟩ := st
    have e' : c = z ∨ c = TI ∨ c = TO ∨ c = i1 ∨ c = i2 := by simpa using hc
    rcases e' with q | q | q | q | q
    · rw [q]; exact ⟨_, hz, fun v q => nomatch q⟩
    · rw [q]; exact ⟨_, hTI, fun v q => nomatch q⟩
    · rw [q]; exact ⟨_, hTO, fun v q => nomatch q⟩
    · rw [q]; exact ⟨o1, e1, fun v q => by rw [d1] at q; cases q⟩
    · rw [q]; exact ⟨o2, e2, fun v q => by rw [d2] at q; cases q⟩
  keep := fun i h h' st k => by
    obtain ⟨hz, hTI, ⟨x, y, hTO⟩, h1, h2⟩ := st
    exact ⟨k z (by simp) _ hz, k TI (by simp) _ hTI, ⟨x, y, k TO (by simp) _ hTO⟩, h1.at fun o q => k i1 (by simp) o q, h2.at fun o q => k i2 (by simp) o q⟩
  item := by
    intro X hP hw hK hc i pins s σ H E I hf st hg
    subst hP hw hK
    obtain ⟨hz, hTI, ⟨x0, y0, hTO⟩, h1, h2⟩ := st
    obtain ⟨xs, ys, x, y, hqx, hqy, hx, hy⟩ := hg
    obtain ⟨its, rv, p, _⟩ := I.tuple hqx
    obtain ⟨its2, rv2, p2, _⟩ := I.tuple hqy
    obtain ⟨u, hu, ru⟩ := rv.get hx
    obtain ⟨u2, hu2, ru2⟩ := rv2.get hy
    have hzl : z < s.heap.objs.size := Heap.lt_size hz
    refine ZT.pyT_item D hz hTI hTO h1 h2 p p2 (x := u) (y := u2) (by simpa using hu) (by simpa using hu2) fun h' z' TO' h1' h2' hT hsz hk => ?_
    refine ⟨_, rfl, wpAny_letOwnedTupleGo_zip (s := { s with heap := h' }) z' fun h'' z'' sb => ?_⟩
    have hT2 : h''.get? s.heap.objs.size = some { cls := .type "tuple", data := .seq #[u, u2] } := (sb.2 _ (Nat.ne_of_gt hzl)).trans hT
    have new : ObjOk X.prog X.w (upd H s.heap.objs.size (.tup [x, y])) h'' s.heap.objs.size (.tup [x, y]) :=
      ⟨by show 2 ≤ sizeLine; decide, [u, u2], .cons ru (.cons ru2 .nil), ⟨_, hT2, rfl, ⟨_, rfl⟩, rfl⟩⟩
    have I1 : Inv X pins σ (upd H s.heap.objs.size (.tup [x, y])) { s with heap := h'' } :=
      I.turnedNew (t' := s.toks) (ch := [z, TI, TO, i1, i2]) (fun c o hb q => (sb.2 c (fun q' => hb (by simp [q']))).trans (hk c o (fun q' => hb (by simp [q'])) (fun q' => hb (by simp [q'])) (fun q' => hb (by simp [q'])) (fun q' => hb (by simp [q'])) q)) hf (Nat.le_refl _) new
    refine ⟨.ref s.heap.objs.size, _, I1, rfl, ⟨_, x, y, rfl, I.hok.fresh (Nat.le_refl _), rfl, fun l hl => by rw [I.tuple_inj hl hqx]; exact hx, fun l hl => by rw [I.tuple_inj hl hqy]; exact hy⟩, ⟨z'', ?_, ⟨u, u2, ?_⟩, ?_, ?_⟩, fun c hcm => ?_⟩
    · exact (sb.2 _ D.TIz).trans (hk _ _ D.TIz D.TITO D.TIi1 D.TIi2 hTI)
    · exact (sb.2 _ D.TOz).trans TO'
    · exact h1'.at fun o q => (sb.2 _ D.i1z).trans q
    · exact h2'.at fun o q => (sb.2 _ D.i2z).trans q
    · have hlt : c < s.heap.objs.size := by
        have e' : c = z ∨ c = TI ∨ c = TO ∨ c = i1 ∨ c = i2 := by simpa using hcm
        rcases e' with q | q | q | q | q
        · rw [q]; exact hzl
        · rw [q]; exact Heap.lt_size hTI
        · rw [q]; exact Heap.lt_size hTO
        · rw [q]; obtain ⟨_, e1, _⟩ := h1; exact Heap.lt_size e1
        · rw [q]; obtain ⟨_, e2, _⟩ := h2; exact Heap.lt_size e2
      rw [upd_ne (Nat.ne_of_lt hlt)]
      exact (hf c hcm).1
  done := by
    intro X hP hw hK hc i pins s σ H E I hf st hg
    subst hP hw hK
    obtain ⟨hz, hTI, ⟨x0, y0, hTO⟩, h1, h2⟩ := st
    obtain ⟨xs, ys, hqx, hqy, hend⟩ := hg
    obtain ⟨its, rv, p, _⟩ := I.tuple hqx
    obtain ⟨its2, rv2, p2, _⟩ := I.tuple hqy
    have l1 := rv.length
    have l2 := rv2.length
    have he : its.toArray[i]? = none ∨ its2.toArray[i]? = none := by
      rcases hend with q | q
      · exact .inl (by simp; omega)
      · exact .inr (by simp; omega)
    exact ZT.pyT_end (I.ok.hd hc) D hz hTI hTO h1 h2 p p2 he fun h' hk => ⟨rfl, I.turnedL (t' := s.toks) (ch := [z, TI, TO, i1, i2]) (fun c o hb q =>
      hk c o (fun q' => hb (by simp [q'])) (fun q' => hb (by simp [q'])) (fun q' => hb (by simp [q'])) (fun q' => hb (by simp [q'])) q) hf⟩
  self := fun A i s Q E st h => wpAny_pyIter_zip st.1 h
def iZipT (K : PySem.W.Frag) (ta : TA) : TI := fun σ H R => ta σ H fun vs H1 => ∃ a b xs ys, vs = [.ref a, .ref b] ∧ SqT K H1 a xs ∧ SqT K H1 b ys ∧ R (ItzT K a b) H1
theorem pi_zipT {X : Cx} {e e2 : Expr} {ta : TA} {p pos tpos : Pos} {elts : List Expr} {kk : Nat} (hg : Gl X "zip") (hm : X.mg "zip" = none) (ha : PA X [e, e2] ta)
    (hs : starEach [e, e2] X.env = (false, eval e X.env) :: starEach [e2] X.env := by rfl) (hpl : (backTo pos (starEach [e2] X.env)).any (·.1) = false := by rfl) :
    PI X (.Tuple elts kk tpos) (.Call (.Name "zip" p) [e, e2] [] pos) (iZipT X.K ta) := by
  intro pins s σ H R I h
  refine Call_ (ld_blt I hg hm boot_zip5 (PyProof.Rows.callWith_type1 (thn (ha pos s σ H _ I h) fun us s1 ⟨vs, H1, I1, r1, q1⟩ => ?_) hs hpl))
  obtain ⟨a, b, xs, ys, ex, hqx, hqy, q⟩ := q1
  subst ex
  cases r1 with
  | cons r rr =>
    cases rr with
    | cons r' rr =>
      cases rr
      cases r
      cases r'
      obtain ⟨its, rv, p1, _⟩ := I1.tuple hqx
      obtain ⟨its2, rv2, p2, _⟩ := I1.tuple hqy
      have la : a < s1.heap.objs.size := tup_lt p1
      have lb : b < s1.heap.objs.size := tup_lt p2
      refine ZT.clT_zip p1 p2 fun h' hz hTI hTO h1 h2 hsz hk => wpAny_pyIter_zip hz ?_
      have I2 : Inv X pins σ H1 { s1 with heap := h' } := I1.kept (t' := s1.toks) hk
      refine ⟨s1.heap.objs.size + 4, [s1.heap.objs.size + 4, s1.heap.objs.size + 2, s1.heap.objs.size + 3, s1.heap.objs.size, s1.heap.objs.size + 1], _, _, H1, rfl, I2, turn_zipT (PySem.W.ktu_apart s1.heap.objs.size a b la lb), ⟨hz, hTI, ⟨_, _, hTO⟩, h1, h2⟩, fun c hcm => ?_, q⟩
      have e' : c = s1.heap.objs.size + 4 ∨ c = s1.heap.objs.size + 2 ∨ c = s1.heap.objs.size + 3 ∨ c = s1.heap.objs.size ∨ c = s1.heap.objs.size + 1 := by simpa using hcm
      have hle : s1.heap.objs.size ≤ c := by
        rcases e' with z | z | z | z | z
        · rw [z]; exact Nat.le_add_right _ _
        · rw [z]; exact Nat.le_add_right _ _
        · rw [z]; exact Nat.le_add_right _ _
        · rw [z]; exact Nat.le_refl _
        · rw [z]; exact Nat.le_add_right _ _
      exact I1.fpOk hle (I1.hok.fresh hle)
end L2
set_option Elab.async false
set_option linter.all false
set_option maxRecDepth 100000
set_option maxHeartbeats 4000000
namespace PySem
namespace ZT
open Sem (wp)
section
variable {prog : Program} {w : World} {A : Around} {EE : Value → Shared → Prop} {s : Shared}
end
section
variable {prog : Program} {w : World} {A : Around} {EE : Value → Shared → Prop} {s : Shared}
end
end ZT
end PySem
set_option Elab.async false
set_option linter.all false
set_option maxRecDepth 100000
set_option maxHeartbeats 4000000
namespace L2
open PySem PySem.Spec PyProof.Rows
end L2
set_option Elab.async false
set_option linter.all false
set_option maxRecDepth 100000
set_option maxHeartbeats 4000000
namespace L2
open PySem PySem.Spec PyProof.Rows
section
variable {prog : Program} {w : World} {A : Around} {E : Value → Shared → Prop}
theorem drawL {it l : Addr} {its : Array Value} (hne : l ≠ it) : ∀ (n i : Nat) (s : Shared) (Q : List Value → Shared → Prop), s.heap.IsListIter it l i → s.heap.IsList l its → i + n ≤ its.size →
    (∀ h', h'.IsListIter it l (i + n) → Heap.SameBut it s.heap h' → Q ((its.toList.drop i).take n) { s with heap := h' }) → wpAny (model prog w) A (draw (.ref it) n) Q E s
  | 0, i, s, Q, hi, _, _, q => by
    show wpAny _ _ (pure []) Q E s
    exact wpAny_pure (by simpa using q s.heap hi (Heap.SameBut.refl ..))
  | n + 1, i, s, Q, hi, hl, hle, q => by
    have lt : i < its.size := by omega
    show wpAny _ _ (pyNext (.ref it) >>= _) Q E s
    refine wpAny_bind (wpAny_pyNext_list_item hi hl (x := its[i]) (by simp [lt]) fun h1 hi1 hs1 => ?_)
    refine wpAny_bind (wpAny_holding (drawL hne n (i + 1) _ _ hi1 (hl.extBut hs1.extBut hne) (by omega) fun h2 hi2 hs2 => wpAny_pure ?_))
    have e : its.toList.drop i = its[i] :: its.toList.drop (i + 1) := by simp [List.drop_eq_getElem_cons, lt]
    have z := q h2 (by rw [show i + (n + 1) = i + 1 + n by omega]; exact hi2) (hs1.trans hs2)
    rw [e, List.take_succ_cons] at z
    exact z
theorem unpackL {s : Shared} {l : Addr} {its : Array Value} {Q : List Value → Shared → Prop} (hh : A.handled = none) (hl : s.heap.IsList l its)
    (q : ∀ h', Heap.ExtBut s.heap.objs.size s.heap h' → Q its.toList { s with heap := h' }) : wpAny (model prog w) A (unpackItems (.ref l) its.size none) Q E s := by
  have ne : l ≠ s.heap.objs.size := by obtain ⟨o, ho, _⟩ := hl; exact Nat.ne_of_lt (Heap.lt_size ho)
  unfold unpackItems
  refine wpAny_bind ?_
  unfold notIterableAtAll
  refine wpAny_bind (wpAny_specialOf hl.typeIs PySem.F.slot_list_iter.lookup ?_)
  refine wpAny_pure ?_
  simp only [Bool.false_eq_true, if_false]
  refine wpAny_bind (wpAny_holding (wpAny_pyIter_list hl ?_))
  refine wpAny_bind (wpAny_holding (drawL ne its.size 0 _ _ ⟨_, Heap.get?_push_size _ rfl, rfl, rfl⟩ (hl.push _) (by omega) fun h1 hi1 hs1 => ?_))
  have e : List.take its.size (List.drop 0 its.toList) = its.toList := by rw [List.drop_zero]; exact List.take_of_length_le (by simp)
  rw [e]
  rw [if_neg (by simp)]
  have hl1 : h1.IsList l its := (hl.push _).extBut hs1.extBut ne
  refine wpAny_bind (wpAny_holding (wpAny_pyNext_list_end hh hi1 hl1 (by simp) fun h2 he2 => ?_))
  simp only [Option.isSome_none, Bool.false_eq_true, if_false]
  exact wpAny_pure (q h2 fun b o hb z => he2 b o hb (hs1.extBut b o hb (Heap.get?_push_of_some _ z)))
end
section
variable {X : Cx} {pos : Pos}
/-- a, b = a list of two -/
def gLst (K : PySem.W.Frag) (n : Nat) (t : TGs) : TG := fun v σ H Q => ∃ a xs, v = .ref a ∧ SqL K H a xs ∧ xs.length = n ∧ t xs σ H Q
theorem pg_lst {es : List Expr} {k : Nat} {t : TGs} {n : Nat} (hc : X.calm = true) (h : PGs X es t)
    (hn : (assignEach es X.env).length = n := by rfl) (hst : (assignEach es X.env).findIdx? (·.1) = none := by rfl) : PG X (.Tuple es k pos) (gLst X.K n t) := by
  intro pins s σ H v u Q I r hw
  obtain ⟨a, xs, e1, hq, hl, hw⟩ := hw
  subst e1
  cases r
  obtain ⟨its, rv, pl, hz⟩ := I.list hq
  rw [assign_Tuple]
  refine wpAny_bind (wpAny_standAt ?_)
  unfold unpack
  have e2 : (assignEach es X.env).length = its.toArray.size := by simp [hn, ← hl, rv.length]
  rw [e2, hst]
  refine wpAny_bind (wpAny_holding (unpackL (I.ok.hd hc) pl.isList fun h' hx => ?_))
  have I1 : Inv X pins σ H { s with heap := h' } := I.kept (t' := s.toks) fun b o e => hx b o (Nat.ne_of_lt (Heap.lt_size e)) e
  exact h _ σ H xs _ Q I1 (by simpa using rv) hw
end
end L2
set_option Elab.async false
set_option linter.all false
set_option maxRecDepth 100000
set_option maxHeartbeats 4000000
namespace PySem
namespace ZT
open Sem (wp)
section
variable {prog : Program} {w : World} {A : Around} {EE : Value → Shared → Prop} {s : Shared}
end
section
variable {prog : Program} {w : World} {A : Around} {EE : Value → Shared → Prop} {s : Shared}
end
end ZT
end PySem
set_option Elab.async false
set_option linter.all false
set_option maxRecDepth 100000
set_option maxHeartbeats 4000000
namespace L2
open PySem PySem.Spec PyProof.Rows
end L2
set_option Elab.async false
set_option linter.all false
set_option maxRecDepth 100000
set_option maxHeartbeats 4000000
namespace L2
open PySem PySem.Spec PyProof.Rows
section
variable {X : Cx} {pins : List (Addr × Obj)} {σ : St} {H : Hp} {s : Shared} {A : Around} {E : Value → Shared → Prop} {Q : Value → Shared → Prop} {b : Bool}
theorem isi_tup_ok {x : V} {u t : Value} {tp : Addr} {dd : Option Addr} {its : List Value} {n : Nat} {sl : Array (Option Value)} (I : Inv X pins σ H s) (rx : RelV x u) (ty : TyOf X.K H x t) (hx : ∀ C, t ≠ .ref C)
    (htp : s.heap.get? tp = some ⟨.type "tuple", dd, .seq its.toArray n, sl⟩) (e : PySem.W.kitAny X.K t its = some b) (h : ∀ tk, Q (.bool b) { s with toks := tk }) :
    wpAny (model X.prog X.w) A (call (.builtin "isinstance") [u, .ref tp]) Q E s := by
  cases ty with
  | non => cases (show u = Value.none from rx); exact PySem.W.kia_tup PySem.W.kitx_none I.kIn True.intro htp e (fun z => nomatch z) h
  | bl y => cases (show u = Value.bool y from rx); exact PySem.W.kia_tup PySem.W.kitx_bool I.kIn True.intro htp e (fun z => nomatch z) h
  | int i => obtain ⟨t, q⟩ := (show ∃ t, u = Value.int i t from rx); cases q; exact PySem.W.kia_tup PySem.W.kitx_int I.kIn True.intro htp e (fun z => nomatch z) h
  | str y => obtain ⟨t, q⟩ := (show ∃ t, u = Value.str y t from rx); cases q; exact PySem.W.kia_tup PySem.W.kitx_str I.kIn True.intro htp e (fun z => nomatch z) h
  | flt y => obtain ⟨t, q⟩ := (show ∃ t, u = Value.float y t from rx); cases q; exact PySem.W.kia_tup PySem.W.kitx_float I.kIn True.intro htp e (fun z => nomatch z) h
  | @lst a xs ea =>
    cases (show u = Value.ref a from rx)
    obtain ⟨_, _, n, _, h1⟩ := (show ObjOk X.prog X.w H s.heap a (.lst xs) from I.hok a _ ea)
    exact PySem.W.kia_tup PySem.W.kitx_list I.kIn ⟨_, h1, rfl⟩ htp e (fun z => nomatch z) h
  | @frz a ob xs ea =>
    cases (show u = Value.ref a from rx)
    obtain ⟨_, _, _, n, _, h1⟩ := (show ObjOk X.prog X.w H s.heap a (.frz ob (.lst xs)) from I.hok a _ ea)
    exact PySem.W.kia_tup PySem.W.kitx_list I.kIn ⟨_, h1, rfl⟩ htp e (fun z => nomatch z) h
  | @tup a xs ea =>
    cases (show u = Value.ref a from rx)
    obtain ⟨_, _, _, p⟩ := (show ObjOk X.prog X.w H s.heap a (.tup xs) from I.hok a _ ea)
    obtain ⟨o, h1, h2, _⟩ := p
    exact PySem.W.kia_tup PySem.W.kitx_tuple I.kIn ⟨o, h1, h2⟩ htp e (fun z => nomatch z) h
  | @dK a kvs ea =>
    cases (show u = Value.ref a from rx)
    obtain ⟨_, _, vs, _, p⟩ := (show ObjOk X.prog X.w H s.heap a (.dK kvs) from I.hok a _ ea)
    obtain ⟨o, es, ep, h1, h2, _⟩ := p
    exact PySem.W.kia_tup PySem.W.kitx_dict I.kIn ⟨o, h1, h2.1⟩ htp e (fun z => nomatch z) h
  | @dT a kvs ea =>
    cases (show u = Value.ref a from rx)
    obtain ⟨_, _, xs, _, o, es, ep, h1, h2, _⟩ := (show ObjOk X.prog X.w H s.heap a (.dT kvs) from I.hok a _ ea)
    exact PySem.W.kia_tup PySem.W.kitx_dict I.kIn ⟨o, h1, h2.1⟩ htp e (fun z => nomatch z) h
  | ins _ _ _ _ _ _ => exact absurd rfl (hx _)
theorem vals_ty : ∀ {Ts : List String} {us : List Value}, Vals (Ts.map V.ty) us → us = Ts.map Value.type
  | [], _, .nil => rfl
  | T :: r, _, .cons h t => by
    have e : _ = Value.type T := h
    rw [e, vals_ty t]
    rfl
/-- isinstance(x, (T, ..)) -/
theorem call_isiT : CallR X (.builtin "isinstance") (fun xs H Q => ∃ x p Ts t b, xs = [x, .ref p] ∧ SqT X.K H p (List.map V.ty Ts) ∧ TyOf X.K H x t ∧ (∀ C, t ≠ .ref C) ∧ PySem.W.kitAny X.K t (List.map Value.type Ts) = some b ∧ Q (.bl b) H) := by
  intro pins s σ H xs us Q I r h
  obtain ⟨x, p, Ts, t, b, rfl, hp, ty, hn, e, q⟩ := h
  obtain ⟨u, w', rfl, rx, ry⟩ := vals2 r
  cases ry
  obtain ⟨its, rv, ⟨⟨cls, dd, data, sl⟩, ho, hc, n, hd⟩, _⟩ := I.tuple hp
  simp only at hc hd
  subst hc hd
  rw [← vals_ty rv] at e
  exact isi_tup_ok I rx ty hn ho e fun tk => ⟨.bl b, H, I.tok _, rfl, q⟩
end
/-- a comprehension over the pairs of two tuples of one length -/
theorem lc_zipT {K : PySem.W.Frag} {a b : Addr} {xs ys : List V} {g : TG} {tt : TT} {te : TE} {vs : List Nat} {σ : St} {H1 : Hp} {D : Addr} {Qd : Hp → Prop} (hlen : xs.length = ys.length) (Pv : Nat → Hp → Prop) (h0 : Pv 0 (upd H1 D (.lst [])))
    (hl : ∀ i H, i ≤ xs.length → Pv i H → SqT K H a xs ∧ SqT K H b ys)
    (hs : ∀ i x y H T, xs[i]? = some x → ys[i]? = some y → Pv i H → H T = none → g (.ref T) (wipe σ vs) (upd H T (.tup [x, y])) fun σ2 H2 => wipe σ2 vs = wipe σ vs ∧ tt σ2 H2 fun b H3 =>
      if b = true then te σ2 H3 fun y H4 => ∃ acc, H4 D = some (.lst acc) ∧ acc.length < sizeLine ∧ Pv (i + 1) (upd H4 D (.lst (acc ++ [y]))) else Pv (i + 1) H3) (hd : ∀ H, Pv xs.length H → Qd H) :
    ∃ W : Nat → Nat → Hp → Prop, (∃ m, W 0 m (upd H1 D (.lst []))) ∧ ∀ i m H, W i m H →
      ((ItzT K a b).stop i H ∧ Qd H) ∨ ((ItzT K a b).go i H ∧ ∃ Nx : Hp → Prop, (∀ H', Nx H' → ∃ m', m' < m ∧ W (i + 1) m' H') ∧ ∀ x H', (ItzT K a b).yld i H x H' → g x (wipe σ vs) H' fun σ2 H2 => wipe σ2 vs = wipe σ vs ∧ tt σ2 H2 fun b H3 =>
        if b = true then te σ2 H3 fun y H4 => ∃ acc, H4 D = some (.lst acc) ∧ acc.length < sizeLine ∧ Nx (upd H4 D (.lst (acc ++ [y]))) else Nx H3) := by
  refine ⟨fun i m H => m = xs.length - i ∧ i ≤ xs.length ∧ Pv i H, ⟨xs.length, by simp, Nat.zero_le _, h0⟩, ?_⟩
  rintro i m H ⟨rfl, hi, p⟩
  obtain ⟨q1, q2⟩ := hl i H hi p
  by_cases hlt : i < xs.length
  · have hlt2 : i < ys.length := by omega
    refine .inr ⟨⟨xs, ys, xs[i], ys[i], q1, q2, by simp [hlt], by simp [hlt2]⟩, Pv (i + 1), fun H' p' => ⟨xs.length - (i + 1), by omega, rfl, hlt, p'⟩, fun v H' yy => ?_⟩
    obtain ⟨T, x, y, rfl, hT, rfl, e1, e2⟩ := yy
    exact hs i x y H T (e1 xs q1) (e2 ys q2) p hT
  · have e : i = xs.length := by omega
    subst e
    exact .inl ⟨⟨xs, ys, q1, q2, .inl (Nat.le_refl _)⟩, hd H p⟩
end L2
set_option Elab.async false
set_option linter.all false
set_option maxRecDepth 100000
set_option maxHeartbeats 4000000
namespace L2
open PySem PySem.Spec PyProof.Rows
namespace HW
open HT
section
variable {prog : Program} {w : World} {A : Around} {E : Value → Shared → Prop} {s : Shared}
end
end HW
section
variable {X : Cx}
theorem vals_reverse : ∀ {xs : List V} {us : List Value}, Vals xs us → Vals xs.reverse us.reverse
  | _, _, .nil => .nil
  | _, _, .cons r t => by
    rw [List.reverse_cons, List.reverse_cons]
    exact (vals_reverse t).append (.cons r .nil)
end
end L2
set_option Elab.async false
set_option linter.all false
set_option maxRecDepth 100000
set_option maxHeartbeats 4000000
namespace L2
open PySem PySem.Spec PyProof.Rows
section
variable {P : Program} {w : World} {K : PySem.W.Frag} {mg : Str → Option Value} {base : Heap}
/-- THE RULE for a def, its code known -/
theorem Fun.okC {x qual : Str} {st : Stmt} {f : Addr} {fd : FuncData} {N ps : List Str} {k : Nat} {sp : Sp} (F : Fun K x qual st f fd) (S : FnScope N ps (defScope st)) (len : ∀ vs H Q E, sp vs H Q E → vs.length = ps.length)
    (hbody : ∀ (cdv : Value), fd.code = cdv → ∀ (A : Around) (outer : List Env) (s : Shared) (H : Hp) (vs : List V) (Q : VK) (E : XK), Room k (A.deeper (envOfC qual (defScope st) s.heap.objs.size f cdv)) → sp vs H Q E →
      ∃ t, PSs (cxOf CX0 P w K mg base N qual (defScope st) f cdv A outer s H E).nox (defBody st) t ∧ t { nx := fun _ H' => Q .non H', rt := Q } (start N vs) H) : FnOk P w K mg base CX0 (k + 1) f fd ps sp := by
  obtain ⟨oc, od, kV, doc, pm, an, cdv, ct, osl, rfl, lk, hcd⟩ := F.ex
  refine fn_of lk hcd S len fun A outer s H vs Q E hr hsp => ?_
  obtain ⟨t, h, q⟩ := hbody cdv rfl A outer s H vs Q E hr hsp
  exact ⟨t, h.nox, q⟩
end
end L2
namespace My
open PySem L2 TL
/-- a thing of any form -/
inductive Dt where
  | non | bl (b : Bool) | int (i : Int) | str (x : Str) | tup (xs : List Dt) | oth
mutual
inductive Lay (k : Addr) (H : Hp) : V → Dt → Prop
  | non : Lay k H .non .non
  | bl (b : Bool) : Lay k H (.bl b) (.bl b)
  | int (i : Int) : Lay k H (.int i) (.int i)
  | str (x : Str) : x.length ≤ 10000 → Lay k H (.str x) (.str x)
  | tup {a : Addr} {xs : List V} {ds : List Dt} : H a = some (.tup xs) → LayAll k H xs ds → Lay k H (.ref a) (.tup ds)
  | oth {a : Addr} : a ≠ k → ((∃ xs, H a = some (.lst xs)) ∨ H a = some (.dK [])) → Lay k H (.ref a) .oth
inductive LayAll (k : Addr) (H : Hp) : List V → List Dt → Prop
  | nil : LayAll k H [] []
  | cons {v : V} {vs : List V} {d : Dt} {ds : List Dt} : Lay k H v d → LayAll k H vs ds → LayAll k H (v :: vs) (d :: ds)
end
mutual
theorem Lay.keep {k : Addr} {H H' : Hp} {ys : List V} (h : SameBut k H H') (hk : H k = some (.lst ys)) : ∀ {v : V} {d : Dt}, Lay k H v d → Lay k H' v d
  | _, _, .non => .non
  | _, _, .bl b => .bl b
  | _, _, .int i => .int i
  | _, _, .str x z => .str x z
  | _, _, .tup e r => .tup (h _ _ e fun z => by rw [z, hk] at e; cases e) (LayAll.keep h hk r)
  | _, _, .oth n e => .oth n (e.elim (fun ⟨xs, q⟩ => .inl ⟨xs, h _ _ q n⟩) fun q => .inr (h _ _ q n))
theorem LayAll.keep {k : Addr} {H H' : Hp} {ys : List V} (h : SameBut k H H') (hk : H k = some (.lst ys)) : ∀ {vs : List V} {ds : List Dt}, LayAll k H vs ds → LayAll k H' vs ds
  | _, _, .nil => .nil
  | _, _, .cons a r => .cons (Lay.keep h hk a) (LayAll.keep h hk r)
end
mutual
theorem Lay.same {k : Addr} {H H' : Hp} (h : Same H H') : ∀ {v : V} {d : Dt}, Lay k H v d → Lay k H' v d
  | _, _, .non => .non
  | _, _, .bl b => .bl b
  | _, _, .int i => .int i
  | _, _, .str x z => .str x z
  | _, _, .tup e r => .tup (h _ _ e) (LayAll.same h r)
  | _, _, .oth n e => .oth n (e.elim (fun ⟨xs, q⟩ => .inl ⟨xs, h _ _ q⟩) fun q => .inr (h _ _ q))
theorem LayAll.same {k : Addr} {H H' : Hp} (h : Same H H') : ∀ {vs : List V} {ds : List Dt}, LayAll k H vs ds → LayAll k H' vs ds
  | _, _, .nil => .nil
  | _, _, .cons a r => .cons (Lay.same h a) (LayAll.same h r)
end
theorem LayAll.length {k : Addr} {H : Hp} : ∀ {vs : List V} {ds : List Dt}, LayAll k H vs ds → vs.length = ds.length
  | _, _, .nil => rfl
  | _, _, .cons _ r => by rw [List.length_cons, List.length_cons, r.length]
theorem LayAll.get {k : Addr} {H : Hp} : ∀ {vs : List V} {ds : List Dt} {i : Nat} {v : V}, LayAll k H vs ds → vs[i]? = some v → ∃ d, ds[i]? = some d ∧ Lay k H v d
  | _, _, _, _, .nil, e => by simp at e
  | _, _, 0, _, .cons a _, e => by simp at e; subst e; exact ⟨_, rfl, a⟩
  | _, _, i + 1, _, .cons _ r, e => by
    obtain ⟨d, h1, h2⟩ := LayAll.get (i := i) r (by simpa using e)
    exact ⟨d, by simpa using h1, h2⟩
theorem LayAll.append {k : Addr} {H : Hp} : ∀ {vs ws : List V} {ds es : List Dt}, LayAll k H vs ds → LayAll k H ws es → LayAll k H (vs ++ ws) (ds ++ es)
  | _, _, _, _, .nil, s => s
  | _, _, _, _, .cons r t, s => .cons r (LayAll.append t s)
def isTupD : Dt → Bool
  | .tup _ => true
  | _ => false
def isIntD : Dt → Bool
  | .int _ => true
  | .bl _ => true
  | _ => false
def isBoolD : Dt → Bool
  | .bl _ => true
  | _ => false
def isStrD : Dt → Bool
  | .str _ => true
  | _ => false
def wholeD : Dt → Bool
  | .int _ => true
  | _ => false
/-- a whole number from a to b -/
def betwD (a b : Int) : Dt → Bool
  | .int i => decide (a ≤ i) && decide (i ≤ b)
  | _ => false
def tupOfD (n : Int) : Dt → Bool
  | .tup ds => decide ((ds.length : Int) = n)
  | _ => false
section
variable {X : Cx}
theorem lay_ty {K : PySem.W.Frag} {k : Addr} {H : Hp} {v : V} {d : Dt} (h : Lay k H v d) : ∃ t, TyOf K H v t ∧ PySem.W.kitOne K t (.type "tuple") = some (isTupD d) ∧ PySem.W.kitOne K t (.type "int") = some (isIntD d) ∧ PySem.W.kitOne K t (.type "bool") = some (isBoolD d) ∧ PySem.W.kitOne K t (.type "str") = some (isStrD d) := by
  cases h with
  | non => exact ⟨_, .non, rfl, rfl, rfl, rfl⟩
  | bl b => exact ⟨_, .bl b, rfl, rfl, rfl, rfl⟩
  | int i => exact ⟨_, .int i, rfl, rfl, rfl, rfl⟩
  | str x _ => exact ⟨_, .str x, rfl, rfl, rfl, rfl⟩
  | tup e _ => exact ⟨_, .tup e, rfl, rfl, rfl, rfl⟩
  | oth _ e =>
    rcases e with ⟨xs, e⟩ | e
    · exact ⟨_, .lst e, rfl, rfl, rfl, rfl⟩
    · exact ⟨_, .dK e, rfl, rfl, rfl, rfl⟩
def rIs (T : String) (f : Dt → Bool) : List V → Hp → VK → Prop := fun xs H Q => ∃ x k d, xs = [x, .ty T] ∧ Lay k H x d ∧ Q (.bl (f d)) H
theorem call_isTup : CallR X (.builtin "isinstance") (rIs "tuple" isTupD) := fun pins s σ H xs us Q I r ⟨x, k, d, e, l, q⟩ => let ⟨t, ty, h1, _⟩ := lay_ty l; call_isi s σ H xs us Q I r ⟨x, _, t, _, e, ty, h1, q⟩
theorem call_isInt : CallR X (.builtin "isinstance") (rIs "int" isIntD) := fun pins s σ H xs us Q I r ⟨x, k, d, e, l, q⟩ => let ⟨t, ty, _, h1, _⟩ := lay_ty l; call_isi s σ H xs us Q I r ⟨x, _, t, _, e, ty, h1, q⟩
theorem call_isBool : CallR X (.builtin "isinstance") (rIs "bool" isBoolD) := fun pins s σ H xs us Q I r ⟨x, k, d, e, l, q⟩ => let ⟨t, ty, _, _, h1, _⟩ := lay_ty l; call_isi s σ H xs us Q I r ⟨x, _, t, _, e, ty, h1, q⟩
theorem call_isStr : CallR X (.builtin "isinstance") (rIs "str" isStrD) := fun pins s σ H xs us Q I r ⟨x, k, d, e, l, q⟩ => let ⟨t, ty, _, _, _, h1⟩ := lay_ty l; call_isi s σ H xs us Q I r ⟨x, _, t, _, e, ty, h1, q⟩
end
structure Bl (mg : Str → Option Value) : Prop where
  isi : mg "isinstance" = none
  tup : mg "tuple" = none
  str : mg "str" = none
  int : mg "int" = none
  len : mg "len" = none
  range : mg "range" = none
  max : mg "max" = none
  min : mg "min" = none
  list : mg "list" = none
  all : mg "all" = none
  zip : mg "zip" = none
  bool : mg "bool" = none
  enum : mg "enumerate" = none
  set : mg "set" = none
abbrev sWhole : Stmt := top 15
abbrev sBetween : Stmt := top 16
abbrev sTupleOf : Stmt := top 18
def spWhole : Sp := fun vs H Q _ => ∃ (v : V) (k : Addr) (d : Dt), vs = [v] ∧ Lay k H v d ∧ Q (.bl (wholeD d)) H
def spBetween : Sp := fun vs H Q _ => ∃ (v : V) (k : Addr) (d : Dt) (a b : Int), vs = [v, .int a, .int b] ∧ Lay k H v d ∧ Q (.bl (betwD a b d)) H
def spTupleOf : Sp := fun vs H Q _ => ∃ (v : V) (k : Addr) (d : Dt) (n : Int), vs = [v, .int n] ∧ Lay k H v d ∧ Q (.bl (tupOfD n d)) H
section
variable {P : Program} {w : World} {K : PySem.W.Frag} {mg : Str → Option Value} {base : Heap}
theorem scWhole : FnScope ["thing"] ["thing"] (defScope sWhole) := ⟨rfl, rfl, rfl, by decide +kernel, rfl, by decide +kernel, by decide +kernel⟩
theorem scBetween : FnScope ["thing", "low", "high"] ["thing", "low", "high"] (defScope sBetween) := ⟨rfl, rfl, rfl, by decide +kernel, rfl, by decide +kernel, by decide +kernel⟩
theorem scTupleOf : FnScope ["thing", "many"] ["thing", "many"] (defScope sTupleOf) := ⟨rfl, rfl, rfl, by decide +kernel, rfl, by decide +kernel, by decide +kernel⟩
theorem ok_whole {f : Addr} {fd : FuncData} (F : Fun K "is_whole" "is_whole" sWhole f fd) (B : Bl mg) : FnOk P w K mg base CX0 1 f fd ["thing"] spWhole := by
  refine F.ok scWhole (fun vs H Q E h => ?_) (fun cdv A outer s H vs Q E hr1 h => ?_)
  · obtain ⟨v, k, d, rfl, _⟩ := h
    rfl
  · obtain ⟨v, k, d, rfl, hl, q⟩ := h
    refine ⟨_, pss_one (ps_ret (pe_and (pe_callB call_isInt (by rfl) B.isi (by decide +kernel) (pa_cons (pv 0) (pa_cons (pe_bltn (v := .ty "int") (by rfl) B.int (by decide +kernel) rfl) pa_nil))) (pe_one (pe_not (pe_callB call_isBool (by rfl) B.isi (by decide +kernel) (pa_cons (pv 0) (pa_cons (pe_bltn (v := .ty "bool") (by rfl) B.bool (by decide +kernel) rfl) pa_nil))))))), ?read⟩
    case read =>
      refine ⟨_, rfl, v, k, d, rfl, hl, _, rfl, iteB (fun h1 => ?_) (fun h1 => ?_)⟩
      · refine ⟨_, rfl, v, k, d, rfl, hl, _, rfl, ?_⟩
        have e : (!isBoolD d) = wholeD d := by cases d <;> simp_all [isIntD, isBoolD, wholeD]
        rw [e]; exact q
      · have e : wholeD d = false := by cases d <;> simp_all [isIntD, isBoolD, wholeD]
        rw [e] at q; exact q
theorem ok_between {f : Addr} {fd : FuncData} (F : Fun K "is_between" "is_between" sBetween f fd) (dW : Df K mg "is_whole" sWhole ["thing"]) (B : Bl mg) : FnOk P w K mg base CX0 2 f fd ["thing", "low", "high"] spBetween := by
  have GW : FnOk P w K mg base CX0 1 dW.f dW.fd ["thing"] spWhole := ok_whole dW.F B
  refine F.ok scBetween (fun vs H Q E h => ?_) (fun cdv A outer s H vs Q E hr1 h => ?_)
  · obtain ⟨v, k, d, a, b, rfl, _⟩ := h
    rfl
  · obtain ⟨v, k, d, a, b, rfl, hl, q⟩ := h
    refine ⟨_, pss_one (ps_ret (pe_and (pe_call GW hr1 rfl dW.m dW.F.kp dW.b .nil pass0 (pa_cons (pv 0) pa_nil)) (pe_one (pe_chain op_le op_le (pv 1) (pv 0) (pv 2))))), ?read⟩
    case read =>
      refine ⟨_, rfl, v, k, d, rfl, hl, _, rfl, iteB (fun h1 => ?_) (fun h1 => ?_)⟩
      · cases hl with
        | int i =>
          refine ⟨_, rfl, _, rfl, a, i, rfl, rfl, _, rfl, iteB (fun h2 => ⟨_, rfl, i, b, rfl, rfl, ?_⟩) (fun h2 => ?_)⟩
          · have e : betwD a b (.int i) = decide (i ≤ b) := by simp_all [betwD]
            rw [e] at q; exact q
          · have h3 : ¬ a ≤ i := of_decide_eq_false h2
            have e : betwD a b (.int i) = false := by simp [betwD, h3]
            rw [e] at q; exact q
        | _ => cases h1
      · have e : betwD a b d = false := by cases d <;> simp_all [wholeD, betwD]
        rw [e] at q; exact q
theorem ok_tupleOf {f : Addr} {fd : FuncData} (F : Fun K "is_tuple_of" "is_tuple_of" sTupleOf f fd) (B : Bl mg) : FnOk P w K mg base CX0 1 f fd ["thing", "many"] spTupleOf := by
  refine F.ok scTupleOf (fun vs H Q E h => ?_) (fun cdv A outer s H vs Q E hr1 h => ?_)
  · obtain ⟨v, k, d, n, rfl, _⟩ := h
    rfl
  · obtain ⟨v, k, d, n, rfl, hl, q⟩ := h
    refine ⟨_, pss_one (ps_ret (pe_and (pe_callB call_isTup (by rfl) B.isi (by decide +kernel) (pa_cons (pv 0) (pa_cons (pe_bltn (v := .ty "tuple") (by rfl) B.tup (by decide +kernel) rfl) pa_nil))) (pe_one (pe_cmpR op_eq (pe_callB call_len_seq (by rfl) B.len PySem.boot_len (pa_cons (pv 0) pa_nil)) (pv 1) (nomark _))))), ?read⟩
    case read =>
      refine ⟨_, rfl, v, k, d, rfl, hl, _, rfl, iteB (fun h1 => ?_) (fun h1 => ?_)⟩
      · cases hl with
        | @tup a' xs ds e r =>
          refine ⟨_, rfl, _, _, rfl, .inr (SqT.of e), _, rfl, rfl, ?_⟩
          show Q _ H
          have z : decide (V.int (xs.length : Int) = V.int n) = tupOfD n (.tup ds) := by
            rw [r.length]; simp [tupOfD]
          rw [z]; exact q
        | _ => cases h1
      · have e : tupOfD n d = false := by cases d <;> simp_all [isTupD, tupOfD]
        rw [e] at q; exact q
end
end My
set_option Elab.async false
set_option linter.all false
set_option maxRecDepth 100000
set_option maxHeartbeats 4000000
namespace L2
open PySem PySem.Spec PyProof.Rows
theorem all_rangeD {f : Nat → Bool} {n i : Nat} (h : i ≤ n) (hs : ∀ j, j < i → f j = true) : ((List.range n).drop i).all f = (List.range n).all f := by
  have e : (List.range n).all f = (((List.range n).take i).all f && ((List.range n).drop i).all f) := by
    rw [← List.all_append, List.take_append_drop]
  rw [e]
  have : ((List.range n).take i).all f = true := List.all_eq_true.mpr fun x hx => by
    rw [List.take_range] at hx
    have := List.mem_range.mp hx
    exact hs x (by omega)
  rw [this, Bool.true_and]
/-- all(elt for x in t), t a tuple, the elements as they are without a trace -/
theorem all_tup {K : PySem.W.Frag} {P a : Addr} {xs : List V} {te : TE} {vs : List Nat} {j : Nat} {σ : St} {H : Hp} {Q : VK} (hS : SqT K H a xs) (hP : ∃ ps, H P = some (.ext (TabOk P ps))) (f : Nat → Bool)
    (hw : ∀ x, wipe ((wipe σ vs).set j (some x)) vs = wipe σ vs)
    (hel : ∀ (i : Nat) (x : V) (Q' : VK), xs[i]? = some x → Q' (.bl (f i)) H → te ((wipe σ vs).set j (some x)) H Q') (q : Q (.bl ((List.range xs.length).all f)) H) :
    (∃ ps, H P = some (.ext (TabOk P ps))) ∧ ∃ W : Nat → Nat → Hp → Prop, (∃ m, W 0 m H) ∧ ∀ i m H, W i m H →
      ((Itt K a).stop i H ∧ Q (.bl true) H) ∨ ((Itt K a).go i H ∧ ∃ Nx : Hp → Prop, (∀ H', Nx H' → ∃ m', m' < m ∧ W (i + 1) m' H') ∧ ∀ x H', (Itt K a).yld i H x H' → gName j x (wipe σ vs) H' fun σ2 H2 => wipe σ2 vs = wipe σ vs ∧
        te σ2 H2 fun y H3 => ∃ b, y = .bl b ∧ if b = true then Nx H3 else Q (.bl (!true)) H3) := by
  refine ⟨hP, fun i m H' => H' = H ∧ m + i = xs.length ∧ ∀ j, j < i → f j = true, ⟨xs.length, rfl, rfl, fun j hj => absurd hj (Nat.not_lt_zero _)⟩, ?_⟩
  rintro i m H' ⟨rfl, hm, hf⟩
  by_cases hi : i < xs.length
  · have hx : xs[i]? = some xs[i] := List.getElem?_eq_getElem hi
    refine .inr ⟨⟨xs, xs[i], hS, hx⟩, fun H2 => H2 = H' ∧ f i = true, fun H2 ⟨e, ef⟩ => ⟨m - 1, by omega, e, by omega, fun j hj => ?_⟩, ?_⟩
    · by_cases z : j = i
      · subst z; exact ef
      · exact hf j (by omega)
    rintro x H2 ⟨rfl, hy⟩
    have hx' := hy xs hS
    refine ⟨hw x, hel i x _ hx' ⟨f i, rfl, ?_⟩⟩
    by_cases e : f i = true
    · rw [if_pos e]; exact ⟨rfl, e⟩
    · rw [if_neg e]
      have : (List.range xs.length).all f = false := by
        rw [← all_rangeD (Nat.le_of_lt hi) hf]
        rw [List.drop_eq_getElem_cons (by simpa using hi)]
        simp [e]
      rw [this] at q
      exact q
  · have : i = xs.length := by omega
    refine .inl ⟨⟨xs, hS, by omega⟩, ?_⟩
    have : (List.range xs.length).all f = true := List.all_eq_true.mpr fun x hx => hf x (by have := List.mem_range.mp hx; omega)
    rw [this] at q
    exact q
end L2
namespace My
open PySem L2 TL
abbrev sLimit : Stmt := top 19
theorem all_getD {f : Dt → Bool} : ∀ (ds : List Dt), (List.range ds.length).all (fun i => f (ds.getD i .non)) = ds.all f := by
  intro ds
  have e : ds = (List.range ds.length).map fun i => ds.getD i .non := by
    apply List.ext_getElem?
    intro i
    rw [List.getElem?_map]
    by_cases h : i < ds.length
    · rw [List.getElem?_range h, List.getElem?_eq_getElem h]
      simp [List.getD_eq_getElem?_getD, h]
    · rw [List.getElem?_eq_none (by omega), List.getElem?_eq_none (by simpa using h)]; rfl
  conv => rhs; rw [e]
  rw [List.all_map]
  rfl
section
variable {P : Program} {w : World} {K : PySem.W.Frag} {mg : Str → Option Value} {base : Heap}
theorem scLimit : FnScope ["machine"] ["machine"] (defScope sLimit) := ⟨rfl, rfl, rfl, by decide +kernel, rfl, by decide +kernel, by decide +kernel⟩
end
end My
set_option Elab.async false
set_option linter.all false
namespace PySem
/-- the texts met, each once -/
def insS (l : List Str) (x : Str) : List Str := if x ∈ l then l else l ++ [x]
def metS (xs : List Str) : List Str := xs.foldl insS []
theorem insS_mem (l : List Str) (x y : Str) : y ∈ insS l x ↔ y ∈ l ∨ y = x := by
  unfold insS
  split
  · rename_i h; exact ⟨.inl, fun z => z.elim id fun e => e ▸ h⟩
  · simp
theorem metS_snoc (xs : List Str) (x : Str) : metS (xs ++ [x]) = insS (metS xs) x := by unfold metS; rw [List.foldl_append]; rfl
theorem met_go (xs : List Str) : ∀ (l : List Str) (y : Str), y ∈ xs.foldl insS l ↔ y ∈ l ∨ y ∈ xs := by
  induction xs with
  | nil => intro l y; simp
  | cons x r ih =>
    intro l y
    rw [List.foldl_cons, ih, insS_mem]
    simp [or_assoc]
theorem met_mem (xs : List Str) (y : Str) : y ∈ metS xs ↔ y ∈ xs := by unfold metS; rw [met_go]; simp
theorem met_len (xs : List Str) : ∀ l : List Str, (xs.foldl insS l).length ≤ l.length + xs.length := by
  induction xs with
  | nil => intro l; simp
  | cons x r ih =>
    intro l
    rw [List.foldl_cons]
    have h1 := ih (insS l x)
    have h2 : (insS l x).length ≤ l.length + 1 := by unfold insS; split <;> simp
    simp only [List.length_cons]
    omega
theorem metS_le (xs : List Str) : (metS xs).length ≤ xs.length := by have := met_len xs []; simpa [metS] using this
end PySem
namespace Sx
open PySem L2 PySem.Spec PyProof.Rows
section
variable {prog : Program} {w : World} {A : Around} {R : Result → Shared → Prop} {J : Addr} {fq wq : List Addr} {G : Array GenState → Array GenState → Prop} {n : Nat} {P : Nat → Value → Prop} {Sg : Nat → Shared → Prop}
theorem loopS (W : WalksS prog w A.in1 J fq wq G n P Sg) (S : Addr) (nf : S ∉ fq) (xs : List Str) (ln : xs.length = n) (room : n + 1 < scanBound) :
    ∀ (k i : Nat) (sa : Shared), n - i = k → i ≤ n → Sg i sa → (∀ j v, P j v → ∃ x t, xs[j]? = some x ∧ v = .str x t) →
      sa.heap.SetOf (strKind prog w) S (fun k => decide (k ∈ xs.take i)) (metS (xs.take i)).length →
      (∀ sb, Moved (S :: wq) G sa sb → sb.heap.SetOf (strKind prog w) S (fun k => decide (k ∈ xs)) (metS xs).length → R (.ok (.ret .none)) sb) →
      codeAny (model prog w) A (.builtin "set.update.loop" ⟨[.ref S, .ref J], []⟩) R sa := by
  have nw : S ∉ wq := fun z => nf (W.sub _ z)
  have sub : ∀ b ∈ wq, b ∈ S :: wq := fun b z => List.mem_cons_of_mem _ z
  intro k
  induction k with
  | zero =>
    intro i sa hk hi st hP hS hR
    obtain rfl : i = n := by omega
    refine codeAny_builtin F.entry_set_update_loop ?_
    rw [Around.under_plainId F.plain_set_update_loop _]
    show wpAny _ A.in1 (pyNext (.ref J) >>= _) _ _ sa
    refine wpAny_bind (W.done sa _ _ st fun sb mv => ?_)
    show wpAny _ A.in1 (ret Value.none) _ _ sb
    refine wpAny_pure (hR sb (mv.mono sub) ?_)
    rw [← ln, List.take_length] at hS
    obtain ⟨o, es, ep, t, ho, rest⟩ := hS
    exact ⟨o, es, ep, t, mv.heap S _ nw ho, rest⟩
  | succ k ih =>
    intro i sa hk hi st hP hS hR
    have lt : i < n := by omega
    refine codeAny_builtin F.entry_set_update_loop ?_
    rw [Around.under_plainId F.plain_set_update_loop _]
    show wpAny _ A.in1 (pyNext (.ref J) >>= _) _ _ sa
    refine wpAny_bind (W.item i sa _ _ lt st fun v sb pv st2 mv => ?_)
    obtain ⟨x, t, hx, rfl⟩ := hP i v pv
    have hS2 : sb.heap.SetOf (strKind prog w) S (fun k => decide (k ∈ xs.take i)) (metS (xs.take i)).length := by
      obtain ⟨o, es, ep, tb, ho, rest⟩ := hS
      exact ⟨o, es, ep, tb, mv.heap S _ nw ho, rest⟩
    show wpAny _ A.in1 (holding [Value.str x t] (setAdd S (.str x t)) >>= _) _ _ sb
    refine wpAny_bind (wpAny_holding ?_)
    unfold setAdd
    refine wpAny_holding ?_
    refine wpAny_bind ((strKind prog w).pyHash (k := x) (strKind_is _ _ _ _) ?_)
    have rm : (metS (xs.take i)).length + 1 < scanBound := by
      have := metS_le (xs.take i)
      have h2 : (xs.take i).length ≤ i := by rw [List.length_take]; omega
      omega
    refine wpAny_setAddHashed_of (knd := strKind prog w) (s := { sb with toks := sb.toks + 1 }) (strKind_is _ _ _ _) rfl hS2 rm fun h' ext hS3 => ?_
    have tk : xs.take (i + 1) = xs.take i ++ [x] := by rw [List.take_add_one, hx]; rfl
    have hSi : h'.SetOf (strKind prog w) S (fun k => decide (k ∈ xs.take (i + 1))) (metS (xs.take (i + 1))).length := by
      refine SetOf_congr hS3 (fun y => ?_) ?_
      · rw [tk, ← Bool.decide_or]
        exact decide_eq_decide.mpr (by simp)
      · rw [tk, metS_snoc]
        unfold insS
        by_cases z : x ∈ xs.take i
        · rw [if_pos (by simpa using z), if_pos ((met_mem _ _).mpr z)]
        · rw [if_neg (by simpa using z), if_neg (fun y => z ((met_mem _ _).mp y)), List.length_append]; rfl
    refine wpAny_pure ⟨plainId_quiet F.plain_set_update_loop _, ih (i + 1) _ (by omega) lt (W.frame _ sb _ _ st2 (Nat.le_succ _) fun b hb o e => ?_) hP hSi fun sd m2 hS4 => ?_⟩
    · rw [ext.2 b (fun z : b = S => nf (by rw [← z]; exact hb))]; exact e
    · refine hR sd (Moved.trans W.gtrans ((mv.mono sub).then_heap (Nat.le_succ _) fun b o hb e => ?_) m2) hS4
      rw [ext.2 b (fun z : b = S => hb (by rw [z]; exact List.mem_cons_self))]; exact e
end
end Sx
namespace PySem
theorem subTupSet : isSubtype (.type "tuple") (.type "set") = pure false := by rw [isSubtype_type]; kernel_rfl
theorem subTupFroz : isSubtype (.type "tuple") (.type "frozenset") = pure false := by rw [isSubtype_type]; kernel_rfl
section
variable {prog : Program} {w : World} {A : Around} {E : Value → Shared → Prop} {s : Shared}
set_option maxRecDepth 100000 in
set_option maxHeartbeats 3200000 in
theorem clSetS {l : Addr} {items : Array Value} {xs : List Str} {Q : Value → Shared → Prop}
    (hh : A.handled = none) (hl : s.heap.IsTuple l items) (hds : xs.length = items.size) (hz : items.size + 1 < scanBound)
    (hi : ∀ (j : Nat) (v : Value), items[j]? = some v → ∃ x k, xs[j]? = some x ∧ v = .str x k)
    (h : ∀ (h' : Heap) (tk : Nat), h'.SetOf (strKind prog w) s.heap.objs.size (fun k => decide (k ∈ xs)) (metS xs).length → (∀ b o, b < s.heap.objs.size → s.heap.get? b = some o → h'.get? b = some o) → Q (.ref s.heap.objs.size) { s with heap := h', toks := tk }) :
    wpAny (model prog w) A (call (.type "set") [.ref l]) Q E s := by
  obtain ⟨c, tl, mro⟩ := F.called_set.mro
  have mde := F.called_set.made
  have sbt := F.called_set.sub
  refine wpAny_call (codeAny_of_tree ?_)
  show wpAny _ _ (callAny (.type "set") _) _ _ _
  refine wpAny_pure ⟨Code.quiet_builtin _ (by decide +kernel), codeAny_builtin F.entry_type_call ?_⟩
  rw [Around.under_plain (weight_type_call_type "set" [.ref l] []) rfl]
  have h1 := F.called_set.notType
  have h2 := F.called_set.canCreate
  have tyc := F.typeCall_set_1 (.ref l)
  repeat (any_goals (first | assumption | wp_step))
  refine codeAny_mono (code_set_new_1 (.ref l) (E := E) (Q₁ := fun obj sd => ∃ led : Bool, obj = .ref s.heap.objs.size ∧ sd = { s with heap := s.heap.push { cls := .type "set", dict := none, data := .set #[] 0 (.fresh 0 0 led) } }) fun led => ⟨led, rfl, rfl⟩) fun r sd hr => ?_
  cases r with
  | error e => exact hr
  | ok fl =>
    cases fl with
    | ret obj =>
      obtain ⟨led, rfl, rfl⟩ := hr
      have hS : (s.heap.push { cls := .type "set", dict := none, data := .set #[] 0 (.fresh 0 0 led) }).get? s.heap.objs.size = some { cls := .type "set", dict := none, data := .set #[] 0 (.fresh 0 0 led) } := Heap.get?_push_size _ rfl
      have hT : Shared.TypeIs { s with heap := s.heap.push { cls := .type "set", dict := none, data := .set #[] 0 (.fresh 0 0 led) } } (.ref s.heap.objs.size) "set" := ⟨_, hS, rfl⟩
      have lk1 := F.called_set.init.lookup
      have bd1 := F.called_set.init.bind (.ref s.heap.objs.size)
      repeat (any_goals (first | assumption | wp_step))
      refine codeAny_mono (codeAny_call_builtin (R := wants (fun r sc => r = .none ∧ ∃ h' tk, sc = { s with heap := h', toks := tk } ∧
          h'.SetOf (strKind prog w) s.heap.objs.size (fun k => decide (k ∈ xs)) (metS xs).length ∧
          (∀ b o, b < s.heap.objs.size → s.heap.get? b = some o → h'.get? b = some o)) E) F.called_set.init.plain F.entry_set_init (check_set_init_1 hT ?_)) fun rb sc rq => ?_
      · obtain ⟨ol, ol1, cl1, nl, dl1⟩ := hl
        obtain ⟨ca, cb, cc, ce⟩ := ol
        simp only at cl1 dl1
        subst cl1; subst dl1
        have ol2 : (s.heap.push { cls := .type "set", dict := none, data := .set #[] 0 (.fresh 0 0 led) }).get? l = some { cls := .type "tuple", dict := cb, data := .seq items nl, slots := ce } := Heap.get?_push_of_some _ ol1
        have sl1 := subTupSet
        have sl2 := subTupFroz
        have hne : (Value.type "tuple" == Value.type "dict") = false := by decide
        have hl1 : (s.heap.push { cls := .type "set", dict := none, data := .set #[] 0 (.fresh 0 0 led) }).IsTuple l items := ⟨_, ol2, rfl, nl, rfl⟩
        unfold Builtin.«set.__init__» noKeywords Builtin.Frozenset.updateFrom
        generalize hPI : pyIter = PI
        wp_walk
        subst hPI
        refine wpAny_pyIter_tuple hl1 ?_
        refine wpAny_bind (wpAny_runValue ?_)
        have lS : l < s.heap.objs.size := Heap.lt_size ol1
        have hh3 : A.in1.in1.in1.handled = none := by simp [hh]
        have hneI : l ≠ (s.heap.push { cls := .type "set", dict := none, data := .set #[] 0 (.fresh 0 0 led) }).objs.size := by
          rw [Heap.size_push]; exact Nat.ne_of_lt (Nat.lt_succ_of_lt lS)
        have hSf : s.heap.objs.size ∉ [(s.heap.push { cls := .type "set", dict := none, data := .set #[] 0 (.fresh 0 0 led) }).objs.size, l] := by
          rw [Heap.size_push]; simp only [List.mem_cons, List.mem_singleton, List.not_mem_nil, or_false, not_or]
          exact ⟨Nat.ne_of_lt (Nat.lt_succ_self _), Nat.ne_of_gt lS⟩
        refine Sx.loopS ((Walks.tuple hh3 _ l hneI items).toS) s.heap.objs.size hSf xs hds hz (items.size - 0) 0 _ (by omega) (Nat.zero_le _)
          ⟨⟨_, Heap.get?_push_size _ rfl, rfl, rfl⟩, (hl1.extBut (b := (s.heap.push { cls := .type "set", dict := none, data := .set #[] 0 (.fresh 0 0 led) }).objs.size) (fun b o _ e => Heap.get?_push_of_some _ e) hneI)⟩ hi ?hS0 ?hR
        case hS0 =>
          have hget : ((s.heap.push { cls := .type "set", dict := none, data := .set #[] 0 (.fresh 0 0 led) }).push { cls := .type "tuple_iterator", data := .fields #[.ref l, .int 0 0] }).get? s.heap.objs.size = some { cls := .type "set", dict := none, data := .set #[] 0 (.fresh 0 0 led) } := Heap.get?_push_of_some _ hS
          exact PyProof.Rows.SetOf_congr ((PyProof.Rows.setObjOf_fresh (knd := strKind prog w) led).setOf hget (by unfold scanBound; omega)) (fun _ => by simp) rfl
        case hR =>
          intro s' hm hS'
          obtain ⟨h', g', d', tk', os'⟩ := s'
          have eg : g' = s.gens := hm.gens
          have ed : d' = s.drawn := hm.drawn
          have eo : os' = s.os := hm.os
          subst eg; subst ed; subst eo
          show wpAny _ _ _ _ _ _
          refine wpAny_pure ?_
          show wpAny _ _ (ret Value.none) _ _ _
          refine wpAny_pure ⟨rfl, h', tk', rfl, hS', fun b o hb e => ?_⟩
          have hb1 : b ≠ s.heap.objs.size := Nat.ne_of_lt hb
          have hb2 : b ≠ (s.heap.push { cls := .type "set", dict := none, data := .set #[] 0 (.fresh 0 0 led) }).objs.size := by
            rw [Heap.size_push]; exact Nat.ne_of_lt (Nat.lt_succ_of_lt hb)
          exact hm.heap b o (by simp only [List.mem_cons, List.mem_singleton, List.not_mem_nil, or_false, not_or]; exact ⟨hb1, hb2⟩) (Heap.get?_push_of_some _ (Heap.get?_push_of_some _ e))
      · cases rb with
        | error e => exact rq
        | ok fb =>
          cases fb with
          | ret r =>
            obtain ⟨rfl, h', tk, rfl, hS', kk2⟩ := rq
            repeat (any_goals (first | assumption | wp_step))
            exact h _ _ hS' kk2
          | _ => exact rq.elim
    | _ => exact hr.elim
end
end PySem
set_option maxRecDepth 100000
set_option maxHeartbeats 4000000
namespace L2
open PySem PySem.Spec PyProof.Rows
/-- a set of so many items -/
def SetLenS (a : Addr) (m : Nat) (h : Heap) : Prop := ∃ o es ep t, h.get? a = some o ∧ o.ExactSet ∧ o.data = .set es ep t ∧ t.fits es.size = true ∧ es.size = m
def setOS (a : Addr) (m : Nat) : HO := .ext (SetLenS a m)
variable {X : Cx}
/-- set(t) of a tuple of texts -/
def rSetS (K : PySem.W.Frag) : List V → Hp → VK → Prop := fun xs H Q => ∃ (a : Addr) (ys : List Str), xs = [.ref a] ∧ SqT K H a (ys.map V.str) ∧ ys.length ≤ 100 ∧ ∀ p, H p = none → Q (.ref p) (upd H p (setOS p (metS ys).length))
theorem call_setS (hcalm : X.calm = true) : CallR X (.type "set") (rSetS X.K) := by
  intro pins s σ H xs us Q I r q
  obtain ⟨a, ys, rfl, hq, hz, q⟩ := q
  obtain ⟨u, rfl, rx⟩ := vals1 r
  cases rx
  obtain ⟨its, rv, pl, hsz⟩ := I.tuple hq
  have lv := rv.length
  rw [List.length_map] at lv
  refine clSetS (items := its.toArray) (xs := ys) (I.ok.hd hcalm) (show s.heap.IsTuple a its.toArray from pl) (by simp; omega) (by unfold scanBound; simp; omega) (fun j v hv => ?_) fun h' tk hS k => ?_
  · have hv : its[j]? = some v := by simpa using hv
    have hj : j < ys.length := by have := (List.getElem?_eq_some_iff.mp hv).1; omega
    obtain ⟨u, hu, rl⟩ := rv.get (i := j) (x := V.str ys[j]) (by rw [List.getElem?_map, List.getElem?_eq_getElem hj]; rfl)
    rw [hv] at hu
    cases hu
    obtain ⟨t, rfl⟩ := rl
    exact ⟨_, t, List.getElem?_eq_getElem hj, rfl⟩
  · have hn : H s.heap.objs.size = none := I.hok.fresh (Nat.le_refl _)
    refine ⟨.ref s.heap.objs.size, upd H s.heap.objs.size (setOS s.heap.objs.size (metS ys).length), I.laid (t' := tk) (fun b o e => k b o (Heap.lt_size e) e) (Nat.le_refl _) ?_, rfl, q _ hn⟩
    have sl : SetLenS s.heap.objs.size (metS ys).length h' := by
      obtain ⟨o, es, ep, t, ho, hex, hd, hel, hmem, hb, hf, hn⟩ := hS
      exact ⟨o, es, ep, t, ho, hex, hd, hf, hn⟩
    refine ⟨sl, ?_, fun h1 h2 x g => ?_⟩
    · obtain ⟨o, _, _, _, ho, _⟩ := sl
      exact ⟨o, ho⟩
    · obtain ⟨o, es, ep, t, ho, z⟩ := x
      exact ⟨o, es, ep, t, g o ho, z⟩
/-- len of such a set -/
theorem call_lenSS : CallR X (.builtin "len") (fun xs H Q => ∃ p m, xs = [.ref p] ∧ H p = some (setOS p m) ∧ m < 2 ^ 62 ∧ Q (.int m) H) := by
  intro pins s σ H xs us Q I r q
  obtain ⟨p, m, rfl, hp, hm, q⟩ := q
  obtain ⟨u, rfl, rx⟩ := vals1 r
  cases rx
  obtain ⟨⟨o, es, ep, t, ho, hx, hd, hf, hs⟩, _⟩ := I.hok p _ hp
  exact call_len_set ho hx hd hf (by omega) ⟨.int m, H, I.tok _, ⟨_, by rw [hs]⟩, q⟩
end L2
set_option Elab.async false
set_option linter.all false
namespace PySem
section
variable {prog : Program} {w : World} {A : Around} {E : Value → Shared → Prop} {s : Shared}
set_option maxRecDepth 100000 in
set_option maxHeartbeats 3200000 in
theorem clSetSL {l : Addr} {items : Array Value} {xs : List Str} {Q : Value → Shared → Prop}
    (hh : A.handled = none) (hl : s.heap.IsList l items) (hds : xs.length = items.size) (hz : items.size + 1 < scanBound)
    (hi : ∀ (j : Nat) (v : Value), items[j]? = some v → ∃ x k, xs[j]? = some x ∧ v = .str x k)
    (h : ∀ (h' : Heap) (tk : Nat), h'.SetOf (strKind prog w) s.heap.objs.size (fun k => decide (k ∈ xs)) (metS xs).length → (∀ b o, b < s.heap.objs.size → s.heap.get? b = some o → h'.get? b = some o) → Q (.ref s.heap.objs.size) { s with heap := h', toks := tk }) :
    wpAny (model prog w) A (call (.type "set") [.ref l]) Q E s := by
  obtain ⟨c, tl, mro⟩ := F.called_set.mro
  have mde := F.called_set.made
  have sbt := F.called_set.sub
  refine wpAny_call (codeAny_of_tree ?_)
  show wpAny _ _ (callAny (.type "set") _) _ _ _
  refine wpAny_pure ⟨Code.quiet_builtin _ (by decide +kernel), codeAny_builtin F.entry_type_call ?_⟩
  rw [Around.under_plain (weight_type_call_type "set" [.ref l] []) rfl]
  have h1 := F.called_set.notType
  have h2 := F.called_set.canCreate
  have tyc := F.typeCall_set_1 (.ref l)
  repeat (any_goals (first | assumption | wp_step))
  refine codeAny_mono (code_set_new_1 (.ref l) (E := E) (Q₁ := fun obj sd => ∃ led : Bool, obj = .ref s.heap.objs.size ∧ sd = { s with heap := s.heap.push { cls := .type "set", dict := none, data := .set #[] 0 (.fresh 0 0 led) } }) fun led => ⟨led, rfl, rfl⟩) fun r sd hr => ?_
  cases r with
  | error e => exact hr
  | ok fl =>
    cases fl with
    | ret obj =>
      obtain ⟨led, rfl, rfl⟩ := hr
      have hS : (s.heap.push { cls := .type "set", dict := none, data := .set #[] 0 (.fresh 0 0 led) }).get? s.heap.objs.size = some { cls := .type "set", dict := none, data := .set #[] 0 (.fresh 0 0 led) } := Heap.get?_push_size _ rfl
      have hT : Shared.TypeIs { s with heap := s.heap.push { cls := .type "set", dict := none, data := .set #[] 0 (.fresh 0 0 led) } } (.ref s.heap.objs.size) "set" := ⟨_, hS, rfl⟩
      have lk1 := F.called_set.init.lookup
      have bd1 := F.called_set.init.bind (.ref s.heap.objs.size)
      repeat (any_goals (first | assumption | wp_step))
      refine codeAny_mono (codeAny_call_builtin (R := wants (fun r sc => r = .none ∧ ∃ h' tk, sc = { s with heap := h', toks := tk } ∧
          h'.SetOf (strKind prog w) s.heap.objs.size (fun k => decide (k ∈ xs)) (metS xs).length ∧
          (∀ b o, b < s.heap.objs.size → s.heap.get? b = some o → h'.get? b = some o)) E) F.called_set.init.plain F.entry_set_init (check_set_init_1 hT ?_)) fun rb sc rq => ?_
      · obtain ⟨ol, ol1, cl1, nl, dl1⟩ := hl
        obtain ⟨ca, cb, cc, ce⟩ := ol
        simp only at cl1 dl1
        subst cl1; subst dl1
        have ol2 : (s.heap.push { cls := .type "set", dict := none, data := .set #[] 0 (.fresh 0 0 led) }).get? l = some { cls := .type "list", dict := cb, data := .seq items nl, slots := ce } := Heap.get?_push_of_some _ ol1
        have sl1 := F.sub_list_set
        have sl2 := F.sub_list_frozenset
        have hne : (Value.type "list" == Value.type "dict") = false := by decide
        have hl1 : (s.heap.push { cls := .type "set", dict := none, data := .set #[] 0 (.fresh 0 0 led) }).IsList l items := ⟨_, ol2, rfl, nl, rfl⟩
        unfold Builtin.«set.__init__» noKeywords Builtin.Frozenset.updateFrom
        generalize hPI : pyIter = PI
        wp_walk
        subst hPI
        refine wpAny_pyIter_list hl1 ?_
        refine wpAny_bind (wpAny_runValue ?_)
        have lS : l < s.heap.objs.size := Heap.lt_size ol1
        have hh3 : A.in1.in1.in1.handled = none := by simp [hh]
        have hneI : l ≠ (s.heap.push { cls := .type "set", dict := none, data := .set #[] 0 (.fresh 0 0 led) }).objs.size := by
          rw [Heap.size_push]; exact Nat.ne_of_lt (Nat.lt_succ_of_lt lS)
        have hSf : s.heap.objs.size ∉ [(s.heap.push { cls := .type "set", dict := none, data := .set #[] 0 (.fresh 0 0 led) }).objs.size, l] := by
          rw [Heap.size_push]; simp only [List.mem_cons, List.mem_singleton, List.not_mem_nil, or_false, not_or]
          exact ⟨Nat.ne_of_lt (Nat.lt_succ_self _), Nat.ne_of_gt lS⟩
        refine Sx.loopS ((Walks.list hh3 _ l hneI items).toS) s.heap.objs.size hSf xs hds hz (items.size - 0) 0 _ (by omega) (Nat.zero_le _)
          ⟨⟨_, Heap.get?_push_size _ rfl, rfl, rfl⟩, (hl1.extBut (b := (s.heap.push { cls := .type "set", dict := none, data := .set #[] 0 (.fresh 0 0 led) }).objs.size) (fun b o _ e => Heap.get?_push_of_some _ e) hneI)⟩ hi ?hS0 ?hR
        case hS0 =>
          have hget : ((s.heap.push { cls := .type "set", dict := none, data := .set #[] 0 (.fresh 0 0 led) }).push { cls := .type "list_iterator", data := .fields #[.ref l, .int 0 0] }).get? s.heap.objs.size = some { cls := .type "set", dict := none, data := .set #[] 0 (.fresh 0 0 led) } := Heap.get?_push_of_some _ hS
          exact PyProof.Rows.SetOf_congr ((PyProof.Rows.setObjOf_fresh (knd := strKind prog w) led).setOf hget (by unfold scanBound; omega)) (fun _ => by simp) rfl
        case hR =>
          intro s' hm hS'
          obtain ⟨h', g', d', tk', os'⟩ := s'
          have eg : g' = s.gens := hm.gens
          have ed : d' = s.drawn := hm.drawn
          have eo : os' = s.os := hm.os
          subst eg; subst ed; subst eo
          show wpAny _ _ _ _ _ _
          refine wpAny_pure ?_
          show wpAny _ _ (ret Value.none) _ _ _
          refine wpAny_pure ⟨rfl, h', tk', rfl, hS', fun b o hb e => ?_⟩
          have hb1 : b ≠ s.heap.objs.size := Nat.ne_of_lt hb
          have hb2 : b ≠ (s.heap.push { cls := .type "set", dict := none, data := .set #[] 0 (.fresh 0 0 led) }).objs.size := by
            rw [Heap.size_push]; exact Nat.ne_of_lt (Nat.lt_succ_of_lt hb)
          exact hm.heap b o (by simp only [List.mem_cons, List.mem_singleton, List.not_mem_nil, or_false, not_or]; exact ⟨hb1, hb2⟩) (Heap.get?_push_of_some _ (Heap.get?_push_of_some _ e))
      · cases rb with
        | error e => exact rq
        | ok fb =>
          cases fb with
          | ret r =>
            obtain ⟨rfl, h', tk, rfl, hS', kk2⟩ := rq
            repeat (any_goals (first | assumption | wp_step))
            exact h _ _ hS' kk2
          | _ => exact rq.elim
    | _ => exact hr.elim
end
end PySem
set_option maxRecDepth 100000
set_option maxHeartbeats 4000000
namespace L2
open PySem PySem.Spec PyProof.Rows
variable {X : Cx}
/-- set(l) of a list of texts -/
def rSetSL (K : PySem.W.Frag) : List V → Hp → VK → Prop := fun xs H Q => ∃ (a : Addr) (ys : List Str), xs = [.ref a] ∧ SqL K H a (ys.map V.str) ∧ ys.length ≤ 100 ∧ ∀ p, H p = none → Q (.ref p) (upd H p (setOS p (metS ys).length))
theorem call_setSL (hcalm : X.calm = true) : CallR X (.type "set") (rSetSL X.K) := by
  intro pins s σ H xs us Q I r q
  obtain ⟨a, ys, rfl, hq, hz, q⟩ := q
  obtain ⟨u, rfl, rx⟩ := vals1 r
  cases rx
  obtain ⟨its, rv, pl, hsz⟩ := I.list hq
  have lv := rv.length
  rw [List.length_map] at lv
  refine clSetSL (items := its.toArray) (xs := ys) (I.ok.hd hcalm) pl.isList (by simp; omega) (by unfold scanBound; simp; omega) (fun j v hv => ?_) fun h' tk hS k => ?_
  · have hv : its[j]? = some v := by simpa using hv
    have hj : j < ys.length := by have := (List.getElem?_eq_some_iff.mp hv).1; omega
    obtain ⟨u, hu, rl⟩ := rv.get (i := j) (x := V.str ys[j]) (by rw [List.getElem?_map, List.getElem?_eq_getElem hj]; rfl)
    rw [hv] at hu
    cases hu
    obtain ⟨t, rfl⟩ := rl
    exact ⟨_, t, List.getElem?_eq_getElem hj, rfl⟩
  · have hn : H s.heap.objs.size = none := I.hok.fresh (Nat.le_refl _)
    refine ⟨.ref s.heap.objs.size, upd H s.heap.objs.size (setOS s.heap.objs.size (metS ys).length), I.laid (t' := tk) (fun b o e => k b o (Heap.lt_size e) e) (Nat.le_refl _) ?_, rfl, q _ hn⟩
    have sl : SetLenS s.heap.objs.size (metS ys).length h' := by
      obtain ⟨o, es, ep, t, ho, hex, hd, hel, hmem, hb, hf, hn⟩ := hS
      exact ⟨o, es, ep, t, ho, hex, hd, hf, hn⟩
    refine ⟨sl, ?_, fun h1 h2 x g => ?_⟩
    · obtain ⟨o, _, _, _, ho, _⟩ := sl
      exact ⟨o, ho⟩
    · obtain ⟨o, es, ep, t, ho, z⟩ := x
      exact ⟨o, es, ep, t, g o ho, z⟩
end L2
set_option Elab.async false
set_option linter.all false
set_option maxRecDepth 100000
set_option maxHeartbeats 4000000
namespace L2
open PySem PySem.Spec PyProof.Rows
section
variable {X : Cx}
def OddV (H0 H : Hp) (v : V) : Prop := v = .non ∨ (∃ b, v = .bl b) ∨ (∃ i : Int, v = .int i ∧ i.natAbs ≤ 1000) ∨ (∃ x : Str, v = .str x ∧ x.length ≤ 100) ∨ ∃ a, v = .ref a ∧ H0 a = none ∧ (H a = some (.tup []) ∨ H a = some (.lst []) ∨ H a = some (.dK []))
theorem OddV.same {H0 H H' : Hp} {v : V} (h : OddV H0 H v) (s : Same H H') : OddV H0 H' v := by
  rcases h with h | h | h | h | ⟨a, h1, h2, h3⟩
  · exact .inl h
  · exact .inr (.inl h)
  · exact .inr (.inr (.inl h))
  · exact .inr (.inr (.inr (.inl h)))
  · refine .inr (.inr (.inr (.inr ⟨a, h1, h2, ?_⟩)))
    rcases h3 with h | h | h
    · exact .inl (s _ _ h)
    · exact .inr (.inl (s _ _ h))
    · exact .inr (.inr (s _ _ h))
end
end L2
namespace My
open PySem L2 TL
/-- something of any form stands there -/
def LE (k : Addr) (H : Hp) (v : V) : Prop := ∃ d, Lay k H v d
theorem LE.same {k : Addr} {H H' : Hp} {v : V} (h : LE k H v) (s : Same H H') : LE k H' v := let ⟨d, l⟩ := h; ⟨d, l.same s⟩
theorem LE.but {k : Addr} {H H' : Hp} {v : V} {n : Nat} (h : LE k H v) (S : Sack H k n) (s : SameBut k H H') : LE k H' v := let ⟨d, l⟩ := h; let ⟨_, _, _, hk, _⟩ := S; ⟨d, l.keep s hk⟩
theorem LE.all {k : Addr} {H : Hp} : ∀ {vs : List V}, (∀ v ∈ vs, LE k H v) → ∃ ds, LayAll k H vs ds
  | [], _ => ⟨[], .nil⟩
  | v :: vs, h => let ⟨d, l⟩ := h v List.mem_cons_self; let ⟨ds, r⟩ := LE.all fun u hu => h u (List.mem_cons_of_mem _ hu); ⟨d :: ds, .cons l r⟩
theorem LE.tup {k : Addr} {H : Hp} {a : Addr} {vs : List V} (e : H a = some (.tup vs)) (h : ∀ v ∈ vs, LE k H v) : LE k H (.ref a) := let ⟨ds, r⟩ := LE.all h; ⟨.tup ds, .tup e r⟩
theorem LE.odd {k : Addr} {H0 H : Hp} {v : V} {n : Nat} (S : Sack H0 k n) (h : OddV H0 H v) : LE k H v := by
  rcases h with rfl | ⟨b, rfl⟩ | ⟨i, rfl, _⟩ | ⟨x, rfl, hx⟩ | ⟨a, rfl, h2, h3⟩
  · exact ⟨_, .non⟩
  · exact ⟨_, .bl b⟩
  · exact ⟨_, .int i⟩
  · exact ⟨_, .str x (by omega)⟩
  · have ne : a ≠ k := by obtain ⟨_, _, _, z, _⟩ := S; exact (ne_of_none z h2).symm
    rcases h3 with h | h | h
    · exact ⟨_, .tup h .nil⟩
    · exact ⟨_, .oth ne (.inl ⟨_, h⟩)⟩
    · exact ⟨_, .oth ne (.inr h)⟩
mutual
/-- of right things: small numbers, short texts, tuples of not too many -/
def small : PyData → Bool
  | .int i => decide (i.natAbs ≤ 1000)
  | .str x => decide (x.length ≤ 100) && PyData.strOk x
  | .tuple ds => decide (ds.length ≤ 500) && smalls ds
  | _ => false
def smalls : List PyData → Bool
  | [] => true
  | d :: ds => small d && smalls ds
end
mutual
theorem LE.tp {k : Addr} {H : Hp} : ∀ {v : V} {d : PyData}, Tp H v d → small d = true → LE k H v
  | _, _, .int i, _ => ⟨_, .int i⟩
  | _, _, .str x, h => ⟨_, .str x (Nat.le_trans (of_decide_eq_true (p := x.length ≤ 100) (by rw [small, Bool.and_eq_true] at h; exact h.1)) (by decide))⟩
  | _, _, .tup e r, h => LE.tup e (LE.tps r (by rw [small, Bool.and_eq_true] at h; exact h.2))
theorem LE.tps {k : Addr} {H : Hp} : ∀ {vs : List V} {ds : List PyData}, TpAll H vs ds → smalls ds = true → ∀ v ∈ vs, LE k H v
  | _, _, .nil, _, _, hv => nomatch hv
  | _, _, .cons a r, h, v, hv => by
    rw [smalls, Bool.and_eq_true] at h
    rcases List.mem_cons.mp hv with e | hv
    · subst e; exact LE.tp a h.1
    · exact LE.tps r h.2 v hv
end
theorem TpAll.length {H : Hp} : ∀ {vs : List V} {ds : List PyData}, TpAll H vs ds → vs.length = ds.length
  | _, _, .nil => rfl
  | _, _, .cons _ r => by rw [List.length_cons, List.length_cons, r.length]
end My
set_option Elab.async false
set_option linter.all false
set_option maxRecDepth 100000
set_option maxHeartbeats 4000000
namespace My
open PySem L2 TL
abbrev sRight : Stmt := top 48
abbrev sLaw : Stmt := top 49
abbrev Tabs (ts : List Addr) (H : Hp) : Prop := ∀ T ∈ ts, ∃ ps, H T = some (.ext (TabOk T ps))
theorem Tabs.same {ts : List Addr} {H H' : Hp} (h : Tabs ts H) (s : Same H H') : Tabs ts H' := fun T hT => let ⟨ps, e⟩ := h T hT; ⟨ps, s _ _ e⟩
theorem Tabs.but {ts : List Addr} {H H' : Hp} {k : Addr} {n : Nat} (h : Tabs ts H) (S : Sack H k n) (s : SameBut k H H') : Tabs ts H' := fun T hT => by
  obtain ⟨ps, e⟩ := h T hT
  obtain ⟨_, _, _, z, _⟩ := S
  exact ⟨ps, s _ _ e (fun y => by rw [y, z] at e; cases e)⟩
def spRight (ts : List Addr) : Sp := fun vs H Q _ => ∃ k : Addr, vs = [.ref k] ∧ Sack H k 0 ∧ Tabs ts H ∧ ∀ H', SameBut k H H' → Q (.bl true) H'
def spLaw (K : PySem.W.Frag) (ts : List Addr) : Sp := fun vs H Q _ => ∃ (a : Addr) (ns : List Int), vs = [.ref a] ∧ SqL K H a (ns.map V.int) ∧ ns.length ≤ 63 ∧ Tabs ts H ∧ ∀ H', Same H H' → Q (.bl true) H'
theorem cut_ints (ns : List Int) (j : Option Int) : ∃ ms : List Int, cutV (ns.map V.int) none j = ms.map V.int ∧ ms.length ≤ ns.length := by
  refine ⟨(ns.drop (HT.sIx (ns.map V.int).length 0 none)).take (HT.sIx (ns.map V.int).length (ns.map V.int).length j - HT.sIx (ns.map V.int).length 0 none), ?_, ?_⟩
  · unfold cutV
    rw [List.map_take, List.map_drop]
  · rw [List.length_take, List.length_drop]
    omega
section
variable {P : Program} {w : World} {K : PySem.W.Frag} {mg : Str → Option Value} {base : Heap}
theorem scLaw : FnScope ["script", "k", "cell"] ["script"] (defScope sLaw) := ⟨rfl, rfl, rfl, by decide +kernel, rfl, by decide +kernel, by decide +kernel⟩
theorem ok_law {ts : List Addr} {m : Nat} {f : Addr} {fd : FuncData} (F : Fun K "law" "law" sLaw f fd) (dS : Df K mg "_law_sack" sSack ["cell", "k"]) (dR : Df K mg "_law_right" sRight ["sack"]) (GR : FnOk P w K mg base CX0 (m + 1) dR.f dR.fd ["sack"] (spRight ts)) (B : Bl mg) : FnOk P w K mg base CX0 (m + 2) f fd ["script"] (spLaw K ts) := by
  have GS : FnOk P w K mg base CX0 1 dS.f dS.fd ["cell", "k"] spSack := ok_sack dS.F B.max
  refine F.ok scLaw (fun vs H Q E h => ?_) (fun cdv A outer s H vs Q E hr h => ?_)
  · obtain ⟨a, ns, rfl, _⟩ := h
    rfl
  · obtain ⟨a, ns, rfl, hS, hn, hTb, q⟩ := h
    have hr1 : Room 1 _ := hr.mono (by omega)
    refine ⟨_, pss_cons (ps_for PassesOwn.never rfl (pi_enum (by rfl) B.enum (pa_cons (pe_slice sl_list (pe_op op_catS (pv 0) (pe_lst (pa_cons pe_int pa_nil))) po_none
        (po_some (pe_callB (call_max2 rfl) (by rfl) B.max (by decide +kernel) (pa_cons pe_int (pa_cons (pe_callB (call_min2 rfl) (by rfl) B.min (by decide +kernel) (pa_cons (pe_callB call_len_seq (by rfl) B.len PySem.boot_len (pa_cons (pv 0) pa_nil)) (pa_cons pe_int pa_nil))) pa_nil))))) pa_nil))
        (pg_tup (by rfl) (pgs_cons (pg_name (i := 1) scLaw.nd rfl (Or.inl rfl)) (pgs_cons (pg_name (i := 2) scLaw.nd rfl (Or.inl rfl)) pgs_nil)))
        (pss_one (ps_if (pt_not (pt_val (pe_call GR hr rfl dR.m dR.F.kp dR.b .nil pass0 (pa_cons (pe_call GS hr1 rfl dS.m dS.F.kp dS.b .nil pass0 (pa_cons (pv 2) (pa_cons (pv 1) pa_nil))) pa_nil)))) (pss_one (ps_ret pe_bl)) pss_nil)))
      (pss_one (ps_ret pe_bl)), ?_⟩
    have hln : (ns.map V.int).length = ns.length := List.length_map _
    refine ⟨_, rfl, (by show 1 ≤ sizeLine; decide), fun p hp => ?_⟩
    have s1 := same_new hp (.lst [V.int 0])
    refine ⟨a, p, _, _, rfl, rfl, s1.seq hS, SqL.of upd_same, (by rw [hln]; exact Nat.le_of_lt (small1000 (by show ns.length + 1 ≤ 1000; omega))), fun p2 hp2 => ?_⟩
    have s2 := s1.trans (same_new hp2 (.lst (ns.map V.int ++ [V.int 0])))
    refine ⟨_, rfl, a, _, rfl, .inl (s2.seq hS), _, _, rfl, _, _, rfl, _, rfl, p2, _, rfl, SqL.of upd_same, fun C hC => ?_⟩
    have em : ns.map V.int ++ [V.int 0] = (ns ++ [0]).map V.int := by rw [List.map_append]; rfl
    have s3 := s2.trans (same_new hC (.lst (cutV (ns.map V.int ++ [V.int 0]) none (some (if (if (24 : Int) < ((ns.map V.int).length : Int) then 24 else ((ns.map V.int).length : Int)) > 1 then (if (24 : Int) < ((ns.map V.int).length : Int) then 24 else ((ns.map V.int).length : Int)) else 1)))))
    rw [em] at s3 ⊢
    obtain ⟨ms, hms, hml⟩ := cut_ints (ns ++ [0]) (some (if (if (24 : Int) < ((ns.map V.int).length : Int) then 24 else ((ns.map V.int).length : Int)) > 1 then (if (24 : Int) < ((ns.map V.int).length : Int) then 24 else ((ns.map V.int).length : Int)) else 1))
    rw [List.length_append] at hml
    have hml : ms.length ≤ ns.length + 1 := hml
    rw [hms] at s3 ⊢
    refine ⟨C, _, rfl, SqL.of upd_same, for_enum (K := K) (a := C) (xs := ms.map V.int) (fun i σ H' => ∃ v1 v2, σ = [some (.ref a), v1, v2] ∧ H' C = some (.lst (ms.map V.int)) ∧ Same H H') ⟨none, none, rfl, upd_same, s3⟩ (fun i σ H' _ y => by obtain ⟨_, _, _, y, _⟩ := y; exact SqL.of y) ?_ ?_⟩
    · rintro i x σ H' T hx ⟨v1, v2, rfl, hC', s4⟩ hT
      have hi := (List.getElem?_eq_some_iff.mp hx).1
      rw [List.length_map] at hi
      obtain ⟨c, rfl⟩ : ∃ c, x = V.int c := by
        obtain ⟨c, _, e⟩ := List.mem_map.mp (List.mem_of_getElem? hx)
        exact ⟨c, e.symm⟩
      have sT := same_new hT (.tup [V.int (i : Nat), V.int c])
      refine ⟨T, _, rfl, SqT.of upd_same, rfl, _, _, rfl, _, _, rfl, rfl, ?_⟩
      refine ⟨_, rfl, _, rfl, c, (i : Nat), rfl, by omega, by omega, fun k H2 hk s2 Sk => ?_⟩
      have s5 : Same H' H2 := sT.trans s2
      refine ⟨k, rfl, Sk, hTb.same (s4.trans s5), fun H3 kp => ⟨_, rfl, iteF ?_⟩⟩
      exact ⟨_, _, rfl, kp _ _ (s2 _ _ (sT _ _ hC')) (ne_of_none (sT _ _ hC') hk), fun b o e => kp _ _ (s5 _ _ (s4 _ _ e)) (ne_of_none (sT _ _ (s4 _ _ e)) hk)⟩
    · rintro σ H' ⟨v1, v2, rfl, _, s4⟩
      exact q H' s4
end
end My
set_option Elab.async false
set_option linter.all false
set_option maxRecDepth 100000
set_option maxHeartbeats 4000000
namespace L2
open PySem PySem.Spec PyProof.Rows
theorem all_false_at {α : Type} {f : α → Bool} {l : List α} {i : Nat} {x : α} (hx : l[i]? = some x) (hf : f x = false) : l.all f = false := by
  cases h : l.all f with
  | false => rfl
  | true =>
    have := List.all_eq_true.mp h x (List.mem_of_getElem? hx)
    rw [hf] at this; cases this
/-- all(elt for x in z), z a text -/
theorem all_str {P : Addr} {z : Str} {te : TE} {vs : List Nat} {j : Nat} {σ : St} {H : Hp} {Q : VK} (hP : ∃ ps, H P = some (.ext (TabOk P ps))) (f : Nat → Bool)
    (hw : ∀ x, wipe ((wipe σ vs).set j (some x)) vs = wipe σ vs)
    (hel : ∀ (c : Nat) (Q' : VK), Q' (.bl (f c)) H → te ((wipe σ vs).set j (some (.str ⟨#[c]⟩))) H Q') (q : Q (.bl (z.cps.toList.all f)) H) :
    (∃ ps, H P = some (.ext (TabOk P ps))) ∧ ∃ W : Nat → Nat → Hp → Prop, (∃ m, W 0 m H) ∧ ∀ i m H, W i m H →
      ((Its z).stop i H ∧ Q (.bl true) H) ∨ ((Its z).go i H ∧ ∃ Nx : Hp → Prop, (∀ H', Nx H' → ∃ m', m' < m ∧ W (i + 1) m' H') ∧ ∀ x H', (Its z).yld i H x H' → gName j x (wipe σ vs) H' fun σ2 H2 => wipe σ2 vs = wipe σ vs ∧
        te σ2 H2 fun y H3 => ∃ b, y = .bl b ∧ if b = true then Nx H3 else Q (.bl (!true)) H3) := by
  refine ⟨hP, fun i m H' => H' = H ∧ m + i = z.cps.size ∧ (z.cps.toList.take i).all f = true, ⟨z.cps.size, rfl, rfl, rfl⟩, ?_⟩
  rintro i m H' ⟨rfl, hm, hf⟩
  by_cases hi : i < z.cps.size
  · have hc : z.cps.toList[i]? = some z.cps[i] := by rw [Array.getElem?_toList]; exact Array.getElem?_eq_getElem hi
    have nx : ∀ H2, (H2 = H' ∧ f z.cps[i] = true) → ∃ m', m' < m ∧ H2 = H' ∧ m' + (i + 1) = z.cps.size ∧ (z.cps.toList.take (i + 1)).all f = true := fun H2 ⟨e, ef⟩ => ⟨m - 1, by omega, e, by omega, by
      rw [List.take_add_one, List.all_append, hf, hc]
      simp [ef]⟩
    refine .inr ⟨hi, fun H2 => H2 = H' ∧ f z.cps[i] = true, nx, ?_⟩
    rintro x H2 ⟨rfl, c, hc', rfl⟩
    have ec : c = z.cps[i] := by rw [Array.getElem?_eq_getElem hi] at hc'; exact (Option.some.inj hc').symm
    subst ec
    refine ⟨hw _, hel _ _ ⟨f z.cps[i], rfl, ?_⟩⟩
    by_cases e : f z.cps[i] = true
    · rw [if_pos e]; exact ⟨rfl, e⟩
    · rw [if_neg e]
      rw [all_false_at hc (by simpa using e)] at q
      exact q
  · have hl : z.cps.toList.length ≤ i := by rw [Array.length_toList]; omega
    rw [List.take_of_length_le hl] at hf
    refine .inl ⟨Nat.le_of_not_lt hi, ?_⟩
    rw [hf] at q
    exact q
theorem tq_tup {K : PySem.W.Frag} {P a : Addr} {xs : List V} {te ti : TE} {vs : List Nat} {j : Nat} {σ : St} {H : Hp} {Q : VK} (hti : ∀ R : VK, R (.ref a) H → ti σ H R) (hS : SqT K H a xs) (hP : ∃ ps, H P = some (.ext (TabOk P ps))) (f : Nat → Bool)
    (hw : ∀ x, wipe ((wipe σ vs).set j (some x)) vs = wipe σ vs)
    (hel : ∀ (i : Nat) (x : V) (Q' : VK), xs[i]? = some x → Q' (.bl (f i)) H → te ((wipe σ vs).set j (some x)) H Q') (q : Q (.bl ((List.range xs.length).all f)) H) : tQG true P (iTup K ti) (gName j) te vs σ H Q :=
  hti _ ⟨a, rfl, ⟨xs, hS⟩, all_tup (Q := Q) hS hP f hw hel q⟩
theorem lc_str {z : Str} {g : TG} {tt : TT} {te : TE} {vs : List Nat} {σ : St} {H1 : Hp} {D : Addr} {Qd : Hp → Prop} (Pv : Nat → Hp → Prop) (h0 : Pv 0 (upd H1 D (.lst [])))
    (hs : ∀ i c H, z.cps[i]? = some c → Pv i H → g (.str ⟨#[c]⟩) (wipe σ vs) H fun σ2 H2 => wipe σ2 vs = wipe σ vs ∧ tt σ2 H2 fun b H3 =>
      if b = true then te σ2 H3 fun y H4 => ∃ acc, H4 D = some (.lst acc) ∧ acc.length < sizeLine ∧ Pv (i + 1) (upd H4 D (.lst (acc ++ [y]))) else Pv (i + 1) H3) (hd : ∀ H, Pv z.cps.size H → Qd H) :
    ∃ W : Nat → Nat → Hp → Prop, (∃ m, W 0 m (upd H1 D (.lst []))) ∧ ∀ i m H, W i m H →
      ((Its z).stop i H ∧ Qd H) ∨ ((Its z).go i H ∧ ∃ Nx : Hp → Prop, (∀ H', Nx H' → ∃ m', m' < m ∧ W (i + 1) m' H') ∧ ∀ x H', (Its z).yld i H x H' → g x (wipe σ vs) H' fun σ2 H2 => wipe σ2 vs = wipe σ vs ∧ tt σ2 H2 fun b H3 =>
        if b = true then te σ2 H3 fun y H4 => ∃ acc, H4 D = some (.lst acc) ∧ acc.length < sizeLine ∧ Nx (upd H4 D (.lst (acc ++ [y]))) else Nx H3) := by
  refine ⟨fun i m H => m = z.cps.size - i ∧ i ≤ z.cps.size ∧ Pv i H, ⟨z.cps.size, by simp, Nat.zero_le _, h0⟩, ?_⟩
  rintro i m H ⟨rfl, hi, p⟩
  by_cases hlt : i < z.cps.size
  · refine .inr ⟨hlt, Pv (i + 1), fun H' p' => ⟨z.cps.size - (i + 1), by omega, rfl, hlt, p'⟩, fun x H' y => ?_⟩
    obtain ⟨rfl, c, hc, rfl⟩ := y
    exact hs i c _ hc p
  · have e : i = z.cps.size := by omega
    subst e
    exact .inl ⟨Nat.le_refl _, hd H p⟩
/-- a list == the empty list -/
def rEqNil (K : PySem.W.Frag) : R2 := fun x y H Q => ∃ (a b : Addr) (xs : List V), x = .ref a ∧ y = .ref b ∧ SqL K H a xs ∧ SqL K H b [] ∧ Q (.bl xs.isEmpty) H
theorem op_eqNil {X : Cx} (hu : X.A.units + 64 < cLine) : OpR X (compareOp .Eq) (rEqNil X.K) := by
  intro pins s σ H x y v u Q I rx ry h
  obtain ⟨a, b, xs, rfl, rfl, h1, h2, q⟩ := h
  cases rx
  cases ry
  have hu' : X.A.units < cLine := by omega
  obtain ⟨its, r1, p1, _⟩ := I.list h1
  obtain ⟨jts, r2, p2, _⟩ := I.list h2
  cases r2
  cases r1 with
  | nil => exact SeqAt.RcAt.lists (e := fun _ => true) p1.isList p2.isList rfl hu' (fun j h1 h2 => absurd h1 (Nat.not_lt_zero _)) X.prog X.w X.xe _ ⟨.bl true, H, I, rfl, q⟩
  | cons _ _ => exact SeqAt.RcAt.lists_lengths p1.isList p2.isList (by simp) hu' X.prog X.w X.xe _ ⟨.bl false, H, I, rfl, q⟩
end L2
namespace My
open PySem L2 TL
abbrev sIsName : Stmt := top 17
abbrev sAreRegs : Stmt := top 27
abbrev sIsMachine : Stmt := top 26
def lettersS : Str := "abcdefghijklmnopqrstuvwxyz"
def okC (c : Nat) : Bool := decide (c ∈ lettersS.cps.toList)
def nameD : Dt → Bool
  | .str x => decide (1 ≤ x.length) && decide (x.length ≤ 8) && x.cps.toList.all okC
  | _ => false
def txtD : Dt → Str
  | .str x => x
  | _ => ""
def regsD : Dt → Bool
  | .tup ds => decide (1 ≤ ds.length) && decide (ds.length ≤ 6) && ds.all nameD && decide ((metS (ds.map txtD)).length = ds.length)
  | _ => false
def limD : Dt → Int
  | .int b => 2 ^ b.toNat
  | _ => 0
def machD : Dt → Bool
  | .tup [b, r, h, a, m, c] => betwD 1 8 b && regsD r && betwD 1 3 a && betwD 1 3 m && betwD 0 12 h && betwD 0 (limD b) c
  | _ => false
structure Cs (mg : Str → Option Value) : Prop where
  L : ∃ t, mg "LETTERS" = some (.str lettersS t)
  ML : ∃ t, mg "MOST_LETTERS" = some (.int 8 t)
  MB : ∃ t, mg "MOST_BITS" = some (.int 8 t)
  MR : ∃ t, mg "MOST_REGISTERS" = some (.int 6 t)
  MH : ∃ t, mg "MOST_HIDDEN" = some (.int 12 t)
  MU : ∃ t, mg "MOST_UNITS" = some (.int 3 t)
abbrev Tab (T : Addr) (H : Hp) : Prop := ∃ ps, H T = some (.ext (TabOk T ps))
def spIsName (T : Addr) : Sp := fun vs H Q _ => ∃ (v : V) (k : Addr) (d : Dt), vs = [v] ∧ Lay k H v d ∧ Tab T H ∧ Q (.bl (nameD d)) H
def spAreRegs (T T2 : Addr) : Sp := fun vs H Q _ => ∃ (v : V) (k : Addr) (d : Dt), vs = [v] ∧ Lay k H v d ∧ Tab T H ∧ Tab T2 H ∧ ∀ H', Same H H' → Q (.bl (regsD d)) H'
def spIsMachine (T T2 : Addr) : Sp := fun vs H Q _ => ∃ (v : V) (k : Addr) (d : Dt), vs = [v] ∧ Lay k H v d ∧ Tab T H ∧ Tab T2 H ∧ ∀ H', Same H H' → Q (.bl (machD d)) H'
def spLimB : Sp := fun vs H Q _ => ∃ (p : Addr) (b : Int) (xs : List V), vs = [.ref p] ∧ H p = some (.tup (.int b :: xs)) ∧ 0 ≤ b ∧ b ≤ 8 ∧ Q (.int (2 ^ b.toNat)) H
theorem names_txt {k : Addr} {H : Hp} : ∀ {xs : List V} {ds : List Dt}, LayAll k H xs ds → ds.all nameD = true → xs = (ds.map txtD).map V.str
  | _, _, .nil, _ => rfl
  | _, _, .cons a r, h => by
    rw [List.all_cons, Bool.and_eq_true] at h
    rw [names_txt r h.2]
    cases a with
    | str x _ => rfl
    | _ => cases h.1
theorem LayAll.six {k : Addr} {H : Hp} {vs : List V} {ds : List Dt} (h : LayAll k H vs ds) (e : ds.length = 6) : ∃ x1 x2 x3 x4 x5 x6 d1 d2 d3 d4 d5 d6, vs = [x1, x2, x3, x4, x5, x6] ∧ ds = [d1, d2, d3, d4, d5, d6] ∧ Lay k H x1 d1 ∧ Lay k H x2 d2 ∧ Lay k H x3 d3 ∧ Lay k H x4 d4 ∧ Lay k H x5 d5 ∧ Lay k H x6 d6 := by
  match ds, e with
  | [d1, d2, d3, d4, d5, d6], _ =>
    cases h with | cons a1 h => cases h with | cons a2 h => cases h with | cons a3 h => cases h with | cons a4 h => cases h with | cons a5 h => cases h with | cons a6 h =>
      cases h
      exact ⟨_, _, _, _, _, _, _, _, _, _, _, _, rfl, rfl, a1, a2, a3, a4, a5, a6⟩
theorem machD_no {d : Dt} (h : tupOfD 6 d = false) : machD d = false := by
  cases d with
  | tup ds =>
    match ds, h with
    | [], _ => rfl
    | [_], _ => rfl
    | [_, _], _ => rfl
    | [_, _, _], _ => rfl
    | [_, _, _, _], _ => rfl
    | [_, _, _, _, _], _ => rfl
    | [_, _, _, _, _, _], h => cases h
    | _ :: _ :: _ :: _ :: _ :: _ :: _ :: _, _ => rfl
  | _ => rfl
abbrev NIN : List Str := ["thing", "sign"]
abbrev NAR : List Str := ["thing", "name"]
abbrev NIM : List Str := ["thing", "bits", "registers", "hidden", "alus", "moves", "cells"]
structure DfM (K : PySem.W.Frag) (mg : Str → Option Value) where
  T : Df K mg "is_tuple_of" sTupleOf ["thing", "many"]
  W : Df K mg "is_whole" sWhole ["thing"]
  B : Df K mg "is_between" sBetween ["thing", "low", "high"]
  L : Df K mg "word_limit" sLimit ["machine"]
  N : Df K mg "is_name" sIsName ["thing"]
  R : Df K mg "are_registers" sAreRegs ["thing"]
section
variable {P : Program} {w : World} {K : PySem.W.Frag} {mg : Str → Option Value} {base : Heap}
theorem scIsName : FnScope NIN ["thing"] (defScope sIsName) := ⟨rfl, rfl, rfl, by decide +kernel, rfl, by decide +kernel, by decide +kernel⟩
theorem scAreRegs : FnScope NAR ["thing"] (defScope sAreRegs) := ⟨rfl, rfl, rfl, by decide +kernel, rfl, by decide +kernel, by decide +kernel⟩
theorem scIsMachine : FnScope NIM ["thing"] (defScope sIsMachine) := ⟨rfl, rfl, rfl, by decide +kernel, rfl, by decide +kernel, by decide +kernel⟩
theorem ok_limB {f : Addr} {fd : FuncData} (F : Fun K "word_limit" "word_limit" sLimit f fd) : FnOk P w K mg base CX0 1 f fd ["machine"] spLimB := by
  refine F.ok scLimit (fun vs H Q E h => ?_) (fun cdv A outer s H vs Q E hr1 h => ?_)
  · obtain ⟨p, b, xs, rfl, _⟩ := h
    rfl
  · obtain ⟨p, b, xs, rfl, hp, h0, h8, q⟩ := h
    refine ⟨_, pss_one (ps_ret (pe_op op_shl pe_int (pe_ix ix_tup (pv 0) pe_int (fun _ _ => rfl)))), ?read⟩
    case read =>
      refine ⟨_, rfl, p, _, _, _, rfl, rfl, SqT.of hp, at_of (j := 0) rfl rfl, _, _, rfl, rfl, ⟨by omega, by omega, by decide⟩, ?_⟩
      show Q (.int (1 * 2 ^ b.toNat)) H
      rw [Int.one_mul]; exact q
theorem ok_isName {T : Addr} {f : Addr} {fd : FuncData} (F : Fun K "is_name" "is_name" sIsName f fd) (C : Cs mg) (gk : GenK base mg fd.code T) (B : Bl mg) : FnOk P w K mg base CX0 2 f fd ["thing"] (spIsName T) := by
  obtain ⟨_, hL⟩ := C.L
  obtain ⟨_, hML⟩ := C.ML
  refine F.okC scIsName (fun vs H Q E h => ?_) (fun cdv hcv A outer s H vs Q E hr1 h => ?_)
  · obtain ⟨v, k, d, rfl, _⟩ := h
    rfl
  · obtain ⟨v, k, d, rfl, hl, hP, q⟩ := h
    refine ⟨_, pss_cons (ps_if (PW.pt (pw_or (pt_not (pt_val (pe_callB call_isStr (by rfl) B.isi (by decide +kernel) (pa_cons (pv 0) (pa_cons (pe_bltn (v := .ty "str") (by rfl) B.str (by decide +kernel) rfl) pa_nil))))) (pw_or1 (pt_not (pt_chain op_le op_le pe_int (pe_callB call_len_str (by rfl) B.len PySem.boot_len (pa_cons (pv 0) pa_nil)) (pe_glob (v := .int 8) (by rfl) hML ⟨_, rfl⟩)))))) (pss_one (ps_ret pe_bl)) pss_nil) (pss_one (ps_ret (pe_allG rfl scIsName.nd hr1 (by rfl) B.all (by decide +kernel) (hcv ▸ gk) (pi_str (pv 0)) (blkOk_by (own := [("sign", 1)]) (N := NIN) (sc := defScope sIsName) (by decide +kernel)) ⟨rfl, by decide +kernel, rfl⟩ (fun _ _ _ _ _ _ _ _ => pg_name (i := 1) scIsName.nd rfl (Or.inl rfl)) (fun _ _ _ _ _ _ _ _ => pe_cmpR op_in_sign (pv 1) (pe_glob (v := .str lettersS) (by rfl) hL ⟨_, rfl⟩) (by rfl))))), ?read⟩
    case read =>
      have no : nameD d = false → Q (.bl false) H := fun e => by rw [e] at q; exact q
      refine ⟨_, rfl, v, k, d, rfl, hl, _, rfl, iteB (fun h1 => iteT ?_) (fun h1 => ?_)⟩
      · exact no (by cases d <;> first | rfl | cases h1)
      have h1 : isStrD d = true := by simpa using h1
      cases hl with
      | str x hx =>
        have hs : x.length ≤ sizeLine := Nat.le_trans hx (by decide)
        refine ⟨_, rfl, x, rfl, hs, _, _, rfl, rfl, _, rfl, iteB (fun h2 => ?_) (fun h2 => ?_)⟩
        · have h2 : 1 ≤ x.length := by
            have : (1 : Int) ≤ x.length := by simpa using h2
            omega
          refine ⟨_, _, rfl, rfl, _, rfl, iteB (fun h3 => ?_) (fun h3 => ?_)⟩
          · refine no ?_
            have h3 : ¬ (x.length ≤ 8) := by
              have : ¬ ((x.length : Int) ≤ 8) := by simpa using h3
              omega
            simp [nameD, h3]
          · have h3 : x.length ≤ 8 := by
              have : (x.length : Int) ≤ 8 := by simpa using h3
              omega
            refine ⟨_, rfl, x, rfl, all_str hP okC (fun x => rfl) (fun c Q' qq => ?_) ?_⟩
            · exact ⟨_, rfl, c, lettersS, rfl, rfl, qq⟩
            · have e : nameD (.str x) = x.cps.toList.all okC := by simp [nameD, h2, h3]
              rw [e] at q; exact q
        · refine ⟨_, rfl, ?_⟩
          have h2 : ¬ (1 ≤ x.length) := by
            have : ¬ ((1 : Int) ≤ x.length) := by simpa using h2
            omega
          exact no (by simp [nameD, h2])
      | _ => cases h1
theorem ok_areRegs {T T2 : Addr} {f : Addr} {fd : FuncData} (F : Fun K "are_registers" "are_registers" sAreRegs f fd) (dN : Df K mg "is_name" sIsName ["thing"]) (C : Cs mg) (gk : GenK base mg dN.fd.code T) (gk2 : GenK base mg fd.code T2) (B : Bl mg) : FnOk P w K mg base CX0 4 f fd ["thing"] (spAreRegs T T2) := by
  obtain ⟨_, hMR⟩ := C.MR
  have GN : FnOk P w K mg base CX0 2 dN.f dN.fd ["thing"] (spIsName T) := ok_isName dN.F C gk B
  refine F.okC scAreRegs (fun vs H Q E h => ?_) (fun cdv hcv A outer s H vs Q E hr1 h => ?_)
  · obtain ⟨v, k, d, rfl, _⟩ := h
    rfl
  · obtain ⟨v, k, d, rfl, hl, hP, hP2, q⟩ := h
    refine ⟨_, pss_cons (ps_if (PW.pt (pw_or (pt_not (pt_val (pe_callB call_isTup (by rfl) B.isi (by decide +kernel) (pa_cons (pv 0) (pa_cons (pe_bltn (v := .ty "tuple") (by rfl) B.tup (by decide +kernel) rfl) pa_nil))))) (pw_or1 (pt_not (pt_chain op_le op_le pe_int (pe_callB call_len_seq (by rfl) B.len PySem.boot_len (pa_cons (pv 0) pa_nil)) (pe_glob (v := .int 6) (by rfl) hMR ⟨_, rfl⟩)))))) (pss_one (ps_ret pe_bl)) pss_nil) (pss_cons (ps_if (pt_not (pt_val (pe_allG rfl scAreRegs.nd hr1 (by rfl) B.all (by decide +kernel) (hcv ▸ gk2) (pi_tup (pv 0)) (blkOk_by (own := [("name", 1)]) (N := NAR) (sc := defScope sAreRegs) (by decide +kernel)) ⟨rfl, by decide +kernel, rfl⟩ (fun _ _ _ _ _ _ _ _ => pg_name (i := 1) scAreRegs.nd rfl (Or.inl rfl)) (fun _ _ _ _ _ _ _ hr2 => pe_call GN hr2 rfl dN.m dN.F.kp dN.b .nil pass0 (pa_cons (pv 1) pa_nil))))) (pss_one (ps_ret pe_bl)) pss_nil) (pss_one (ps_ret (pe_cmpR op_eq (pe_callB call_lenSS (by rfl) B.len PySem.boot_len (pa_cons (pe_callTy (call_setS rfl) (by rfl) B.set (by decide +kernel) (pa_cons (pv 0) pa_nil)) pa_nil)) (pe_callB call_len_seq (by rfl) B.len PySem.boot_len (pa_cons (pv 0) pa_nil)) (nomark _))))), ?read⟩
    case read =>
      have no : regsD d = false → ∀ H', Same H H' → Q (.bl false) H' := fun e H' sm => by have := q H' sm; rw [e] at this; exact this
      refine ⟨_, rfl, v, k, d, rfl, hl, _, rfl, iteB (fun h1 => iteT ?_) (fun h1 => ?_)⟩
      · exact no (by cases d <;> first | rfl | cases h1) H fun _ _ e => e
      have h1 : isTupD d = true := by simpa using h1
      cases hl with
      | @tup a xs ds e r =>
        have hlen : xs.length = ds.length := r.length
        refine ⟨_, rfl, a, xs, rfl, .inr (SqT.of e), _, _, rfl, rfl, _, rfl, iteB (fun h2 => ?_) (fun h2 => ?_)⟩
        · have h2 : 1 ≤ ds.length := by
            have : (1 : Int) ≤ xs.length := by simpa using h2
            omega
          refine ⟨_, _, rfl, rfl, _, rfl, iteB (fun h3 => ?_) (fun h3 => ?_)⟩
          · refine no ?_ H fun _ _ e => e
            have h3 : ¬ (ds.length ≤ 6) := by
              have : ¬ ((xs.length : Int) ≤ 6) := by simpa using h3
              omega
            simp [regsD, h3]
          · have h3 : ds.length ≤ 6 := by
              have : (xs.length : Int) ≤ 6 := by simpa using h3
              omega
            dsimp only [tNext, tSeq, tIfS, tNot, tB]
            refine tq_tup (K := K) (a := a) (xs := xs) (fun R hR => ⟨_, rfl, hR⟩) (SqT.of e) hP2 (fun i => nameD (ds.getD i .non)) (fun x => rfl) (fun i x Q' hx qq => ?_) ?_
            · obtain ⟨dx, hd, lx⟩ := r.get hx
              refine ⟨_, rfl, x, k, dx, rfl, lx, hP, ?_⟩
              have e : ds.getD i .non = dx := by rw [List.getD_eq_getElem?_getD, hd]; rfl
              rw [e] at qq
              exact qq
            · have z : ((List.range xs.length).all fun i => nameD (ds.getD i .non)) = ds.all nameD := by rw [hlen, all_getD]
              rw [z]
              refine ⟨_, rfl, iteB (fun h4 => ?_) (fun h4 => ?_)⟩
              · refine no ?_ H fun _ _ e => e
                have h4 : ds.all nameD = false := by simpa using h4
                show (_ && _ && ds.all nameD && _) = false
                rw [h4]; simp
              have h4 : ds.all nameD = true := by simpa using h4
              have ex := names_txt r h4
              refine ⟨_, rfl, a, ds.map txtD, rfl, SqT.of (by rw [← ex]; exact e), by rw [List.length_map]; omega, fun p hp => ?_⟩
              have sm := same_new hp (setOS p (metS (ds.map txtD)).length)
              have ml := metS_le (ds.map txtD)
              rw [List.length_map] at ml
              refine ⟨p, _, rfl, upd_same, by omega, _, rfl, a, xs, rfl, .inr (SqT.of (sm _ _ e)), rfl, ?_⟩
              have := q _ sm
              have eq : regsD (.tup ds) = decide (V.int ((metS (ds.map txtD)).length : Int) = V.int (xs.length : Int)) := by
                show (_ && _ && ds.all nameD && _) = _
                rw [h4, decide_eq_true h2, decide_eq_true h3, hlen]
                simp
                omega
              rw [eq] at this
              exact this
        · refine ⟨_, rfl, ?_⟩
          have h2 : ¬ (1 ≤ ds.length) := by
            have : ¬ ((1 : Int) ≤ xs.length) := by simpa using h2
            omega
          exact no (by simp [regsD, h2]) H fun _ _ e => e
      | _ => cases h1
theorem ok_isMachine {T T2 : Addr} {f : Addr} {fd : FuncData} (F : Fun K "is_machine" "is_machine" sIsMachine f fd) (D : DfM K mg) (C : Cs mg) (gk : GenK base mg D.N.fd.code T) (gk2 : GenK base mg D.R.fd.code T2) (B : Bl mg) : FnOk P w K mg base CX0 5 f fd ["thing"] (spIsMachine T T2) := by
  obtain ⟨_, hMB⟩ := C.MB
  obtain ⟨_, hMH⟩ := C.MH
  obtain ⟨_, hMU⟩ := C.MU
  have GT : FnOk P w K mg base CX0 4 D.T.f D.T.fd ["thing", "many"] spTupleOf := (ok_tupleOf D.T.F B).mono (by decide)
  have GB : FnOk P w K mg base CX0 4 D.B.f D.B.fd ["thing", "low", "high"] spBetween := (ok_between D.B.F D.W B).mono (by decide)
  have GL : FnOk P w K mg base CX0 4 D.L.f D.L.fd ["machine"] spLimB := (ok_limB D.L.F).mono (by decide)
  have GA : FnOk P w K mg base CX0 4 D.R.f D.R.fd ["thing"] (spAreRegs T T2) := ok_areRegs D.R.F D.N C gk gk2 B
  refine F.ok scIsMachine (fun vs H Q E h => ?_) (fun cdv A outer s H vs Q E hr1 h => ?_)
  · obtain ⟨v, k, d, rfl, _⟩ := h
    rfl
  · obtain ⟨v, k, d, rfl, hl, hP, hP2, q⟩ := h
    refine ⟨_, pss_cons (ps_if (pt_not (pt_val (pe_call GT hr1 rfl D.T.m D.T.F.kp D.T.b .nil pass0 (pa_cons (pv 0) (pa_cons pe_int pa_nil))))) (pss_one (ps_ret pe_bl)) pss_nil) (pss_cons (ps_asg (pv 0) (pg_tup (by rfl) (pgs_cons (pg_name (i := 1) scIsMachine.nd rfl (Or.inl rfl)) (pgs_cons (pg_name (i := 2) scIsMachine.nd rfl (Or.inl rfl)) (pgs_cons (pg_name (i := 3) scIsMachine.nd rfl (Or.inl rfl)) (pgs_cons (pg_name (i := 4) scIsMachine.nd rfl (Or.inl rfl)) (pgs_cons (pg_name (i := 5) scIsMachine.nd rfl (Or.inl rfl)) (pgs_cons (pg_name (i := 6) scIsMachine.nd rfl (Or.inl rfl)) pgs_nil)))))))) (pss_cons (ps_if (PW.pt (pw_or (pt_not (pt_val (pe_call GB hr1 rfl D.B.m D.B.F.kp D.B.b .nil pass0 (pa_cons (pv 1) (pa_cons pe_int (pa_cons (pe_glob (v := .int 8) (by rfl) hMB ⟨_, rfl⟩) pa_nil)))))) (pw_or1 (pt_not (pt_val (pe_call GA hr1 rfl D.R.m D.R.F.kp D.R.b .nil pass0 (pa_cons (pv 2) pa_nil))))))) (pss_one (ps_ret pe_bl)) pss_nil) (pss_cons (ps_if (PW.pt (pw_or (pt_not (pt_val (pe_call GB hr1 rfl D.B.m D.B.F.kp D.B.b .nil pass0 (pa_cons (pv 4) (pa_cons pe_int (pa_cons (pe_glob (v := .int 3) (by rfl) hMU ⟨_, rfl⟩) pa_nil)))))) (pw_or1 (pt_not (pt_val (pe_call GB hr1 rfl D.B.m D.B.F.kp D.B.b .nil pass0 (pa_cons (pv 5) (pa_cons pe_int (pa_cons (pe_glob (v := .int 3) (by rfl) hMU ⟨_, rfl⟩) pa_nil))))))))) (pss_one (ps_ret pe_bl)) pss_nil) (pss_one (ps_ret (pe_and (pe_call GB hr1 rfl D.B.m D.B.F.kp D.B.b .nil pass0 (pa_cons (pv 3) (pa_cons pe_int (pa_cons (pe_glob (v := .int 12) (by rfl) hMH ⟨_, rfl⟩) pa_nil)))) (pe_one (pe_call GB hr1 rfl D.B.m D.B.F.kp D.B.b .nil pass0 (pa_cons (pv 6) (pa_cons pe_int (pa_cons (pe_call GL hr1 rfl D.L.m D.L.F.kp D.L.b .nil pass0 (pa_cons (pv 0) pa_nil)) pa_nil))))))))))), ?read⟩
    case read =>
      have no : machD d = false → ∀ H', Same H H' → Q (.bl false) H' := fun e H' sm => by have := q H' sm; rw [e] at this; exact this
      refine ⟨_, rfl, v, k, d, 6, rfl, hl, _, rfl, iteB (fun h1 => ?_) (fun h1 => ?_)⟩
      · exact no (machD_no (by simpa using h1)) H fun _ _ e => e
      have h1 : tupOfD 6 d = true := by simpa using h1
      cases hl with
      | @tup a xs ds e r =>
        have hn : ds.length = 6 := by
          have : (ds.length : Int) = 6 := by simpa [tupOfD] using h1
          omega
        obtain ⟨x1, x2, x3, x4, x5, x6, d1, d2, d3, d4, d5, d6, rfl, rfl, l1, l2, l3, l4, l5, l6⟩ := r.six hn
        refine ⟨_, rfl, a, [x1, x2, x3, x4, x5, x6], rfl, SqT.of e, rfl, _, _, rfl, _, _, rfl, _, _, rfl, _, _, rfl, _, _, rfl, _, _, rfl, rfl, ?_⟩
        refine ⟨_, rfl, x1, k, d1, 1, 8, rfl, l1, _, rfl, iteB (fun h2 => iteT ?_) (fun h2 => ?_)⟩
        · refine no ?_ H fun _ _ e => e
          have h2 : betwD 1 8 d1 = false := by simpa using h2
          simp [machD, h2]
        have h2 : betwD 1 8 d1 = true := by simpa using h2
        refine ⟨_, rfl, x2, k, d2, rfl, l2, hP, hP2, fun H1 s1 => ⟨_, rfl, iteB (fun h3 => ?_) (fun h3 => ?_)⟩⟩
        · refine no ?_ H1 s1
          have h3 : regsD d2 = false := by simpa using h3
          simp [machD, h3]
        have h3 : regsD d2 = true := by simpa using h3
        refine ⟨_, rfl, x4, k, d4, 1, 3, rfl, l4.same s1, _, rfl, iteB (fun h4 => iteT ?_) (fun h4 => ?_)⟩
        · refine no ?_ H1 s1
          have h4 : betwD 1 3 d4 = false := by simpa using h4
          simp [machD, h4]
        have h4 : betwD 1 3 d4 = true := by simpa using h4
        refine ⟨_, rfl, x5, k, d5, 1, 3, rfl, l5.same s1, _, rfl, iteB (fun h5 => ?_) (fun h5 => ?_)⟩
        · refine no ?_ H1 s1
          have h5 : betwD 1 3 d5 = false := by simpa using h5
          simp [machD, h5]
        have h5 : betwD 1 3 d5 = true := by simpa using h5
        refine ⟨_, rfl, x3, k, d3, 0, 12, rfl, l3.same s1, _, rfl, iteB (fun h6 => ?_) (fun h6 => ?_)⟩
        · have h6 : betwD 0 12 d3 = true := by simpa using h6
          cases l1 with
          | int b =>
            have hb : 1 ≤ b ∧ b ≤ 8 := by simpa [betwD] using h2
            refine ⟨_, rfl, _, rfl, a, b, _, rfl, s1 _ _ e, by omega, by omega, x6, k, d6, 0, _, rfl, l6.same s1, ?_⟩
            have := q H1 s1
            have eq : machD (.tup [.int b, d2, d3, d4, d5, d6]) = betwD 0 (2 ^ b.toNat) d6 := by simp [machD, h2, h3, h4, h5, h6, limD]
            rw [eq] at this
            exact this
          | _ => cases h2
        · refine no ?_ H1 s1
          have h6 : betwD 0 12 d3 = false := by simpa using h6
          simp [machD, h6]
      | _ => cases h1
end
end My
set_option Elab.async false
set_option linter.all false
set_option maxRecDepth 100000
set_option maxHeartbeats 1000000
namespace My
open PySem L2 TL
abbrev sSame : Stmt := top 42
theorem kit1 {K : PySem.W.Frag} : PySem.W.kitAny K (.type "tuple") (List.map Value.type ["list", "tuple"]) = some true := by rfl
theorem kit2 {K : PySem.W.Frag} : PySem.W.kitAny K (.type "int") (List.map Value.type ["list", "tuple"]) = some false := by rfl
theorem kit3 {K : PySem.W.Frag} : PySem.W.kitAny K (.type "str") (List.map Value.type ["list", "tuple"]) = some false := by rfl
theorem kit4 {K : PySem.W.Frag} : PySem.W.kitOne K (.type "tuple") (.type "list") = some false := by rfl
theorem kit5 {K : PySem.W.Frag} : PySem.W.kitOne K (.type "int") (.type "bool") = some false := by rfl
theorem kit6 {K : PySem.W.Frag} : PySem.W.kitOne K (.type "str") (.type "bool") = some false := by rfl
mutual
/-- no tuple within has more than a hundred items -/
def narrow : PyData → Bool
  | .tuple ds => decide (ds.length ≤ 300) && narrowAll ds
  | .none => true | .bool _ => true | .int _ => true | .str _ => true | .list _ => true | .dict _ => true
def narrowAll : List PyData → Bool
  | [] => true
  | d :: r => narrow d && narrowAll r
end
theorem narrow_tup {ds : List PyData} (h : narrow (.tuple ds) = true) : ds.length ≤ 300 ∧ narrowAll ds = true := by
  have h : (decide (ds.length ≤ 300) && narrowAll ds) = true := by
    rw [narrow] at h
    exact h
  rw [Bool.and_eq_true] at h
  exact ⟨of_decide_eq_true h.1, h.2⟩
theorem narrow_mem : ∀ {ds : List PyData} {i : Nat} {d : PyData}, narrowAll ds = true → ds[i]? = some d → narrow d = true
  | [], _, _, _, h => by simp at h
  | x :: r, i, d, hn, h => by
    rw [narrowAll, Bool.and_eq_true] at hn
    cases i with
    | zero =>
      simp at h
      subst h
      exact hn.1
    | succ i => exact narrow_mem (ds := r) (i := i) hn.2 (by simpa using h)
/-- two things that read as the same data are told the same -/
def spSame (n : Nat) : Sp := fun vs H Q _ => ∃ (x y : V) (d : PyData), vs = [x, y] ∧ Tp H x d ∧ Tp H y d ∧ PyData.depth d < n ∧ narrow d = true ∧ ∀ H', Same H H' → Q (.bl true) H'
theorem depth_mem : ∀ {ds : List PyData} {i : Nat} {d : PyData}, ds[i]? = some d → PyData.depth d ≤ PyData.depthAll ds
  | [], _, _, h => by simp at h
  | x :: r, 0, d, h => by
    simp at h
    subst h
    exact Nat.le_max_left _ _
  | x :: r, i + 1, d, h => by
    have := depth_mem (ds := r) (i := i) (d := d) (by simpa using h)
    exact Nat.le_trans this (Nat.le_max_right _ _)
theorem TpAll.at2 {H : Hp} : ∀ {vs : List V} {ds : List PyData} {i : Nat} {v : V}, TpAll H vs ds → vs[i]? = some v → ∃ d, ds[i]? = some d ∧ Tp H v d
  | _, _, _, _, .nil, e => by simp at e
  | _, _, 0, _, .cons h _, e => by simp at e; subst e; exact ⟨_, rfl, h⟩
  | _, _, i + 1, v, .cons _ t, e => by
    obtain ⟨d, h1, h2⟩ := TpAll.at2 (i := i) (v := v) t (by simpa using e)
    exact ⟨d, by simpa using h1, h2⟩
section
variable {P : Program} {w : World} {K : PySem.W.Frag} {mg : Str → Option Value} {base : Heap}
abbrev NS : List Str := ["found", "due", "one", "other"]
theorem scSame : FnScope NS ["found", "due"] (defScope sSame) := ⟨rfl, rfl, rfl, by decide +kernel, rfl, by decide +kernel, by decide +kernel⟩
theorem ok_sameS (D : Df K mg "_law_same" sSame ["found", "due"]) (B : Bl mg) (n : Nat) (G : FnOk P w K mg base CX0 n D.f D.fd ["found", "due"] (spSame n)) : FnOk P w K mg base CX0 (n + 1) D.f D.fd ["found", "due"] (spSame (n + 1)) := by
  refine D.F.ok scSame (fun vs H Q E h => ?_) (fun cdv A outer s H vs Q E hr h => ?_)
  · obtain ⟨x, y, d, rfl, _⟩ := h
    rfl
  · obtain ⟨x, y, d, rfl, hx, hy, hdp, hnr, q⟩ := h
    refine ⟨_, pss_cons (ps_if (pt_val (pe_callB call_isiT (by rfl) B.isi (by decide +kernel) (pa_cons (pv 1) (pa_cons (pe_tup (pa_cons (pe_bltn (v := .ty "list") (by rfl) B.list (by decide +kernel) rfl) (pa_cons (pe_bltn (v := .ty "tuple") (by rfl) B.tup (by decide +kernel) rfl) pa_nil))) pa_nil))))
      (pss_cons (ps_if (PW.pt (pw_or (pt_cmpR op_ne (pe_callB call_isi (by rfl) B.isi (by decide +kernel) (pa_cons (pv 0) (pa_cons (pe_bltn (v := .ty "list") (by rfl) B.list (by decide +kernel) rfl) pa_nil))) (pe_callB call_isi (by rfl) B.isi (by decide +kernel) (pa_cons (pv 1) (pa_cons (pe_bltn (v := .ty "list") (by rfl) B.list (by decide +kernel) rfl) pa_nil))) (nomark _))
          (pw_or1 (pt_not (pt_val (pe_callB call_isiT (by rfl) B.isi (by decide +kernel) (pa_cons (pv 0) (pa_cons (pe_tup (pa_cons (pe_bltn (v := .ty "list") (by rfl) B.list (by decide +kernel) rfl) (pa_cons (pe_bltn (v := .ty "tuple") (by rfl) B.tup (by decide +kernel) rfl) pa_nil))) pa_nil))))))))
          (pss_one (ps_ret pe_bl)) pss_nil)
        (pss_one (ps_ret (pe_and (pe_cmpR op_eq (pe_callB call_len_seq (by rfl) B.len PySem.boot_len (pa_cons (pv 0) pa_nil)) (pe_callB call_len_seq (by rfl) B.len PySem.boot_len (pa_cons (pv 1) pa_nil)) (nomark _))
          (pe_one (pe_callB (cr_all rfl) (by rfl) B.all (by decide +kernel) (pa_cons (pe_lc (own := [("one", 2), ("other", 3)]) (g := gTup K 2 (gCons (gName 2) (gCons (gName 3) gNil))) (by rfl) scSame.nd (pi_zipT (by rfl) B.zip (pa_cons (pv 0) (pa_cons (pv 1) pa_nil)))
            (blkOk_by (own := [("one", 2), ("other", 3)]) (N := NS) (sc := defScope sSame) (by decide +kernel))
            (fun _ _ _ _ _ => pg_tup (by rfl) (pgs_cons (pg_name (i := 2) scSame.nd rfl (Or.inl rfl)) (pgs_cons (pg_name (i := 3) scSame.nd rfl (Or.inl rfl)) pgs_nil))) (fun _ _ _ _ _ => pts_nil)
            (fun _ _ _ _ _ => pe_call G hr rfl D.m D.F.kp D.b .nil pass0 (pa_cons (pv 2) (pa_cons (pv 3) pa_nil)))) pa_nil))))))) pss_nil)
      (pss_one (ps_ret (pe_and (pe_cmpR op_eq (pe_callB call_isi (by rfl) B.isi (by decide +kernel) (pa_cons (pv 0) (pa_cons (pe_bltn (v := .ty "bool") (by rfl) B.bool (by decide +kernel) rfl) pa_nil))) (pe_callB call_isi (by rfl) B.isi (by decide +kernel) (pa_cons (pv 1) (pa_cons (pe_bltn (v := .ty "bool") (by rfl) B.bool (by decide +kernel) rfl) pa_nil))) (nomark _))
        (pe_one (pe_cmpR op_eq (pv 0) (pv 1) (nomark _)))))), ?_⟩
    cases hx with
    | int i =>
      cases hy
      refine ⟨_, rfl, (by show 2 ≤ sizeLine; decide), fun p hp => ⟨_, p, ["list", "tuple"], _, false, rfl, SqT.of upd_same, .int _, (fun C z => nomatch z), kit2, _, rfl, iteF ?_⟩⟩
      refine ⟨_, rfl, _, _, _, false, rfl, .int _, kit5, _, rfl, _, _, _, false, rfl, .int _, kit5, rfl, _, rfl, ?_⟩
      refine ite2 (fun _ => ?_) (fun z => absurd (decide_eq_true rfl) z)
      refine ⟨_, rfl, _, rfl, rfl, ?_⟩
      have z := q _ (same_new hp (.tup [V.ty "list", V.ty "tuple"]))
      rw [← decide_eq_true (rfl : V.int i = V.int i)] at z
      exact z
    | str i =>
      cases hy
      refine ⟨_, rfl, (by show 2 ≤ sizeLine; decide), fun p hp => ⟨_, p, ["list", "tuple"], _, false, rfl, SqT.of upd_same, .str _, (fun C z => nomatch z), kit3, _, rfl, iteF ?_⟩⟩
      refine ⟨_, rfl, _, _, _, false, rfl, .str _, kit6, _, rfl, _, _, _, false, rfl, .str _, kit6, rfl, _, rfl, ?_⟩
      refine ite2 (fun _ => ?_) (fun z => absurd (decide_eq_true rfl) z)
      refine ⟨_, rfl, _, rfl, rfl, ?_⟩
      have z := q _ (same_new hp (.tup [V.ty "list", V.ty "tuple"]))
      rw [← decide_eq_true (rfl : V.str i = V.str i)] at z
      exact z
    | tup ha hxa =>
      cases hy with
      | tup hb hya =>
        rename_i a xs ds b ys
        have l1 : xs.length = ds.length := hxa.len
        have l2 : ys.length = ds.length := hya.len
        have hdp : PyData.depthAll ds + 1 < n + 1 := hdp
        obtain ⟨hn1, hn2⟩ := narrow_tup hnr
        refine ⟨_, rfl, (by show 2 ≤ sizeLine; decide), fun p hp => ?_⟩
        have s1 := same_new hp (.tup [V.ty "list", V.ty "tuple"])
        refine ⟨_, p, ["list", "tuple"], _, true, rfl, SqT.of upd_same, .tup (s1 _ _ hb), (fun C z => nomatch z), kit1, _, rfl, iteT ?_⟩
        refine ⟨_, rfl, _, _, _, false, rfl, .tup (s1 _ _ ha), kit4, _, rfl, _, _, _, false, rfl, .tup (s1 _ _ hb), kit4, rfl, _, rfl, ?_⟩
        refine iteB (fun z => absurd z (by simp)) (fun _ => ?_)
        refine ⟨_, rfl, (by show 2 ≤ sizeLine; decide), fun p2 hp2 => ?_⟩
        have s2 := s1.trans (same_new hp2 (.tup [V.ty "list", V.ty "tuple"]))
        refine ⟨_, p2, ["list", "tuple"], _, true, rfl, SqT.of upd_same, .tup (s2 _ _ ha), (fun C z => nomatch z), kit1, _, rfl, iteF ?_⟩
        refine ⟨_, rfl, a, _, rfl, .inr (SqT.of (s2 _ _ ha)), _, rfl, b, _, rfl, .inr (SqT.of (s2 _ _ hb)), rfl, _, rfl, ?_⟩
        refine ite2 (fun _ => ?_) (fun z => absurd (decide_eq_true (by rw [l1, l2])) z)
        refine ⟨_, rfl, _, rfl, a, b, xs, ys, rfl, SqT.of (s2 _ _ ha), SqT.of (s2 _ _ hb), fun D hD => ?_⟩
        refine lc_zipT (K := K) (a := a) (b := b) (xs := xs) (ys := ys) (by omega) (fun i H3 => H3 D = some (.lst ((List.replicate i true).map V.bl)) ∧ Same H H3) ⟨by rw [upd_same]; rfl, s2.trans (same_new hD _)⟩ (fun i H3 _ z => ⟨SqT.of (z.2 _ _ ha), SqT.of (z.2 _ _ hb)⟩) ?_ ?_
        · rintro i x y H3 T hxi hyi ⟨hD3, s3⟩ hT
          obtain ⟨d, hd, tx⟩ := hxa.at2 hxi
          obtain ⟨d', hd', ty⟩ := hya.at2 hyi
          rw [hd] at hd'
          cases hd'
          have hi := (List.getElem?_eq_some_iff.mp hxi).1
          have s4 := s3.trans (same_new hT (.tup [x, y]))
          have dm := depth_mem hd
          refine ⟨T, _, rfl, SqT.of upd_same, rfl, _, _, rfl, _, _, rfl, rfl, rfl, ?_⟩
          refine ⟨_, rfl, _, rfl, x, y, d, rfl, tx.keep (KeepT.of s4), ty.keep (KeepT.of s4), by omega, narrow_mem hn2 hd, fun H5 s5 => ?_⟩
          have nTD : D ≠ T := ne_of_none hD3 hT
          refine ⟨_, s5 _ _ (by rw [upd_ne nTD]; exact hD3), ?_, ?_, ?_⟩
          · rw [List.length_map, List.length_replicate]
            exact small1000 (by omega)
          · rw [upd_same, List.replicate_succ', List.map_append]
            rfl
          · intro c o e
            have hDn : H D = none := s2.free hD
            rw [upd_ne (ne_of_none e hDn)]
            exact s5 _ _ (s4 _ _ e)
        · rintro H3 ⟨hD3, s3⟩
          refine ⟨D, List.replicate xs.length true, rfl, SqL.of hD3, ?_⟩
          have z := q H3 s3
          have e : (List.replicate xs.length true).all id = true := List.all_eq_true.mpr fun c hc => (List.mem_replicate.mp hc).2
          rw [← e] at z
          exact z
theorem ok_same0 {f : Addr} {fd : FuncData} : FnOk P w K mg base CX0 0 f fd ["found", "due"] (spSame 0) := by
  have no : ∀ vs H Q E, ¬ spSame 0 vs H Q E := fun vs H Q E h => by
    obtain ⟨x, y, d, _, _, _, h1, _⟩ := h
    omega
  exact ⟨fun vs H Q E h => absurd h (no vs H Q E), fun A outer s H args us vs Q E _ _ _ _ h => absurd h (no vs H Q E)⟩
theorem ok_same (D : Df K mg "_law_same" sSame ["found", "due"]) (B : Bl mg) : ∀ n, FnOk P w K mg base CX0 n D.f D.fd ["found", "due"] (spSame n)
  | 0 => ok_same0
  | n + 1 => ok_sameS D B n (ok_same D B n)
end
end My
set_option Elab.async false
set_option linter.all false
set_option maxRecDepth 100000
set_option maxHeartbeats 1000000
namespace L2
open PySem
end L2
namespace My
open PySem L2 TL
section
variable {P : Program} {w : World} {K : PySem.W.Frag} {mg : Str → Option Value} {base : Heap}
end
end My
set_option Elab.async false
set_option linter.all false
set_option maxRecDepth 100000
set_option maxHeartbeats 4000000
namespace My
open PySem L2 TL
abbrev spS : Str := ⟨#[32]⟩
abbrev free (c : Nat) (x : Str) : Prop := c ∉ x.cps.toList
theorem cut_free {c : Nat} : ∀ {a b X Y : List Nat}, c ∉ a → c ∉ b → a ++ c :: X = b ++ c :: Y → a = b ∧ X = Y
  | [], [], _, _, _, _, h => by
    injection h with _ h
    exact ⟨rfl, h⟩
  | [], y :: b, _, _, _, hb, h => by
    injection h with h _
    exact absurd (by rw [h]; exact List.mem_cons_self) hb
  | x :: a, [], _, _, ha, _, h => by
    injection h with h _
    exact absurd (by rw [h]; exact List.mem_cons_self) ha
  | x :: a, y :: b, X, Y, ha, hb, h => by
    have h : x :: (a ++ c :: X) = y :: (b ++ c :: Y) := h
    injection h with h1 h2
    obtain ⟨e1, e2⟩ := cut_free (fun z => ha (List.mem_cons_of_mem _ z)) (fun z => hb (List.mem_cons_of_mem _ z)) h2
    exact ⟨by rw [h1, e1], e2⟩
theorem str_ext {a b : Str} (h : a.cps.toList = b.cps.toList) : a = b := Str.ext' (Array.toList_inj.mp h)
theorem app_cps (a b : Str) : (a ++ b).cps.toList = a.cps.toList ++ b.cps.toList := by
  show (a.cps ++ b.cps).toList = _
  rw [Array.toList_append]
theorem join_cons2 (c : Nat) (a b : Str) (r : List Str) : (Str.join ⟨#[c]⟩ (a :: b :: r)).cps.toList = a.cps.toList ++ c :: (Str.join ⟨#[c]⟩ (b :: r)).cps.toList := by
  show (a ++ ⟨#[c]⟩ ++ Str.join ⟨#[c]⟩ (b :: r)).cps.toList = _
  rw [app_cps, app_cps]
  simp
theorem join_inj {c : Nat} : ∀ {as bs : List Str}, as ≠ [] → bs ≠ [] → (∀ a ∈ as, free c a) → (∀ b ∈ bs, free c b) → Str.join ⟨#[c]⟩ as = Str.join ⟨#[c]⟩ bs → as = bs
  | [], _, h, _, _, _, _ => absurd rfl h
  | _, [], _, h, _, _, _ => absurd rfl h
  | [a], [b], _, _, _, _, h => by
    have h : a = b := h
    rw [h]
  | [a], b :: b2 :: s, _, _, ha, _, h => by
    have h := congrArg (fun x : Str => x.cps.toList) h
    have h : a.cps.toList = _ := h
    simp only [join_cons2] at h
    exact absurd (by rw [h]; simp) (ha a List.mem_cons_self)
  | a :: a2 :: r, [b], _, _, _, hb, h => by
    have h := congrArg (fun x : Str => x.cps.toList) h
    simp only [join_cons2] at h
    have h : _ = b.cps.toList := h
    exact absurd (by rw [← h]; simp) (hb b List.mem_cons_self)
  | a :: a2 :: r, b :: b2 :: s, _, _, ha, hb, h => by
    have h := congrArg (fun x : Str => x.cps.toList) h
    simp only [join_cons2] at h
    obtain ⟨e1, e2⟩ := cut_free (ha a List.mem_cons_self) (hb b List.mem_cons_self) h
    rw [str_ext e1, join_inj (by simp) (by simp) (fun x hx => ha x (List.mem_cons_of_mem _ hx)) (fun x hx => hb x (List.mem_cons_of_mem _ hx)) (str_ext e2)]
theorem split_join {c : Nat} {ws : List Str} (h0 : ws ≠ []) (h : ∀ w ∈ ws, free c w) : Txt.split (Txt.join ⟨#[c]⟩ ws) ⟨#[c]⟩ = ws := by
  have e : Txt.join ⟨#[c]⟩ ws = Str.join ⟨#[c]⟩ ws := StrLaws.glued_eq_join ..
  rw [e]
  refine join_inj (c := c) (fun z => ?_) h0 (StrLaws.split_free _ c) h (StrLaws.join_split _ _)
  have := PyProof.Rows.split_pos (Str.join ⟨#[c]⟩ ws) ⟨#[c]⟩
  rw [z] at this
  exact absurd this (by decide)
theorem join_app (s : Str) : ∀ {as bs : List Str}, as ≠ [] → bs ≠ [] → Str.join s (as ++ bs) = Str.join s as ++ s ++ Str.join s bs
  | [], _, h, _ => absurd rfl h
  | [a], [], _, h => absurd rfl h
  | [a], b :: r, _, _ => rfl
  | a :: a2 :: r, bs, _, hb => by
    have ih := join_app s (as := a2 :: r) (bs := bs) (by simp) hb
    show a ++ s ++ Str.join s (a2 :: r ++ bs) = a ++ s ++ Str.join s (a2 :: r) ++ s ++ Str.join s bs
    rw [ih]
    refine str_ext ?_
    simp only [app_cps, List.append_assoc]
theorem join_len (s : Str) (ws : List Str) : (Txt.join s ws).length ≤ (ws.map (·.length)).sum + ws.length * s.length := by
  have e : Txt.join s ws = Str.join s ws := StrLaws.glued_eq_join ..
  rw [e]
  exact StrLaws.join_length_le s ws
def figS : Str := "0123456789"
def figC (c : Nat) : Bool := decide (c ∈ figS.cps.toList)
def numOk (n : Nat) : Bool :=
  let x := numT (n : Nat)
  decide (1 ≤ x.length) && decide (x.length ≤ 9) && x.cps.toList.all figC && (!(decide (x.cps.toList.head? = some 48)) || decide (x = "0")) && x.cps.toList.all (fun c => decide (c ≠ 32))
theorem num_all : (List.range 257).all numOk = true := by decide +kernel
end My
set_option Elab.async false
set_option linter.all false
set_option maxRecDepth 100000
set_option maxHeartbeats 4000000
namespace L2
open PySem PySem.Spec PyProof.Rows
/-- a statement that is not come to -/
def sNo : TS := fun _ _ _ => False
theorem ps_no {X : Cx} {st : Stmt} : PS X st sNo := fun _ _ _ _ _ _ h => h.elim
theorem tq_str {P : Addr} {z : Str} {te ti : TE} {vs : List Nat} {j : Nat} {σ : St} {H : Hp} {Q : VK} (hti : ∀ R : VK, R (.str z) H → ti σ H R) (hP : ∃ ps, H P = some (.ext (TabOk P ps))) (f : Nat → Bool)
    (hw : ∀ x, wipe ((wipe σ vs).set j (some x)) vs = wipe σ vs)
    (hel : ∀ (c : Nat) (Q' : VK), Q' (.bl (f c)) H → te ((wipe σ vs).set j (some (.str ⟨#[c]⟩))) H Q') (q : Q (.bl (z.cps.toList.all f)) H) : tQG true P (iStr ti) (gName j) te vs σ H Q :=
  hti _ ⟨z, rfl, all_str (Q := Q) hP f hw hel q⟩
end L2
namespace My
open PySem L2 TL
abbrev sNumRead : Stmt := top 20
abbrev sShowM : Stmt := top 31
abbrev sReadM : Stmt := top 32
abbrev sMachRead : Stmt := top 33
structure Cs2 (mg : Str → Option Value) : Prop where
  F : ∃ t, mg "FIGURES" = some (.str figS t)
  MF : ∃ t, mg "MOST_FIGURES" = some (.int 9 t)
  AH : ∃ t, mg "AHEAD_OF_REGISTERS" = some (.int 3 t)
  BE : ∃ t, mg "BEHIND_REGISTERS" = some (.int 8 t)
structure NumOk (n : Int) : Prop where
  len1 : 1 ≤ (numT n).length
  len9 : (numT n).length ≤ 9
  figs : (numT n).cps.toList.all figC = true
  lead : (numT n).cps.toList.head? = some 48 → numT n = "0"
  free : ∀ c ∈ (numT n).cps.toList, c ≠ 32
theorem num_ok {n : Int} (h0 : 0 ≤ n) (h1 : n ≤ 256) : NumOk n := by
  have h := List.all_eq_true.mp num_all n.toNat (List.mem_range.mpr (by omega))
  have e : ((n.toNat : Nat) : Int) = n := by omega
  unfold numOk at h
  rw [e] at h
  simp only [Bool.and_eq_true, Bool.or_eq_true, Bool.not_eq_true', decide_eq_true_eq, decide_eq_false_iff_not] at h
  obtain ⟨⟨⟨⟨a, b⟩, c⟩, d⟩, f⟩ := h
  exact ⟨a, b, c, fun z => d.elim (fun y => absurd z y) id, fun x hx => of_decide_eq_true (List.all_eq_true.mp f x hx)⟩
/-- the words of a machine's text -/
def wordsO (o : OwnD) : List Str := [Str.ofString "bits", numT o.bits, Str.ofString "registers"] ++ o.names ++ [Str.ofString "hidden", numT o.hidden, Str.ofString "alus", numT o.alus, Str.ofString "moves", numT o.moves, Str.ofString "cells", numT o.cells]
def lineO (o : OwnD) : Str := Txt.join spS (wordsO o)
theorem strs_tp {H : Hp} : ∀ ns : List Str, TpAll H (ns.map V.str) (ns.map PyData.str)
  | [] => .nil
  | x :: r => .cons (.str x) (strs_tp r)
def spNum (T : Addr) : Sp := fun vs H Q _ => ∃ n : Int, vs = [.str (numT n)] ∧ 0 ≤ n ∧ n ≤ 256 ∧ Tab T H ∧ Q (.int n) H
def spShow : Sp := fun vs H Q _ => ∃ (p : Addr) (o : OwnD), vs = [.ref p] ∧ Tp H (.ref p) (ownD o) ∧ OwnOk o ∧ Q (.str (lineO o)) H
def spMr (T : Addr) : Sp := fun vs H Q _ => ∃ (o : OwnD), vs = [.str (lineO o)] ∧ OwnOk o ∧ Tab T H ∧ ∀ (p : Addr) (H' : Hp), Same H H' → Tp H' (.ref p) (ownD o) → Q (.ref p) H'
def spRead (T1 T2 T3 : Addr) : Sp := fun vs H Q _ => ∃ (o : OwnD), vs = [.str (lineO o)] ∧ OwnOk o ∧ Tab T1 H ∧ Tab T2 H ∧ Tab T3 H ∧ ∀ (p : Addr) (H' : Hp), Same H H' → Tp H' (.ref p) (ownD o) → Q (.ref p) H'
theorem name_len8 {x : Str} (h : IsName x) : 1 ≤ x.length ∧ x.length ≤ 8 ∧ ∀ c ∈ x.cps.toList, 97 ≤ c ∧ c ≤ 122 := by
  unfold IsName isNameB at h
  rw [Bool.and_eq_true, Bool.and_eq_true] at h
  refine ⟨of_decide_eq_true h.1.1, of_decide_eq_true h.1.2, fun c hc => ?_⟩
  have := List.all_eq_true.mp h.2 c hc
  rw [Bool.and_eq_true] at this
  exact ⟨of_decide_eq_true this.1, of_decide_eq_true this.2⟩
theorem own_rng {o : OwnD} (hO : OwnOk o) : (0 ≤ o.bits ∧ o.bits ≤ 256) ∧ (0 ≤ o.hidden ∧ o.hidden ≤ 256) ∧ (0 ≤ o.alus ∧ o.alus ≤ 256) ∧ (0 ≤ o.moves ∧ o.moves ≤ 256) ∧ (0 ≤ o.cells ∧ o.cells ≤ 256) := by
  have hb := hO.bits
  have hh := hO.hidden
  have ha := hO.alus
  have hm := hO.moves
  have hc := hO.cells
  have cp : (2 : Int) ^ o.bits.toNat ≤ 256 := by
    have : ∀ m : Nat, m ≤ 8 → (2 : Int) ^ m ≤ 256 := by decide
    exact this _ (by omega)
  omega
theorem words_ok {o : OwnD} (hO : OwnOk o) : ∀ x ∈ wordsO o, x.length ≤ 10 ∧ free 32 x := by
  obtain ⟨r1, r2, r3, r4, r5⟩ := own_rng hO
  obtain ⟨m, hN, h1, h2⟩ := hO.names
  have num : ∀ n : Int, 0 ≤ n ∧ n ≤ 256 → (numT n).length ≤ 10 ∧ free 32 (numT n) := fun n hn => by
    have := num_ok hn.1 hn.2
    exact ⟨Nat.le_trans this.len9 (by decide), fun z => this.free 32 z rfl⟩
  have fix : ∀ x ∈ ([Str.ofString "bits", Str.ofString "registers", Str.ofString "hidden", Str.ofString "alus", Str.ofString "moves", Str.ofString "cells"] : List Str), x.length ≤ 10 ∧ free 32 x := by
    have h : ([Str.ofString "bits", Str.ofString "registers", Str.ofString "hidden", Str.ofString "alus", Str.ofString "moves", Str.ofString "cells"] : List Str).all (fun x => decide (x.length ≤ 10) && decide (32 ∉ x.cps.toList)) = true := by decide +kernel
    intro x hx
    have := List.all_eq_true.mp h x hx
    rw [Bool.and_eq_true] at this
    exact ⟨of_decide_eq_true this.1, of_decide_eq_true this.2⟩
  intro x hx
  unfold wordsO at hx
  rcases List.mem_append.mp hx with hx | hx
  · rcases List.mem_append.mp hx with hx | hx
    · simp only [List.mem_cons, List.mem_nil_iff, or_false] at hx
      rcases hx with rfl | rfl | rfl
      · exact fix _ (by simp)
      · exact num _ r1
      · exact fix _ (by simp)
    · obtain ⟨_, b, c⟩ := name_len8 (hN.all x hx)
      exact ⟨by omega, fun z => by have := c 32 z; omega⟩
  · simp only [List.mem_cons, List.mem_nil_iff, or_false] at hx
    rcases hx with rfl | rfl | rfl | rfl | rfl | rfl | rfl | rfl
    · exact fix _ (by simp)
    · exact num _ r2
    · exact fix _ (by simp)
    · exact num _ r3
    · exact fix _ (by simp)
    · exact num _ r4
    · exact fix _ (by simp)
    · exact num _ r5
theorem sumLe : ∀ {l : List Str}, (∀ x ∈ l, x.length ≤ 10) → (l.map (·.length)).sum ≤ 10 * l.length
  | [], _ => Nat.le_refl _
  | a :: r, h => by
    have h1 := h a List.mem_cons_self
    have h2 := sumLe (l := r) fun x hx => h x (List.mem_cons_of_mem _ hx)
    rw [List.map_cons, List.sum_cons, List.length_cons]
    have : a.length + (r.map (·.length)).sum ≤ 10 * (r.length + 1) := by omega
    exact this
theorem words_len {o : OwnD} (hO : OwnOk o) : (wordsO o).length = 11 + o.names.length ∧ 1 ≤ o.names.length ∧ o.names.length ≤ 6 := by
  obtain ⟨m, hN, h1, h2⟩ := hO.names
  have := hN.len
  refine ⟨?_, by omega, by omega⟩
  unfold wordsO
  rw [List.length_append, List.length_append]
  show 3 + o.names.length + 8 = _
  omega
theorem line_len {o : OwnD} (hO : OwnOk o) : (lineO o).length ≤ 200 := by
  have h1 := join_len spS (wordsO o)
  have h2 := sumLe fun x hx => (words_ok hO x hx).1
  obtain ⟨h3, h4, h5⟩ := words_len hO
  have : spS.length = 1 := rfl
  rw [this] at h1
  show (Txt.join spS (wordsO o)).length ≤ 200
  omega
theorem line_split {o : OwnD} (hO : OwnOk o) : Txt.split (lineO o) spS = wordsO o := split_join (fun z => by
  have := (words_len hO).1
  rw [z] at this
  simp at this
  omega) fun x hx => (words_ok hO x hx).2
theorem line_eq {o : OwnD} (hO : OwnOk o) : lineO o = Str.empty ++ "bits " ++ numT o.bits ++ " registers " ++ Txt.join spS o.names ++ " hidden " ++ numT o.hidden ++ " alus " ++ numT o.alus ++ " moves " ++ numT o.moves ++ " cells " ++ numT o.cells := by
  have hne : o.names ≠ [] := fun z => by
    have := (words_len hO).2.1
    rw [z] at this
    exact absurd this (by decide)
  have e : ∀ ws, Txt.join spS ws = Str.join spS ws := fun ws => StrLaws.glued_eq_join ..
  unfold lineO wordsO
  rw [e, e, join_app spS (as := [Str.ofString "bits", numT o.bits, Str.ofString "registers"] ++ o.names) (by simp) (by simp), join_app spS (as := [Str.ofString "bits", numT o.bits, Str.ofString "registers"]) (bs := o.names) (by simp) hne]
  refine str_ext ?_
  simp only [Str.join, app_cps, List.append_assoc]
  rfl
section
variable {P : Program} {w : World} {K : PySem.W.Frag} {mg : Str → Option Value} {base : Heap}
abbrev NNu : List Str := ["word", "sign"]
abbrev NSh : List Str := ["machine", Str.ofString "bits", Str.ofString "registers", Str.ofString "hidden", Str.ofString "alus", Str.ofString "moves", Str.ofString "cells", "names"]
abbrev NMr : List Str := ["text", "words", Str.ofString "registers", Str.ofString "hidden", Str.ofString "alus", Str.ofString "moves", Str.ofString "cells", "at"]
abbrev NRe : List Str := ["text", "machine"]
theorem scNum : FnScope NNu ["word"] (defScope sNumRead) := ⟨rfl, rfl, rfl, by decide +kernel, rfl, by decide +kernel, by decide +kernel⟩
theorem scShow : FnScope NSh ["machine"] (defScope sShowM) := ⟨rfl, rfl, rfl, by decide +kernel, rfl, by decide +kernel, by decide +kernel⟩
theorem scMr : FnScope NMr ["text"] (defScope sMachRead) := ⟨rfl, rfl, rfl, by decide +kernel, rfl, by decide +kernel, by decide +kernel⟩
theorem scRead : FnScope NRe ["text"] (defScope sReadM) := ⟨rfl, rfl, rfl, by decide +kernel, rfl, by decide +kernel, by decide +kernel⟩
theorem ok_num {T : Addr} {f : Addr} {fd : FuncData} (F : Fun K "number_read" "number_read" sNumRead f fd) (C : Cs2 mg) (gk : GenK base mg fd.code T) (B : Bl mg) : FnOk P w K mg base CX0 2 f fd ["word"] (spNum T) := by
  obtain ⟨_, hF⟩ := C.F
  obtain ⟨_, hMF⟩ := C.MF
  refine F.okC scNum (fun vs H Q E h => ?_) (fun cdv hcv A outer s H vs Q E hr1 h => ?_)
  · obtain ⟨n, rfl, _⟩ := h
    rfl
  · obtain ⟨n, rfl, h0, h1, hP, q⟩ := h
    have N := num_ok h0 h1
    have hs : (numT n).length ≤ sizeLine := Nat.le_trans N.len9 (by decide)
    refine ⟨_, pss_cons (ps_if (pt_not (pt_chain op_le op_le pe_int (pe_callB call_len_str (by rfl) B.len PySem.boot_len (pa_cons (pv 0) pa_nil)) (pe_glob (v := .int 9) (by rfl) hMF ⟨_, rfl⟩))) (pss_one (ps_ret pe_non)) pss_nil) (pss_cons (ps_if (pt_not (pt_val (pe_allG rfl scNum.nd hr1 (by rfl) B.all (by decide +kernel) (hcv ▸ gk) (pi_str (pv 0)) (blkOk_by (own := [("sign", 1)]) (N := NNu) (sc := defScope sNumRead) (by decide +kernel)) ⟨rfl, by decide +kernel, rfl⟩ (fun _ _ _ _ _ _ _ _ => pg_name (i := 1) scNum.nd rfl (Or.inl rfl)) (fun _ _ _ _ _ _ _ _ => pe_cmpR op_in_sign (pv 1) (pe_glob (v := .str figS) (by rfl) hF ⟨_, rfl⟩) (by rfl))))) (pss_one (ps_ret pe_non)) pss_nil) (pss_cons (ps_if (PW.pt (pw_and (pt_cmpR op_eq (pe_ix ix_str (pv 0) pe_int (fun _ _ => rfl)) pe_str (nomark _)) (pw_and1 (pt_cmpR op_ne (pv 0) pe_str (nomark _))))) (pss_one (ps_ret pe_non)) pss_nil) (pss_one (ps_ret (pe_callTy call_int_str (by rfl) B.int (by decide +kernel) (pa_cons (pv 0) pa_nil)))))), ?read⟩
    case read =>
      refine ⟨_, rfl, numT n, rfl, hs, _, _, rfl, rfl, _, rfl, iteB (fun _ => ?_) (fun z => absurd (of_decide_eq_false z) (by have := N.len1; omega))⟩
      refine ⟨_, _, rfl, rfl, _, rfl, iteB (fun z => absurd z (by have := N.len9; simp; omega)) (fun _ => ?_)⟩
      dsimp only [tNext, tSeq, tIfS, tNot, tB]
      refine tq_str (z := numT n) (fun R hR => ⟨_, rfl, hR⟩) hP figC (fun x => rfl) (fun c Q' qq => ⟨_, rfl, c, figS, rfl, rfl, qq⟩) ?_
      rw [N.figs]
      refine ⟨_, rfl, iteF ?_⟩
      obtain ⟨c, r, hc⟩ : ∃ c r, (numT n).cps.toList = c :: r := by
        cases e : (numT n).cps.toList with
        | nil =>
          have h := N.len1
          have : (numT n).length = (numT n).cps.toList.length := (Array.length_toList).symm
          rw [this, e] at h
          exact absurd h (by decide)
        | cons c r => exact ⟨c, r, rfl⟩
      have hat : atI (numT n).cps.toList 0 = some c := by
        rw [hc]
        unfold atI ixN
        rw [if_pos (by decide), if_pos (by rw [List.length_cons]; omega)]
        rfl
      refine ⟨_, rfl, numT n, 0, c, rfl, rfl, hs, hat, rfl, _, rfl, iteB (fun z => ?_) (fun _ => ?_)⟩
      · have ec : c = 48 := by
          have := of_decide_eq_true z
          injection this with this
          have := congrArg (fun x : Str => x.cps.toList) this
          have : [c] = [48] := this
          injection this
        have e0 := N.lead (by rw [hc, ec]; rfl)
        refine ⟨_, rfl, rfl, _, rfl, iteB (fun z2 => ?_) (fun _ => ?_)⟩
        · rw [e0] at z2
          exact absurd z2 (by simp)
        · exact ⟨_, rfl, numT n, n, rfl, PySem.W.KIN.num_reads h0 (by omega), Nat.le_trans N.len9 (by decide), q⟩
      · exact ⟨_, rfl, numT n, n, rfl, PySem.W.KIN.num_reads h0 (by omega), Nat.le_trans N.len9 (by decide), q⟩
theorem ok_show {f : Addr} {fd : FuncData} (F : Fun K "show_machine" "show_machine" sShowM f fd) (B : Bl mg) : FnOk P w K mg base CX0 1 f fd ["machine"] spShow := by
  refine F.ok scShow (fun vs H Q E h => ?_) (fun cdv A outer s H vs Q E hr1 h => ?_)
  · obtain ⟨p, o, rfl, _⟩ := h
    rfl
  · obtain ⟨p, o, rfl, hT, hO, q⟩ := h
    obtain ⟨qa, hp, hq⟩ := own_inv hT
    obtain ⟨r1, r2, r3, r4, r5⟩ := own_rng hO
    refine ⟨_, pss_cons (ps_asg (pv 0) (pg_tup (by rfl) (pgs_cons (pg_name (i := 1) scShow.nd rfl (Or.inl rfl)) (pgs_cons (pg_name (i := 2) scShow.nd rfl (Or.inl rfl)) (pgs_cons (pg_name (i := 3) scShow.nd rfl (Or.inl rfl)) (pgs_cons (pg_name (i := 4) scShow.nd rfl (Or.inl rfl)) (pgs_cons (pg_name (i := 5) scShow.nd rfl (Or.inl rfl)) (pgs_cons (pg_name (i := 6) scShow.nd rfl (Or.inl rfl)) pgs_nil)))))))) (pss_cons (ps_set (i := 7) scShow.nd rfl (Or.inl rfl) (pe_join pe_str (pv 2))) (pss_one (ps_ret (pe_fstr (pf_str (pf_fmt (pv 1) (pf_str (pf_fmt (pv 7) (pf_str (pf_fmt (pv 3) (pf_str (pf_fmt (pv 4) (pf_str (pf_fmt (pv 5) (pf_str (pf_fmt (pv 6) pf_nil)))))))))))))))), ?read⟩
    case read =>
      refine ⟨_, rfl, p, _, rfl, SqT.of hp, rfl, _, _, rfl, _, _, rfl, _, _, rfl, _, _, rfl, _, _, rfl, _, _, rfl, rfl, ?_⟩
      have hnl := (words_len hO).2.2
      have hn8 : ∀ x ∈ o.names, x.length ≤ 10 := fun x hx => by
        obtain ⟨m, hN, _, _⟩ := hO.names
        have := (name_len8 (hN.all x hx)).2.1
        omega
      have hsum := sumLe hn8
      have hs1 : spS.length = 1 := rfl
      refine ⟨⟨_, rfl⟩, _, rfl, spS, qa, o.names, rfl, rfl, .inr (SqT.of hq), by rw [hs1]; omega, ?_⟩
      have hj := join_len spS o.names
      rw [hs1] at hj
      have sv : ∀ n : Int, 0 ≤ n ∧ n ≤ 256 → StrV (.int n) (numT n) := fun n hn => ⟨by
        have : ∀ m : Nat, m ≤ 256 → m.log2 < 1920 := by
          intro m hm
          have := Nat.log2_lt (n := m) (k := 1920)
          by_cases e : m = 0
          · subst e; decide
          · exact (Nat.log2_lt e).mpr (Nat.lt_of_le_of_lt hm (by decide))
        exact this _ (by omega), rfl⟩
      have nl : ∀ n : Int, 0 ≤ n ∧ n ≤ 256 → (numT n).length ≤ 9 := fun n hn => (num_ok hn.1 hn.2).len9
      have n1 := nl _ r1
      have n2 := nl _ r2
      have n3 := nl _ r3
      have n4 := nl _ r4
      have n5 := nl _ r5
      have la : ∀ a b : Str, (a ++ b).length = a.length + b.length := fun a b => Str.length_append a b
      have big : ∀ {x : Nat}, x ≤ 1000 → x ≤ sizeLine := fun h => Nat.le_of_lt (small1000 h)
      have k1 : (Str.ofString "bits ").length = 5 := by decide +kernel
      have k2 : (Str.ofString " registers ").length = 11 := by decide +kernel
      have k3 : (Str.ofString " hidden ").length = 8 := by decide +kernel
      have k4 : (Str.ofString " alus ").length = 6 := by decide +kernel
      have k5 : (Str.ofString " moves ").length = 7 := by decide +kernel
      have k6 : (Str.ofString " cells ").length = 7 := by decide +kernel
      have k0 : Str.empty.length = 0 := rfl
      have jl : (Txt.join spS o.names).length ≤ 70 := by omega
      refine ⟨big (by simp only [la]; omega), _, rfl, _, sv _ r1, big (by omega), big (by simp only [la]; omega), big (by simp only [la]; omega), _, rfl, _, rfl, big (by omega), big (by simp only [la]; omega), big (by simp only [la]; omega), _, rfl, _, sv _ r2, big (by omega), big (by simp only [la]; omega), big (by simp only [la]; omega), _, rfl, _, sv _ r3, big (by omega), big (by simp only [la]; omega), big (by simp only [la]; omega), _, rfl, _, sv _ r4, big (by omega), big (by simp only [la]; omega), big (by simp only [la]; omega), _, rfl, _, sv _ r5, big (by omega), big (by simp only [la]; omega), big (by simp only [la]; omega), ?_⟩
      rw [line_eq hO] at q
      exact q
theorem ok_mr {T : Addr} {f : Addr} {fd : FuncData} (F : Fun K "machine_read" "machine_read" sMachRead f fd) (dN : Df K mg "number_read" sNumRead ["word"]) (C : Cs2 mg) (gk : GenK base mg dN.fd.code T) (B : Bl mg) : FnOk P w K mg base CX0 3 f fd ["text"] (spMr T) := by
  obtain ⟨_, hAH⟩ := C.AH
  obtain ⟨_, hBE⟩ := C.BE
  have GN : FnOk P w K mg base CX0 2 dN.f dN.fd ["word"] (spNum T) := ok_num dN.F C gk B
  refine F.ok scMr (fun vs H Q E h => ?_) (fun cdv A outer s H vs Q E hr1 h => ?_)
  · obtain ⟨o, rfl, _⟩ := h
    rfl
  · obtain ⟨o, rfl, hO, hP, q⟩ := h
    obtain ⟨r1, r2, r3, r4, r5⟩ := own_rng hO
    obtain ⟨wl, wn1, wn2⟩ := words_len hO
    refine ⟨_, pss_cons (ps_set (i := 1) scMr.nd rfl (Or.inr rfl) (pe_split (pv 0) pe_str)) (pss_cons (ps_if (pt_cmpR op_le (pe_callB call_len_seq (by rfl) B.len PySem.boot_len (pa_cons (pv 1) pa_nil)) (pe_op op_add (pe_glob (v := .int 3) (by rfl) hAH ⟨_, rfl⟩) (pe_glob (v := .int 8) (by rfl) hBE ⟨_, rfl⟩)) (nomark _)) (pss_one (ps_ret pe_non)) pss_nil) (pss_cons (ps_set (i := 2) scMr.nd rfl (Or.inl rfl) (pe_callTy call_tuple_of (by rfl) B.tup (by decide +kernel) (pa_cons (pe_slice sl_list (pv 1) (po_some (pe_glob (v := .int 3) (by rfl) hAH ⟨_, rfl⟩)) (po_some (pe_un un_neg (pe_glob (v := .int 8) (by rfl) hBE ⟨_, rfl⟩)))) pa_nil))) (pss_cons (ps_asg (pe_lc (own := [("at", 7)]) (g := gName 7) (te := tCall (spNum T) [] E0 (tCons (tOp (rIxL K) (tVar 1) (tVar 7)) tNil)) (by rfl) scMr.nd (pi_tup (pe_tup (pa_cons (pe_un un_neg pe_int) (pa_cons (pe_un un_neg pe_int) (pa_cons (pe_un un_neg pe_int) (pa_cons (pe_un un_neg pe_int) pa_nil)))))) (blkOk_by (own := [("at", 7)]) (N := NMr) (sc := defScope sMachRead) (by decide +kernel)) (fun _ _ _ _ _ => pg_name (i := 7) scMr.nd rfl (Or.inl rfl)) (fun _ _ _ _ _ => pts_nil) (fun _ _ _ _ _ => pe_call GN hr1 rfl dN.m dN.F.kp dN.b .nil pass0 (pa_cons (pe_ix ix_list (pv 1) (pv 7) (fun _ _ => rfl)) pa_nil))) (pg_lst (by rfl) (pgs_cons (pg_name (i := 3) scMr.nd rfl (Or.inl rfl)) (pgs_cons (pg_name (i := 4) scMr.nd rfl (Or.inl rfl)) (pgs_cons (pg_name (i := 5) scMr.nd rfl (Or.inl rfl)) (pgs_cons (pg_name (i := 6) scMr.nd rfl (Or.inl rfl)) pgs_nil)))))) (pss_one (ps_ret (pe_tup (pa_cons (pe_call GN hr1 rfl dN.m dN.F.kp dN.b .nil pass0 (pa_cons (pe_ix ix_list (pv 1) pe_int (fun _ _ => rfl)) pa_nil)) (pa_cons (pv 2) (pa_cons (pv 3) (pa_cons (pv 4) (pa_cons (pv 5) (pa_cons (pv 6) pa_nil)))))))))))), ?read⟩
    case read =>
      refine seq_cut (fun σ' H' => ∃ L : Addr, σ' = [some (.str (lineO o)), some (.ref L), none, none, none, none, none, none] ∧ H' L = some (.lst ((wordsO o).map V.str)) ∧ Same H H') (fun nx imp => ?_) ?_
      · refine ⟨_, rfl, ⟨_, rfl⟩, lineO o, spS, rfl, rfl, rfl, Nat.le_of_lt (small1000 (by have := line_len hO; omega)), fun L hL => ?_⟩
        rw [line_split hO]
        exact imp _ _ ⟨L, rfl, upd_same, same_new hL _⟩
      rintro σ H1 ⟨L, rfl, hL, s1⟩
      have wlm : ((wordsO o).map V.str).length = 11 + o.names.length := by rw [List.length_map, wl]
      refine seq_cut (fun σ' H' => σ' = [some (.str (lineO o)), some (.ref L), none, none, none, none, none, none] ∧ H' = H1) (fun nx imp => ?_) ?_
      · exact ⟨_, rfl, L, _, rfl, .inl (SqL.of hL), _, _, rfl, rfl, _, _, rfl, rfl, _, rfl, iteB (fun z => absurd (of_decide_eq_true z) (by rw [wlm]; omega)) (fun _ => imp _ _ ⟨rfl, rfl⟩)⟩
      rintro σ Hx ⟨rfl, ex⟩
      rw [ex]
      clear ex Hx
      -- registers
      have ecut : cutV ((wordsO o).map V.str) (some 3) (some (-8)) = o.names.map V.str := by
        have e : (wordsO o).map V.str = [V.str (Str.ofString "bits"), V.str (numT o.bits), V.str (Str.ofString "registers")] ++ (o.names.map V.str ++ [V.str (Str.ofString "hidden"), V.str (numT o.hidden), V.str (Str.ofString "alus"), V.str (numT o.alus), V.str (Str.ofString "moves"), V.str (numT o.moves), V.str (Str.ofString "cells"), V.str (numT o.cells)]) := by
          unfold wordsO
          rw [List.map_append, List.map_append, List.append_assoc]
          rfl
        unfold cutV
        have s1 : HT.sIx ((wordsO o).map V.str).length 0 (some 3) = 3 := by
          unfold HT.sIx
          simp only []
          rw [if_neg (by decide), wlm]
          show min 3 (11 + o.names.length) = 3
          omega
        have s2 : HT.sIx ((wordsO o).map V.str).length ((wordsO o).map V.str).length (some (-8)) = 3 + o.names.length := by
          unfold HT.sIx
          simp only []
          rw [if_pos (by decide), wlm]
          omega
        rw [s1, s2, e, List.drop_left' (by rfl)]
        have e3 : 3 + o.names.length - 3 = (o.names.map V.str).length := by rw [List.length_map]; omega
        rw [e3, List.take_left']
        rfl
      refine seq_cut (fun σ' H' => ∃ R : Addr, σ' = [some (.str (lineO o)), some (.ref L), some (.ref R), none, none, none, none, none] ∧ H' R = some (.tup (o.names.map V.str)) ∧ Same H1 H') (fun nx imp => ?_) ?_
      · refine ⟨_, rfl, _, rfl, _, rfl, _, rfl, L, _, rfl, SqL.of hL, fun C1 hC1 => ?_⟩
        rw [ecut] 
        refine ⟨C1, _, rfl, .inl ⟨SqL.of upd_same, fun R hR => imp _ _ ⟨R, rfl, upd_same, (same_new hC1 _).trans (same_new hR _)⟩⟩⟩
      rintro σ H2 ⟨R, rfl, hR, s2⟩
      have s12 := s1.trans s2
      have hL2 := s2 _ _ hL
      have P2 : ∀ {H' : Hp}, Same H2 H' → Tab T H' := fun {H'} sm => let ⟨ps, e⟩ := hP; ⟨ps, sm _ _ (s12 _ _ e)⟩
      have wat : ∀ (i j : Nat) (x : Str), i + j = 8 → ([Str.ofString "hidden", numT o.hidden, Str.ofString "alus", numT o.alus, Str.ofString "moves", numT o.moves, Str.ofString "cells", numT o.cells] : List Str)[i]? = some x → 1 ≤ j → atI ((wordsO o).map V.str) (-(j : Int)) = some (.str x) := by
        intro i j x hij hx hj
        unfold atI
        have e : ixN ((wordsO o).map V.str).length (-(j : Int)) = some (3 + o.names.length + i) := by
          unfold ixN
          rw [if_neg (by omega), wlm, if_pos (by omega)]
          congr 1
          omega
        rw [e]
        show ((wordsO o).map V.str)[3 + o.names.length + i]? = _
        rw [List.getElem?_map]
        unfold wordsO
        rw [List.getElem?_append_right (by rw [List.length_append]; show 3 + o.names.length ≤ _; omega)]
        have e2 : 3 + o.names.length + i - ([Str.ofString "bits", numT o.bits, Str.ofString "registers"] ++ o.names : List Str).length = i := by
          rw [List.length_append]
          show 3 + o.names.length + i - (3 + o.names.length) = i
          omega
        rw [e2, hx]
        rfl
      -- the numbers
      refine seq_cut (fun σ' H' => ∃ v7, σ' = [some (.str (lineO o)), some (.ref L), some (.ref R), some (.int o.hidden), some (.int o.alus), some (.int o.moves), some (.int o.cells), v7] ∧ Same H2 H') (fun nx imp => ?_) ?_
      · refine ⟨_, rfl, _, rfl, _, rfl, _, rfl, (by show 4 ≤ sizeLine; decide), fun t ht => ?_⟩
        have st := same_new ht (.tup [V.int (-7), V.int (-5), V.int (-3), V.int (-1)])
        refine ⟨t, rfl, ⟨_, SqT.of upd_same⟩, fun L4 hL4 => ?_⟩
        refine lc_tup (K := K) (a := t) (xs := [V.int (-7), V.int (-5), V.int (-3), V.int (-1)]) (fun i H3 => H3 L4 = some (.lst (([o.hidden, o.alus, o.moves, o.cells].take i).map V.int)) ∧ H3 t = some (.tup [V.int (-7), V.int (-5), V.int (-3), V.int (-1)]) ∧ Same H2 H3) ⟨upd_same, (by rw [upd_ne (ne_of_none upd_same hL4)]; exact upd_same), st.trans (same_new hL4 _)⟩ (fun i H3 _ z => SqT.of z.2.1) (fun i x H3 hx z => ?_) (fun H3 z => ?_)
        · obtain ⟨z1, z2, z3⟩ := z
          have hi : i < 4 := (List.getElem?_eq_some_iff.mp hx).1
          have hLs := SqL.of (K := K) (z3 _ _ hL2)
          have fin : ∀ (n : Int), ([o.hidden, o.alus, o.moves, o.cells] : List Int)[i]? = some n → ∃ acc, H3 L4 = some (.lst acc) ∧ acc.length < sizeLine ∧ (upd H3 L4 (.lst (acc ++ [V.int n]))) L4 = some (.lst (([o.hidden, o.alus, o.moves, o.cells].take (i + 1)).map V.int)) ∧ (upd H3 L4 (.lst (acc ++ [V.int n]))) t = some (.tup [V.int (-7), V.int (-5), V.int (-3), V.int (-1)]) ∧ Same H2 (upd H3 L4 (.lst (acc ++ [V.int n]))) := fun n hn => by
            refine ⟨_, z1, ?_, ?_, ?_, ?_⟩
            · rw [List.length_map, List.length_take]
              exact small1000 (by omega)
            · rw [upd_same, List.take_add_one, hn, List.map_append]
              rfl
            · rw [upd_ne (fun y => by rw [y, z1] at z2; cases z2)]
              exact z2
            · intro b u ee
              rw [upd_ne (ne_of_none ee (st.free hL4))]
              exact z3 _ _ ee
          refine ⟨rfl, ?_⟩
          match i, hi, hx, fin with
          | 0, _, hx, fin =>
            cases hx
            exact ⟨_, rfl, _, rfl, L, _, _, _, rfl, rfl, hLs, wat 1 7 _ rfl rfl (by decide), o.hidden, rfl, r2.1, r2.2, P2 z3, fin _ rfl⟩
          | 1, _, hx, fin =>
            cases hx
            exact ⟨_, rfl, _, rfl, L, _, _, _, rfl, rfl, hLs, wat 3 5 _ rfl rfl (by decide), o.alus, rfl, r3.1, r3.2, P2 z3, fin _ rfl⟩
          | 2, _, hx, fin =>
            cases hx
            exact ⟨_, rfl, _, rfl, L, _, _, _, rfl, rfl, hLs, wat 5 3 _ rfl rfl (by decide), o.moves, rfl, r4.1, r4.2, P2 z3, fin _ rfl⟩
          | 3, _, hx, fin =>
            cases hx
            exact ⟨_, rfl, _, rfl, L, _, _, _, rfl, rfl, hLs, wat 7 1 _ rfl rfl (by decide), o.cells, rfl, r5.1, r5.2, P2 z3, fin _ rfl⟩
        · obtain ⟨z1, z2, z3⟩ := z
          refine ⟨L4, _, rfl, SqL.of z1, rfl, _, _, rfl, _, _, rfl, _, _, rfl, _, _, rfl, rfl, imp _ _ ⟨_, rfl, z3⟩⟩
      rintro σ H3 ⟨v7, rfl, s3⟩
      have hw1 : atI ((wordsO o).map V.str) 1 = some (.str (numT o.bits)) := at_of (j := 1) rfl rfl
      refine ⟨_, rfl, L, _, _, _, rfl, rfl, SqL.of (s3 _ _ hL2), hw1, o.bits, rfl, r1.1, r1.2, P2 s3, _, rfl, _, rfl, _, rfl, _, rfl, _, rfl, (by show 6 ≤ sizeLine; decide), fun p hp => ?_⟩
      have sP := same_new hp (.tup [V.int o.bits, V.ref R, V.int o.hidden, V.int o.alus, V.int o.moves, V.int o.cells])
      exact q p _ (s12.trans (s3.trans sP)) (.tup upd_same (.cons (.int _) (.cons (.tup (sP _ _ (s3 _ _ hR)) (strs_tp _)) (.cons (.int _) (.cons (.int _) (.cons (.int _) (.cons (.int _) .nil)))))))
end
end My
set_option Elab.async false
set_option linter.all false
set_option maxRecDepth 100000
set_option maxHeartbeats 4000000
namespace L2
open PySem
end L2
namespace My
open PySem L2 TL
theorem met_nd : ∀ {xs acc : List Str}, xs.Nodup → (∀ x ∈ xs, x ∉ acc) → xs.foldl insS acc = acc ++ xs
  | [], acc, _, _ => (List.append_nil _).symm
  | x :: r, acc, nd, h => by
    have nd := List.nodup_cons.mp nd
    rw [List.foldl_cons]
    have e : insS acc x = acc ++ [x] := by
      unfold insS
      rw [if_neg (h x List.mem_cons_self)]
    rw [e, met_nd nd.2 fun y hy z => ?_, List.append_assoc]
    · rfl
    · rcases List.mem_append.mp z with z | z
      · exact h y (List.mem_cons_of_mem _ hy) z
      · rw [List.mem_singleton.mp z] at hy
        exact nd.1 hy
theorem letters_all : (List.range 123).all (fun c => decide (c < 97) || okC c) = true := by decide +kernel
theorem name_d {x : Str} (h : IsName x) : nameD (.str x) = true := by
  obtain ⟨a, b, c⟩ := name_len8 h
  show (decide (1 ≤ x.length) && decide (x.length ≤ 8) && x.cps.toList.all okC) = true
  rw [decide_eq_true a, decide_eq_true b]
  refine List.all_eq_true.mpr fun n hn => ?_
  have hc := c n hn
  have := List.all_eq_true.mp letters_all n (List.mem_range.mpr (by omega))
  rw [decide_eq_false (by omega)] at this
  exact this
theorem mach_true {o : OwnD} (hO : OwnOk o) {k : Addr} {H : Hp} {p : Addr} (hT : Tp H (.ref p) (ownD o)) : ∃ d, Lay k H (.ref p) d ∧ machD d = true := by
  obtain ⟨qa, hp, hq⟩ := own_inv hT
  obtain ⟨m, hN, h1, h2⟩ := hO.names
  have hl := hN.len
  have lay : ∀ {ns : List Str}, (∀ x ∈ ns, IsName x) → LayAll k H (ns.map V.str) (ns.map Dt.str) := fun {ns} hn => by
    induction ns with
    | nil => exact .nil
    | cons x r ih =>
      have := (name_len8 (hn x List.mem_cons_self)).2.1
      exact .cons (.str x (by omega)) (ih fun y hy => hn y (List.mem_cons_of_mem _ hy))
  refine ⟨.tup [.int o.bits, .tup (o.names.map Dt.str), .int o.hidden, .int o.alus, .int o.moves, .int o.cells], .tup hp (.cons (.int _) (.cons (.tup hq (lay hN.all)) (.cons (.int _) (.cons (.int _) (.cons (.int _) (.cons (.int _) .nil)))))), ?_⟩
  have hb := hO.bits
  have hh := hO.hidden
  have ha := hO.alus
  have hm := hO.moves
  have hc := hO.cells
  have er : regsD (.tup (o.names.map Dt.str)) = true := by
    show (decide (1 ≤ (o.names.map Dt.str).length) && decide ((o.names.map Dt.str).length ≤ 6) && (o.names.map Dt.str).all nameD && decide ((metS ((o.names.map Dt.str).map txtD)).length = (o.names.map Dt.str).length)) = true
    have e1 : (o.names.map Dt.str).map txtD = o.names := by
      rw [List.map_map]
      have : (txtD ∘ Dt.str) = id := rfl
      rw [this, List.map_id]
    have e2 : metS o.names = o.names := by
      have := met_nd (acc := []) hN.nd (fun x _ z => nomatch z)
      exact this
    have e3 : (o.names.map Dt.str).all nameD = true := List.all_eq_true.mpr fun d hd => by
      obtain ⟨x, hx, rfl⟩ := List.mem_map.mp hd
      exact name_d (hN.all x hx)
    rw [e1, e2, e3, List.length_map, decide_eq_true (p := 1 ≤ o.names.length) (by omega), decide_eq_true (p := o.names.length ≤ 6) (by omega), decide_eq_true rfl]
    rfl
  show ((decide (1 ≤ o.bits) && decide (o.bits ≤ 8)) && regsD (.tup (o.names.map Dt.str)) && (decide (1 ≤ o.alus) && decide (o.alus ≤ 3)) && (decide (1 ≤ o.moves) && decide (o.moves ≤ 3)) && (decide (0 ≤ o.hidden) && decide (o.hidden ≤ 12)) && (decide (0 ≤ o.cells) && decide (o.cells ≤ 2 ^ o.bits.toNat))) = true
  rw [er, decide_eq_true hb.1, decide_eq_true hb.2, decide_eq_true ha.1, decide_eq_true ha.2, decide_eq_true hm.1, decide_eq_true hm.2, decide_eq_true hh.1, decide_eq_true hh.2, decide_eq_true hc.1, decide_eq_true hc.2]
  rfl
structure DfT (K : PySem.W.Frag) (mg : Str → Option Value) extends DfM K mg where
  nr : Df K mg "number_read" sNumRead ["word"]
  mr : Df K mg "machine_read" sMachRead ["text"]
  im : Df K mg "is_machine" sIsMachine ["thing"]
  sh : Df K mg "show_machine" sShowM ["machine"]
section
variable {P : Program} {w : World} {K : PySem.W.Frag} {mg : Str → Option Value} {base : Heap}
theorem ok_read {T1 T2 T3 : Addr} {f : Addr} {fd : FuncData} (F : Fun K "read_machine" "read_machine" sReadM f fd) (D : DfT K mg) (C : Cs mg) (C2 : Cs2 mg) (gk1 : GenK base mg D.N.fd.code T1) (gk2 : GenK base mg D.R.fd.code T2) (gk3 : GenK base mg D.nr.fd.code T3) (B : Bl mg) : FnOk P w K mg base CX0 6 f fd ["text"] (spRead T1 T2 T3) := by
  have GR : FnOk P w K mg base CX0 5 D.mr.f D.mr.fd ["text"] (spMr T3) := (ok_mr D.mr.F D.nr C2 gk3 B).mono (by decide)
  have GI : FnOk P w K mg base CX0 5 D.im.f D.im.fd ["thing"] (spIsMachine T1 T2) := ok_isMachine D.im.F D.toDfM C gk1 gk2 B
  have GS : FnOk P w K mg base CX0 5 D.sh.f D.sh.fd ["machine"] spShow := (ok_show D.sh.F B).mono (by decide)
  refine F.ok scRead (fun vs H Q E h => ?_) (fun cdv A outer s H vs Q E hr1 h => ?_)
  · obtain ⟨o, rfl, _⟩ := h
    rfl
  · obtain ⟨o, rfl, hO, h1, h2, h3, q⟩ := h
    refine ⟨_, pss_cons (ps_set (i := 1) scRead.nd rfl (Or.inl rfl) (pe_call GR hr1 rfl D.mr.m D.mr.F.kp D.mr.b .nil pass0 (pa_cons (pv 0) pa_nil))) (pss_cons (ps_if (PW.pt (pw_or (pt_not (pt_val (pe_call GI hr1 rfl D.im.m D.im.F.kp D.im.b .nil pass0 (pa_cons (pv 1) pa_nil)))) (pw_or1 (pt_cmpR op_ne (pe_call GS hr1 rfl D.sh.m D.sh.F.kp D.sh.b .nil pass0 (pa_cons (pv 1) pa_nil)) (pv 0) (nomark _))))) (pss_one ps_no) pss_nil) (pss_one (ps_ret (pv 1)))), ?read⟩
    case read =>
      refine seq_cut (fun σ' H' => ∃ p : Addr, σ' = [some (.str (lineO o)), some (.ref p)] ∧ Tp H' (.ref p) (ownD o) ∧ Same H H') (fun nx imp => ?_) ?_
      · exact ⟨_, rfl, o, rfl, hO, h3, fun p H' s t => imp _ _ ⟨p, rfl, t, s⟩⟩
      rintro σ H1 ⟨p, rfl, T1', s1⟩
      have tb : ∀ {U : Addr}, Tab U H → Tab U H1 := fun {U} h => let ⟨ps, e⟩ := h; ⟨ps, s1 _ _ e⟩
      refine seq_cut (fun σ' H' => σ' = [some (.str (lineO o)), some (.ref p)] ∧ Same H1 H') (fun nx imp => ?_) ?_
      · obtain ⟨d, l, e⟩ := mach_true (k := 0) hO T1'
        refine ⟨_, rfl, .ref p, 0, d, rfl, l, tb h1, tb h2, fun H2 s2 => ?_⟩
        rw [e]
        refine ⟨_, rfl, iteF ⟨_, rfl, p, o, rfl, T1'.keep (KeepT.of s2), hO, _, rfl, rfl, _, rfl, ?_⟩⟩
        rw [decide_eq_true rfl]
        exact iteF (imp _ _ ⟨rfl, s2⟩)
      rintro σ H2 ⟨rfl, s2⟩
      exact ⟨_, rfl, q p H2 (s1.trans s2) (T1'.keep (KeepT.of s2))⟩
end
end My
set_option Elab.async false
set_option linter.all false
set_option maxRecDepth 100000
set_option maxHeartbeats 2000000
namespace L2
open PySem PySem.Spec PyProof.Rows
theorem pick_one (items : Array Value) : slicePick items none none (some 1) = items := by
  have e : slicePick items none none (some 1) = ((sliceRange 0 (items.size : Int) 1).filterMap (items[·]?)).toArray := rfl
  have r : sliceRange 0 (items.size : Int) 1 = List.range items.size := by
    unfold sliceRange
    by_cases h : (0 : Int) < (items.size : Int)
    · have e2 : ((items.size : Int) - 0 + 1 - 1) / 1 = (items.size : Int) := by rw [Int.ediv_one]; omega
      simp only [h, if_true, e2, Int.toNat_natCast, show ((1 : Int) > 0) from by decide]
      conv => rhs; rw [← List.map_id (List.range items.size)]
      apply List.map_congr_left
      intro k hk
      show ((0 : Int) + 1 * (k : Int)).toNat = k
      omega
    · have e2 : items.size = 0 := by omega
      rw [e2]
      simp
  rw [e, r, PySem.W.krv_all]
section
variable {X : Cx}
/-- xs[::k] of a list, k one or less one -/
def tStepL (K : PySem.W.Frag) (te ts : TE) : TE := fun σ H Q => te σ H fun x H1 => ts σ H1 fun y H2 => ∃ (a : Addr) (xs : List V) (k : Int), x = .ref a ∧ y = .int k ∧ (k = 1 ∨ k = -1) ∧ SqL K H2 a xs ∧ ∀ p, H2 p = none → Q (.ref p) (upd H2 p (.lst (if k = 1 then xs else xs.reverse)))
theorem pe_stepL {e st : Expr} {te ts : TE} {p2 pos : Pos} (he : PE X e te) (hst : PE X st ts) : PE X (.Subscript e (.Slice none none (some st) p2) pos) (tStepL X.K te ts) := by
  intro pins s σ H Q I h
  refine Subscript_ (thn (he s σ H _ I h) fun v s1 ⟨x, H1, I1, r1, q1⟩ => ?_)
  refine wpAny_Slice ?_
  rw [evalPart_none]
  refine wpAny_pure ?_
  refine wpAny_pure ?_
  show wpAny _ _ (eval st X.env) _ _ _
  refine thn (hst s1 σ H1 _ I1 q1) fun vs s3 ⟨y, H3, I3, r3, a, xs, k, ex, ey, hk, hx, q⟩ => ?_
  subst ex ey
  obtain ⟨t, rfl⟩ := r3
  cases r1
  have I4 : Inv X pins σ H3 { s3 with heap := s3.heap.push { cls := .type "slice", data := .fields #[.none, .none, .int k t] } } := I3.kept (t' := s3.toks) fun b ob q => Heap.get?_push_of_some _ q
  obtain ⟨its, r, hl, hz⟩ := I4.list hx
  have hlen : its.toArray.size = xs.length := by rw [List.size_toArray]; exact r.length.symm
  show wpAny (model X.prog X.w) X.A (subscriptTail e (.Slice none none (some st) p2) (.ref a) (.ref s3.heap.objs.size)) (EP X pins σ Q) X.xe { s3 with heap := s3.heap.push { cls := .type "slice", data := .fields #[.none, .none, .int k t] } }
  refine tail_any (ops := [.ref a, .ref s3.heap.objs.size]) hl.isList.typeIs PySem.list_getitem_lookup ?_ (by with_unfolding_all rfl)
  refine wpAny_getItem_list_slice hl.isList (Heap.IsSliceOf.new ..) .none .none (IsPart.int _ _) (by rcases hk with z | z <;> rw [z] <;> decide) ?_ (by rw [hlen]; exact hz)
  have ep : ∃ zs : List Value, slicePick its.toArray none none (some k) = zs.toArray ∧ Vals (if k = 1 then xs else xs.reverse) zs := by
    rcases hk with z | z
    · subst z
      exact ⟨its, pick_one _, r⟩
    · subst z
      exact ⟨its.reverse, by rw [PySem.W.krv_pick], vals_reverse r⟩
  obtain ⟨zs, e1, e2⟩ := ep
  rw [e1]
  refine ⟨.ref _, _, I4.laid (t' := s3.toks) (o := .lst (if k = 1 then xs else xs.reverse)) (fun b ob q => Heap.get?_push_of_some _ q) (Nat.le_refl _) ?_, rfl, q _ (I4.hok.fresh (Nat.le_refl _))⟩
  refine ⟨by split <;> first | exact hz | (rw [List.length_reverse]; exact hz), _, _, e2, Heap.get?_push_size _ rfl⟩
end
end L2
set_option Elab.async false
set_option linter.all false
set_option maxRecDepth 100000
set_option maxHeartbeats 2000000
namespace L2
open PySem PySem.Spec PyProof.Rows
section
variable {X : Cx}
def gSlc (to ta tc : TE) : TG := fun v σ H Q => to σ H fun x H1 => ta σ H1 fun y H2 => tc σ H2 fun z H3 => ∃ (l b : Addr) (xs ys : List V) (a c : Int), x = .ref l ∧ v = .ref b ∧ y = .int a ∧ z = .int c ∧ H3 l = some (.lst xs) ∧ H3 b = some (.lst ys) ∧ l ≠ b ∧ 0 ≤ a ∧ a ≤ c ∧ c ≤ xs.length ∧
  xs.length + ys.length ≤ sizeLine ∧ Q σ (upd H3 l (.lst (xs.take a.toNat ++ ys ++ xs.drop c.toNat)))
theorem pg_slc {o lo hi : Expr} {p2 pos : Pos} {to ta tc : TE} (ho : PE X o to) (hl : PE X lo ta) (hu : PE X hi tc)
    (ha : ∀ v, assign (.Subscript o (.Slice (some lo) (some hi) none p2) pos) X.env v = (do
      let ov ← holding [v] (eval o X.env)
      let iv ← holding [v, ov] (eval (.Slice (some lo) (some hi) none p2) X.env)
      standAt pos
      holding [v, ov, iv] (setItem ov iv v)
      release [iv, v, ov] []) := by intro _; rfl) : PG X (.Subscript o (.Slice (some lo) (some hi) none p2) pos) (gSlc to ta tc) := by
  intro pins s σ H v u Q I r h
  rw [ha]
  refine wpAny_bind (wpAny_holding (thn (ho s σ H _ I h) fun ov s1 ⟨x, H1, I1, r1, q1⟩ => ?_))
  refine wpAny_bind (wpAny_holding (wpAny_Slice ?_))
  show wpAny _ _ (eval lo X.env) _ _ _
  refine thn (hl s1 σ H1 _ I1 q1) fun vl s2 ⟨y, H2, I2, r2, q2⟩ => ?_
  show wpAny _ _ (eval hi X.env) _ _ _
  refine thn (hu s2 σ H2 _ I2 q2) fun vu s3 ⟨z, H3, I3, r3, l, b, xs, ys, a, c, ex, ev, ey, ez, e1, e2, ne, h0, hac, hc, hz, q⟩ => ?_
  subst ex ev ey ez
  rw [evalPart_none]
  refine wpAny_pure ?_
  have I4 : Inv X pins σ H3 { s3 with heap := s3.heap.push { cls := .type "slice", data := .fields #[vl, vu, .none] } } := I3.kept (t' := s3.toks) fun b ob q => Heap.get?_push_of_some _ q
  cases r1
  cases r
  refine wpAny_bind (wpAny_standAt (wpAny_bind (wpAny_holding ?_)))
  exact set_slice I4 e1 e2 ne (Heap.IsSliceOf.new ..) r2 r3 h0 hac hc hz fun s' I' => wpAny_release ⟨σ, _, I', q⟩
/-- the items of xs[a::c] -/
def stepV (xs : List V) (a c : Int) : List V := (sliceRange (sliceBounds (some a) none (some c) xs.length).1 (sliceBounds (some a) none (some c) xs.length).2.1 (sliceBounds (some a) none (some c) xs.length).2.2).filterMap (xs[·]?)
theorem vals_pick {xs : List V} {us : List Value} (r : Vals xs us) : ∀ l : List Nat, Vals (l.filterMap (xs[·]?)) (l.filterMap (us.toArray[·]?))
  | [] => .nil
  | i :: l => by
    have ih := vals_pick r l
    rw [List.filterMap_cons, List.filterMap_cons]
    cases e : xs[i]? with
    | none =>
      have e2 : us.toArray[i]? = none := by rw [List.getElem?_toArray]; exact r.none_of e
      rw [e2]
      exact ih
    | some x =>
      obtain ⟨u, hu, ru⟩ := r.get e
      have e2 : us.toArray[i]? = some u := by rw [List.getElem?_toArray]; exact hu
      rw [e2]
      exact .cons ru ih
def tStep2 (K : PySem.W.Frag) (te ta ts : TE) : TE := fun σ H Q => te σ H fun x H1 => ta σ H1 fun y H2 => ts σ H2 fun z H3 => ∃ (l : Addr) (xs : List V) (a c : Int), x = .ref l ∧ y = .int a ∧ z = .int c ∧ c ≠ 0 ∧ SqL K H3 l xs ∧ (stepV xs a c).length ≤ sizeLine ∧ ∀ p, H3 p = none → Q (.ref p) (upd H3 p (.lst (stepV xs a c)))
theorem pe_step2 {e lo st : Expr} {te ta ts : TE} {p2 pos : Pos} (he : PE X e te) (hlo : PE X lo ta) (hst : PE X st ts) : PE X (.Subscript e (.Slice (some lo) none (some st) p2) pos) (tStep2 X.K te ta ts) := by
  intro pins s σ H Q I h
  refine Subscript_ (thn (he s σ H _ I h) fun v s1 ⟨x, H1, I1, r1, q1⟩ => ?_)
  refine wpAny_Slice ?_
  show wpAny _ _ (eval lo X.env) _ _ _
  refine thn (hlo s1 σ H1 _ I1 q1) fun vl s2 ⟨y, H2, I2, r2, q2⟩ => ?_
  rw [evalPart_none]
  refine wpAny_pure ?_
  show wpAny _ _ (eval st X.env) _ _ _
  refine thn (hst s2 σ H2 _ I2 q2) fun vs s3 ⟨z, H3, I3, r3, l, xs, a, c, ex, ey, ez, hc, hx, hz, q⟩ => ?_
  subst ex ey ez
  obtain ⟨ta, rfl⟩ := r2
  obtain ⟨tc, rfl⟩ := r3
  cases r1
  have I4 : Inv X pins σ H3 { s3 with heap := s3.heap.push { cls := .type "slice", data := .fields #[.int a ta, .none, .int c tc] } } := I3.kept (t' := s3.toks) fun b ob q => Heap.get?_push_of_some _ q
  obtain ⟨its, r, hl, hz0⟩ := I4.list hx
  have hlen : its.toArray.size = xs.length := by rw [List.size_toArray]; exact r.length.symm
  show wpAny (model X.prog X.w) X.A (subscriptTail e (.Slice (some lo) none (some st) p2) (.ref l) (.ref s3.heap.objs.size)) (EP X pins σ Q) X.xe { s3 with heap := s3.heap.push { cls := .type "slice", data := .fields #[.int a ta, .none, .int c tc] } }
  refine tail_any (ops := [.ref l, .ref s3.heap.objs.size]) hl.isList.typeIs PySem.list_getitem_lookup ?_ (by with_unfolding_all rfl)
  refine wpAny_getItem_list_slice hl.isList (Heap.IsSliceOf.new ..) (IsPart.int _ _) .none (IsPart.int _ _) (fun e => hc (Option.some.inj e)) ?_ (by rw [hlen]; exact hz0)
  have ep : slicePick its.toArray (some a) none (some c) = ((sliceRange (sliceBounds (some a) none (some c) xs.length).1 (sliceBounds (some a) none (some c) xs.length).2.1 (sliceBounds (some a) none (some c) xs.length).2.2).filterMap (its.toArray[·]?)).toArray := by
    unfold slicePick
    rw [hlen]
  rw [ep]
  have rv := vals_pick r (sliceRange (sliceBounds (some a) none (some c) xs.length).1 (sliceBounds (some a) none (some c) xs.length).2.1 (sliceBounds (some a) none (some c) xs.length).2.2)
  refine ⟨.ref _, _, I4.laid (t' := s3.toks) (o := .lst (stepV xs a c)) (fun b ob q => Heap.get?_push_of_some _ q) (Nat.le_refl _) ?_, rfl, q _ (I4.hok.fresh (Nat.le_refl _))⟩
  exact ⟨hz, _, _, rv, Heap.get?_push_size _ rfl⟩
theorem op_repS : OpR X (binaryOp .Mult) (fun x y H Q => ∃ z n, x = .str z ∧ y = .int n ∧ PySem.MulOk z n ∧ Q (.str (Txt.mul z n)) H) := by
  intro pins s σ H x y v u Q I rx ry h
  obtain ⟨z, n, rfl, rfl, hm, q⟩ := h
  obtain ⟨t, rfl⟩ := rx
  obtain ⟨t2, rfl⟩ := ry
  exact SB.mul hm fun t' k => ⟨.str _, H, I.tok _, ⟨_, rfl⟩, q⟩
theorem all_eq_strs : ∀ (xs ys : List Str), xs.length = ys.length → ((List.range xs.length).all fun j => decide (xs.getD j Str.empty = ys.getD j Str.empty)) = decide (xs = ys) := by
  intro xs ys hl
  by_cases e : xs = ys
  · subst e
    rw [decide_eq_true rfl]
    exact List.all_eq_true.mpr fun j _ => decide_eq_true rfl
  · rw [decide_eq_false e]
    refine Bool.eq_false_iff.mpr fun h => e ?_
    refine List.ext_getElem hl fun j h1 h2 => ?_
    have := of_decide_eq_true (List.all_eq_true.mp h j (List.mem_range.mpr h1))
    rw [List.getD_eq_getElem?_getD, List.getD_eq_getElem?_getD, List.getElem?_eq_getElem h1, List.getElem?_eq_getElem h2] at this
    exact this
theorem op_neS (hu : X.A.units + 64 < cLine) : OpR X (compareOp .NotEq) (fun x y H Q => ∃ (a b : Addr) (xs ys : List Str), x = .ref a ∧ y = .ref b ∧ SqL X.K H a (xs.map V.str) ∧ SqL X.K H b (ys.map V.str) ∧ Q (.bl (!decide (xs = ys))) H) := by
  intro pins s σ H x y v u Q I rx ry h
  obtain ⟨a, b, xs, ys, rfl, rfl, h1, h2, q⟩ := h
  cases rx
  cases ry
  have hu' : X.A.units < cLine := by omega
  obtain ⟨its, r1, p1, _⟩ := I.list h1
  obtain ⟨jts, r2, p2, _⟩ := I.list h2
  have l1 : its.length = xs.length := by rw [← r1.length, List.length_map]
  have l2 : jts.length = ys.length := by rw [← r2.length, List.length_map]
  by_cases hl : xs.length = ys.length
  · have he : ∀ j (j1 : j < its.toArray.size) (j2 : j < jts.toArray.size), SeqAt.EqAt X.A.in1 s its.toArray[j] jts.toArray[j] (decide (xs.getD j Str.empty = ys.getD j Str.empty)) := fun j j1 j2 => by
      have k1 : j < its.length := by simpa using j1
      have k2 : j < jts.length := by simpa using j2
      have x1 : (xs.map V.str)[j]? = some (.str xs[j]) := by rw [List.getElem?_map, List.getElem?_eq_getElem (by omega)]; rfl
      have y1 : (ys.map V.str)[j]? = some (.str ys[j]) := by rw [List.getElem?_map, List.getElem?_eq_getElem (by omega)]; rfl
      obtain ⟨u1, e1, t1, q1⟩ := r1.get x1
      obtain ⟨u2, e2, t2, q2⟩ := r2.get y1
      rw [List.getElem?_eq_getElem k1] at e1
      rw [List.getElem?_eq_getElem k2] at e2
      have w1 : its.toArray[j] = .str xs[j] t1 := by simp only [List.getElem_toArray]; rw [Option.some.inj e1, q1]
      have w2 : jts.toArray[j] = .str ys[j] t2 := by simp only [List.getElem_toArray]; rw [Option.some.inj e2, q2]
      rw [w1, w2]
      have g1 : xs.getD j Str.empty = xs[j] := by rw [List.getD_eq_getElem?_getD, List.getElem?_eq_getElem (by omega)]; rfl
      have g2 : ys.getD j Str.empty = ys[j] := by rw [List.getD_eq_getElem?_getD, List.getElem?_eq_getElem (by omega)]; rfl
      rw [g1, g2]
      exact SeqAt.EqAt.str_str _ _ _ _
    have hsz : its.toArray.size = xs.length := by rw [List.size_toArray]; exact l1
    have z := SeqAt.RcNeAt.lists p1.isList p2.isList (by rw [List.size_toArray, List.size_toArray]; omega) hu' he
    rw [hsz, all_eq_strs xs ys hl] at z
    exact z X.prog X.w X.xe _ ⟨.bl _, H, I, rfl, q⟩
  · have : decide (xs = ys) = false := decide_eq_false fun e => hl (by rw [e])
    rw [this] at q
    exact SeqAt.RcNeAt.lists_lengths p1.isList p2.isList (by rw [List.size_toArray, List.size_toArray, l1, l2]; exact bne_iff_ne.mpr hl) hu' X.prog X.w X.xe _ ⟨.bl true, H, I, rfl, q⟩
end
end L2
set_option Elab.async false
set_option linter.all false
set_option maxRecDepth 100000
set_option maxHeartbeats 4000000
namespace L2
open PySem PySem.Spec PyProof.Rows
open Sem (wp)
/-- every object's dict is as it was -/
def DK (h h' : Heap) : Prop := ∀ b o, h.get? b = some o → ∃ o', h'.get? b = some o' ∧ o'.dict = o.dict
theorem DK.refl (h : Heap) : DK h h := fun _ o e => ⟨o, e, rfl⟩
theorem DK.trans {h h1 h2 : Heap} (x : DK h h1) (y : DK h1 h2) : DK h h2 := fun b o e => by
  obtain ⟨o1, e1, d1⟩ := x b o e
  obtain ⟨o2, e2, d2⟩ := y b o1 e1
  exact ⟨o2, e2, d2.trans d1⟩
theorem DK.upd {h : Heap} {a : Addr} {f : Obj → Obj} (hd : ∀ o, (f o).dict = o.dict) (hr : ∀ o, o.isFreed = false → (f o).isFreed = false) : DK h (h.update a f) := fun b o e => by
  by_cases q : b = a
  · subst q
    exact ⟨f o, Heap.get?_update_self f e (hr o (Heap.get?_some_iff.mp e).2), hd o⟩
  · exact ⟨o, (Heap.get?_update_other h f (Ne.symm q)).trans e, rfl⟩
theorem mapF_dict (g : Array Value → Array Value) (o : Obj) : (o.mapFields g).dict = o.dict := by
  obtain ⟨c, d, x, s⟩ := o
  cases x <;> rfl
theorem mapF_freed (g : Array Value → Array Value) (o : Obj) (h : o.isFreed = false) : (o.mapFields g).isFreed = false := by
  obtain ⟨c, d, x, s⟩ := o
  cases x <;> first | rfl | exact h
structure KpD {α : Type} (t : Sem α) : Prop where
  out : ∀ (M : Model) (Γ : PySem.Ctx) (P : α → Pos → Shared → Prop) (Ee : Value → Pos → Shared → Prop) (p : Pos) (s : Shared), wp M Γ t P Ee p s → wp M Γ t (fun a p' s' => P a p' s' ∧ DK s.heap s'.heap) Ee p s
namespace KpD
variable {α β : Type}
theorem pure (a : α) : KpD (Pure.pure a : Sem α) := ⟨fun M Γ P Ee p s h => by
  rw [Sem.wp_pure'] at h ⊢
  exact ⟨h, DK.refl _⟩⟩
theorem unsupported (w : String) : KpD (PySem.unsupported w : Sem α) := ⟨fun M Γ P Ee p s h => h.elim⟩
theorem bind {m : Sem α} {f : α → Sem β} (hm : KpD m) (hf : ∀ a, KpD (f a)) : KpD (m >>= f) := ⟨fun M Γ P Ee p s h => by
  rw [Sem.wp_bind'] at h ⊢
  exact Sem.wp_mono M Γ m (fun a p' s' h' => Sem.wp_mono M Γ (f a) (fun b p2 s2 h2 => ⟨h2.1, h'.2.trans h2.2⟩) (fun _ _ _ x => x) p' s' ((hf a).out M Γ P Ee p' s' h'.1)) (fun _ _ _ x => x) p s (hm.out M Γ _ Ee p s h)⟩
theorem ite {c : Prop} [Decidable c] {t u : Sem α} (ht : KpD t) (hu : KpD u) : KpD (if c then t else u) := by split <;> assumption
theorem load (a : Addr) : KpD (PySem.load a) := ⟨fun M Γ P Ee p s h => by
  obtain ⟨o, ho, h⟩ := h
  exact ⟨o, ho, h, DK.refl _⟩⟩
theorem stack : KpD PySem.stack := ⟨fun M Γ P Ee p s h => by
  unfold PySem.stack at h ⊢
  rw [Sem.wp_stack] at h ⊢
  exact ⟨h, DK.refl _⟩⟩
theorem update (a : Addr) (f : Obj → Obj) (hd : ∀ o, (f o).dict = o.dict) (hr : ∀ o, o.isFreed = false → (f o).isFreed = false) : KpD (PySem.update a f) := ⟨fun M Γ P Ee p s h => by
  obtain ⟨z, h⟩ := h
  exact ⟨z, h, DK.upd hd hr⟩⟩
theorem alloc (o : Obj) : KpD (PySem.alloc o) := ⟨fun M Γ P Ee p s h => ⟨h, fun b o e => ⟨o, Heap.get?_push_of_some _ e, rfl⟩⟩⟩
theorem field (v : Value) (i : Nat) : KpD (PySem.field v i) := ⟨fun M Γ P Ee p s h => by
  rw [wp_field_iff] at h ⊢
  obtain ⟨a, o, vs, x, e1, e2, e3, e4, h⟩ := h
  exact ⟨a, o, vs, x, e1, e2, e3, e4, h, DK.refl _⟩⟩
theorem setField (v : Value) (i : Nat) (x : Value) : KpD (PySem.setField v i x) := ⟨fun M Γ P Ee p s h => by
  rw [wp_setField_iff] at h ⊢
  obtain ⟨a, o, vs, e1, e2, e3, e4, h⟩ := h
  exact ⟨a, o, vs, e1, e2, e3, e4, h, DK.upd (mapF_dict _) (mapF_freed _)⟩⟩
end KpD
theorem kpd_import (env : Env) (outer : List Env) : KpD (behindIsImport env outer) := by
  unfold behindIsImport
  (repeat' with_reducible first | assumption | exact KpD.pure _ | exact KpD.unsupported _ | exact KpD.field _ _ | exact KpD.setField _ _ _ | exact KpD.load _ | exact KpD.stack | exact KpD.alloc _ | apply KpD.ite | apply KpD.bind | intro _ | split)
theorem kpd_under : KpD underTheClaimsCaller := by
  unfold underTheClaimsCaller
  (repeat' with_reducible first | assumption | exact KpD.pure _ | exact KpD.unsupported _ | exact KpD.field _ _ | exact KpD.setField _ _ _ | exact KpD.load _ | exact KpD.stack | exact KpD.alloc _ | apply KpD.ite | apply KpD.bind | intro _ | split)
theorem kpd_back (env : Env) (i : Bool) (l : List Env) : KpD (keptBack env i l) := by
  have := kpd_under
  cases l <;> unfold keptBack <;> (repeat' with_reducible first | assumption | exact KpD.pure _ | exact KpD.unsupported _ | exact KpD.field _ _ | exact KpD.setField _ _ _ | exact KpD.load _ | exact KpD.stack | exact KpD.alloc _ | apply KpD.ite | apply KpD.bind | intro _ | split)
theorem kpd_ready : ∀ l : List Env, KpD (readyFrames l)
  | [] => KpD.pure _
  | env :: outer => by
    have ih := kpd_ready outer
    have h1 := kpd_import env outer
    have h2 := fun i => kpd_back env i outer
    unfold readyFrames
    (repeat' with_reducible first | assumption | exact KpD.pure _ | exact KpD.unsupported _ | exact KpD.field _ _ | exact KpD.setField _ _ _ | exact KpD.load _ | exact KpD.stack | exact KpD.alloc _ | apply KpD.ite | apply KpD.bind | intro _ | split)
    all_goals first | exact h2 _ | exact KpD.update _ _ (fun _ => rfl) (fun o h => by obtain ⟨c, d, x, sl⟩ := o; cases x <;> first | rfl | exact h) | skip
theorem kpd_frame (l : List Env) : KpD (frameObject l) := by
  cases l with
  | nil => exact KpD.pure _
  | cons env outer =>
    have := kpd_ready (env :: outer)
    unfold frameObject
    (repeat' with_reducible first | assumption | exact KpD.pure _ | exact KpD.unsupported _ | exact KpD.field _ _ | exact KpD.setField _ _ _ | exact KpD.load _ | exact KpD.stack | exact KpD.alloc _ | apply KpD.ite | apply KpD.bind | intro _ | split)
theorem kpd_envs : KpD frameEnvs := by
  unfold frameEnvs
  (repeat' with_reducible first | assumption | exact KpD.pure _ | exact KpD.unsupported _ | exact KpD.field _ _ | exact KpD.setField _ _ _ | exact KpD.load _ | exact KpD.stack | exact KpD.alloc _ | apply KpD.ite | apply KpD.bind | intro _ | split)
theorem kpd_frameOf (env : Env) : KpD (PySem.frameOf env) := by
  have h1 := kpd_envs
  have h2 := kpd_frame
  unfold PySem.frameOf
  (repeat' with_reducible first | assumption | exact KpD.pure _ | exact KpD.unsupported _ | exact KpD.field _ _ | exact KpD.setField _ _ _ | exact KpD.load _ | exact KpD.stack | exact KpD.alloc _ | apply KpD.ite | apply KpD.bind | intro _ | split)
  all_goals first | exact h2 _ | skip
theorem kpd_place (f : Addr) (b : Bool) : KpD (entryPlaceOf f b) := by
  unfold entryPlaceOf
  (repeat' with_reducible first | assumption | exact KpD.pure _ | exact KpD.unsupported _ | exact KpD.field _ _ | exact KpD.setField _ _ _ | exact KpD.load _ | exact KpD.stack | exact KpD.alloc _ | apply KpD.ite | apply KpD.bind | intro _ | split)
theorem kpd_entry (a b c d e : Value) (pl : List Value) : KpD (EntryCells.newEntry a b c d e pl) := by
  unfold EntryCells.newEntry newFields newObj newObjAsIs
  (repeat' with_reducible first | assumption | exact KpD.pure _ | exact KpD.unsupported _ | exact KpD.field _ _ | exact KpD.setField _ _ _ | exact KpD.load _ | exact KpD.stack | exact KpD.alloc _ | apply KpD.ite | apply KpD.bind | intro _ | split)
theorem kpd_note (e : Value) (env : Env) : KpD (noteFrame e env) := by
  have h1 := kpd_frameOf env
  have h2 := kpd_place
  have h3 := kpd_entry
  unfold noteFrame
  (repeat' with_reducible first | assumption | exact KpD.pure _ | exact KpD.unsupported _ | exact KpD.field _ _ | exact KpD.setField _ _ _ | exact KpD.load _ | exact KpD.stack | exact KpD.alloc _ | apply KpD.ite | apply KpD.bind | intro _ | split)
  all_goals first | exact h2 _ _ | exact h3 _ _ _ _ _ _ | skip
theorem kpd_flight (e : Value) (f : Option Addr) : KpD (setFlight e f) := by
  unfold setFlight
  (repeat' with_reducible first | assumption | exact KpD.pure _ | exact KpD.unsupported _ | exact KpD.field _ _ | exact KpD.setField _ _ _ | exact KpD.load _ | exact KpD.stack | exact KpD.alloc _ | apply KpD.ite | apply KpD.bind | intro _ | split)
theorem kpd_leaving (env : Env) (e : Value) : KpD (leaving env e) := (kpd_note e env).bind fun _ => kpd_flight e none
theorem KpD.any {α : Type} {t : Sem α} (k : KpD t) {M : Model} {A : Around} {Q : α → Shared → Prop} {E : Value → Shared → Prop} {s : Shared} (h : wpAny M A t Q E s) : wpAny M A t (fun a s' => Q a s' ∧ DK s.heap s'.heap) E s :=
  fun Γ p hA => k.out M Γ (fun a _ s' => Q a s') (fun e _ s' => E e s') p s (h Γ p hA)
end L2
set_option Elab.async false
set_option linter.all false
set_option maxRecDepth 100000
set_option maxHeartbeats 4000000
namespace L2
open PySem PySem.Spec PyProof.Rows
open Sem (wp)
section
variable {prog : Program} {w : World} {A : Around} {E : Value → Shared → Prop} {h : Heap} {g : Array GenState} {d : Drawn} {t : Nat} {os : OsState}
variable {nm q : Str} {C N : Addr} {bs bm bmB : List Value} {hdct : Bool} {sn : List Str} {sub : List Value} {ab : Bool} {col : Option Bool} {dd : Option Addr} {k0 k1 k2 k3 k5 : Option Value} {B newId initId : String}
/-- type.__call__ of an own class of errors that has its own __init__ -/
theorem tyc_own (fb : ExcBaseFacts B newId initId bmB) (tl : OwnTail h bmB bm) {us : List Value} {fI : Addr} {oI : Obj} {Q : Fin → Shared → Prop}
    (kC : h.get? C = some (excClassObj nm q C N bs bm hdct sn sub ab col dd k0 k1 k2 k3 k5 newId)) (ki : PySem.W.Looks (model prog w) h (typeLookup (.ref C) "__init__") (some (.ref fI)))
    (kf : h.get? fI = some oI) (kc : oI.cls = .type "function") (kl : us.length ≤ sizeLine)
    (kq : ∀ h' e, Heap.MadeExcOf h h' e (.ref C) us →
      wpAny (model prog w) A (call (.ref fI) (.ref e :: us)) (fun r s' => r = .none ∧ Q (.done (.ret (.ref e))) s') E ⟨h', g, d, t, os⟩) :
    wpAny (model prog w) A (Builtin.«type.__call__» ⟨.ref C :: us, []⟩) Q E ⟨h, g, d, t, os⟩ := by
  repeat (first | with_reducible refine wpAny_loadPart_at kC ?_ | with_reducible refine wpAny_madeBy_exc kC ?_ | wp_step)
  refine codeAny_call_builtin_code (Code.quiet_builtin _ fb.quiet) (wpAny_check_new_subT fb tl kC ?_)
  refine codeAny_exc_new_subT fb tl kC ?_ kl
  show wpAny _ _ _ _ _ _
  have kC1 := Heap.get?_push_of_some { cls := .ref C, data := .fields #[.ref h.objs.size, .none, .none, .none, .bool false, .none] }
    (Heap.get?_push_of_some { cls := .type "tuple", data := .seq us.toArray } kC)
  have kf1 := Heap.get?_push_of_some { cls := .ref C, data := .fields #[.ref h.objs.size, .none, .none, .none, .bool false, .none] }
    (Heap.get?_push_of_some { cls := .type "tuple", data := .seq us.toArray } kf)
  have ki1 := ki.keeps (h' := (h.push { cls := .type "tuple", data := .seq us.toArray }).push { cls := .ref C, data := .fields #[.ref h.objs.size, .none, .none, .none, .bool false, .none] })
    fun b o e => Heap.get?_push_of_some _ (Heap.get?_push_of_some _ e)
  have kg : ((h.push { cls := .type "tuple", data := .seq us.toArray }).push
      { cls := .ref C, data := .fields #[.ref h.objs.size, .none, .none, .none, .bool false, .none] }).get? (h.objs.size + 1) = some
      { cls := .ref C, data := .fields #[.ref h.objs.size, .none, .none, .none, .bool false, .none] } := by heap_get
  have kcc : (Value.ref C :: bm).contains (.ref C) = true := by simp
  have tl1 := tl.keeps (h' := (h.push { cls := .type "tuple", data := .seq us.toArray }).push { cls := .ref C, data := .fields #[.ref h.objs.size, .none, .none, .none, .bool false, .none] })
    fun b o e => Heap.get?_push_of_some _ (Heap.get?_push_of_some _ e)
  unfold isInstance
  repeat (first | with_reducible refine wpAny_loadPart_at kg ?_ | (with_reducible refine wpAny_isSubtype_exc kC1 ?_; rw [kcc]) | wp_step)
  show wpAny _ _ (typeLookup (.ref C) _) _ _ _
  refine ki1.at ?_
  refine wpAny_holding (wpAny_bind ?_)
  unfold bindSpecial
  refine wpAny_bind (wpAny_typeOf (T := "function") ⟨_, kf1, kc⟩ ?_)
  rw [if_pos (by decide)]
  refine wpAny_pure (wpAny_bind (wpAny_mono (kq _ (h.objs.size + 1) ⟨fun b o hb => Heap.get?_push_of_some _ (Heap.get?_push_of_some _ hb), Heap.get?_none_of_le (Nat.le_succ _), h.objs.size, kg, Heap.get?_none_of_le (Nat.le_refl _), ?_⟩) (fun r s' kr => ?_) fun _ _ x => x))
  · exact Heap.get?_push_of_some _ (Heap.get?_push_at rfl rfl)
  · obtain ⟨rfl, z⟩ := kr
    wp_walk
    exact z
/-- C(..), C an own class of errors with its own __init__ -/
theorem call_own (fb : ExcBaseFacts B newId initId bmB) (tl : OwnTail h bmB bm) {us : List Value} {fI : Addr} {oI : Obj} {Q : Value → Shared → Prop}
    (kC : h.get? C = some (excClassObj nm q C N bs bm hdct sn sub ab col dd k0 k1 k2 k3 k5 newId)) (ki : PySem.W.Looks (model prog w) h (typeLookup (.ref C) "__init__") (some (.ref fI)))
    (kf : h.get? fI = some oI) (kc : oI.cls = .type "function") (kl : us.length ≤ sizeLine)
    (kq : ∀ h' e, Heap.MadeExcOf h h' e (.ref C) us →
      wpAny (model prog w) (A.under (.builtin "type.__call__" ⟨.ref C :: us, []⟩)) (call (.ref fI) (.ref e :: us)) (fun r s' => r = .none ∧ Q (.ref e) s') E ⟨h', g, d, t, os⟩) :
    wpAny (model prog w) A (call (.ref C) us) Q E ⟨h, g, d, t, os⟩ := by
  have f1 := tc_lookup
  have f2 := tc_bind (.ref C)
  have kT : (⟨h, g, d, t, os⟩ : Shared).TypeIs (.ref C) "type" := ⟨_, kC, rfl⟩
  refine wpAny_call (codeAny_of_tree ?_)
  show wpAny _ _ (callAny (.ref C) _) _ _ _
  repeat (any_goals (first | assumption | with_reducible refine wpAny_loadPart_at kC ?_ | wp_step))
  refine ⟨rfl, ?_⟩
  refine codeAny_call_builtin_at (Code.quiet_builtin _ (by decide +kernel)) entry_typeCall (wpAny_check_type_call_sub kC (tyc_own fb tl kC ki kf kc kl fun h' e hm => ?_))
  exact kq h' e hm
end
theorem wd_get : Slot "wrapper_descriptor" "__get__" "wrapper_descriptor.__get__" := .of (owner := "wrapper_descriptor") (n := "__get__") (by rw [typeLookup_type, builtinLookup_eq_fast]; kernel_rfl) (by decide +kernel) (by decide +kernel) (by decide +kernel)
  (by first | exact .inl (by decide +kernel) | exact .inr (by decide +kernel)) (by rw [isSubtype_type]; kernel_rfl)
theorem wd_entry : entryFor table "wrapper_descriptor.__get__" = some Builtin.«wrapper_descriptor.__get__» := entryFor_of_tree (by kernel_rfl)
theorem wd_args (a b c : Value) : argsOk "wrapper_descriptor.__get__" ⟨[a, b, c], []⟩ := by unfold argsOk; kernel_rfl
theorem ve_type : typeOf (.builtin "ValueError.__init__") = pure (.type "wrapper_descriptor") := by kernel_rfl
end L2
set_option Elab.async false
set_option linter.all false
set_option maxRecDepth 100000
set_option maxHeartbeats 4000000
namespace L2
open PySem PySem.Spec PyProof.Rows PySem.W
open Sem (wp)
section
variable {prog : Program} {w : World} {A : Around} {E : Value → Shared → Prop} {h : Heap} {g : Array GenState} {d : Drawn} {t : Nat} {os : OsState}
abbrev mwObj (id : String) (x : Addr) : Obj := { cls := .type "method-wrapper", dict := none, data := .fields #[.builtin id, .ref x], slots := #[] }
theorem own_of_id : ".".intercalate ("ValueError.__init__".cutAt '.').dropLast = "ValueError" := by kernel_rfl
/-- the binding of a slot of ValueError to an object of an own class of errors -/
theorem mw_bind {x C : Addr} {tp : Value} {ox : Obj} {Q : Fin → Shared → Prop} (kx : h.get? x = some ox) (kxc : ox.cls = .ref C) (ks : Looks (model prog w) h (isSubtype (.ref C) (.type "ValueError")) true)
    (kt : (tp == Value.none) = false)
    (kq : Q (.done (.ret (.ref h.objs.size))) ⟨h.push (mwObj "ValueError.__init__" x), g, d, t, os⟩) :
    wpAny (model prog w) A (Builtin.«wrapper_descriptor.__get__» ⟨[.builtin "ValueError.__init__", .ref x, tp], []⟩) Q E ⟨h, g, d, t, os⟩ := by
  unfold Builtin.«wrapper_descriptor.__get__»
  repeat (first
    | (with_reducible refine Looks.at ks ?_)
    | (rw [own_of_id]; with_reducible refine Looks.at ks ?_)
    | (with_reducible refine wpAny_loadPart_at kx ?_; rw [kxc])
    | (with_reducible refine wpAny_newObj_type ?_ (by size_fits))
    | wp_step)
  all_goals exact kq
/-- super().__init__ where the next class along is ValueError -/
theorem sup_ga {so D x C : Addr} {l0 l : List Value} {K : Frag} {name : Str} {tk : Tok} {ox : Obj} {Q : Fin → Shared → Prop}
    (hso : h.get? so = some (ks_superObj D x C)) (hno : Looks (model prog w) h (opaqueClassAbove (.ref C)) none)
    (hC : Looks (model prog w) h (mroOf (.ref C)) l0) (hl : (l0.dropWhile (· != .ref D)).drop 1 = l) (X : K.In h)
    (hf : alongIn K name l = some (some (.builtin "ValueError.__init__"))) (kx : h.get? x = some ox) (kxc : ox.cls = .ref C) (ks : Looks (model prog w) h (isSubtype (.ref C) (.type "ValueError")) true) (hxC : x ≠ C) (hn : (name == ("__class__" : Str)) = false)
    (kq : Q (.done (.ret (.ref h.objs.size))) ⟨h.push (mwObj "ValueError.__init__" x), g, d, t, os⟩) :
    wpAny (model prog w) A (Builtin.«super.__getattribute__» ⟨[.ref so, .str name tk], []⟩) Q E ⟨h, g, d, t, os⟩ := by
  have hlk := wd_get.lookup
  have hne : (Value.ref x == Value.ref C) = false := by simp [hxC]
  have hty := ve_type
  have hTf : (⟨h, g, d, t, os⟩ : Shared).TypeIs (.builtin "ValueError.__init__") "wrapper_descriptor" := ve_type
  have hdt : (ks_superObj D x C).data = .fields #[.ref D, .ref x, .ref C] := rfl
  have f0 : (#[.ref D, .ref x, .ref C] : Array Value)[0]? = some (.ref D) := rfl
  have f1 : (#[.ref D, .ref x, .ref C] : Array Value)[1]? = some (.ref x) := rfl
  have f2 : (#[.ref D, .ref x, .ref C] : Array Value)[2]? = some (.ref C) := rfl
  unfold Builtin.«super.__getattribute__»
  repeat (first
    | (with_reducible refine wpAny_field hso hdt f0 ?_) | (with_reducible refine wpAny_field hso hdt f1 ?_) | (with_reducible refine wpAny_field hso hdt f2 ?_)
    | (with_reducible refine ks_wpAny_notOpaque hno ?_)
    | (with_reducible refine Looks.at hC ?_; rw [hl])
    | (refine ks_forIn_along X (fun _ _ => rfl) rfl ?_ hf)
    | (with_reducible refine wpAny_typeOf hTf ?_)
    | (with_reducible refine wpAny_call_entry wd_get hTf wd_entry ?_ (wd_args _ _ _))
    | (with_reducible refine mw_bind kx kxc ks rfl ?_)
    | (with_reducible refine ⟨_, rfl, ?_⟩)
    | (simp only [hn, hne, Bool.or_false, Bool.false_eq_true, if_false])
    | wp_step
    | dsimp only)
  all_goals exact kq
theorem sup_meth {so D x C : Addr} {l0 l : List Value} {K : Frag} {name : Str} {ox : Obj} {pl : Sem Bool} {Q : Value × List Value → Shared → Prop}
    (hso : h.get? so = some (ks_superObj D x C)) (hno : Looks (model prog w) h (opaqueClassAbove (.ref C)) none)
    (hC : Looks (model prog w) h (mroOf (.ref C)) l0) (hl : (l0.dropWhile (· != .ref D)).drop 1 = l) (X : K.In h)
    (hf : alongIn K name l = some (some (.builtin "ValueError.__init__"))) (kx : h.get? x = some ox) (kxc : ox.cls = .ref C) (ks : Looks (model prog w) h (isSubtype (.ref C) (.type "ValueError")) true) (hxC : x ≠ C) (hn : (name == ("__class__" : Str)) = false)
    (kq : Q (.ref h.objs.size, []) ⟨h.push (mwObj "ValueError.__init__" x), g, d, t + 1, os⟩) :
    wpAny (model prog w) A (getMethod (.ref so) name pl) Q E ⟨h, g, d, t, os⟩ := by
  have hlk := F.ks_slot_super_ga.lookup
  have hcan := F.ks_canon_super_ga
  have hT : ∀ u, (⟨h, g, d, u, os⟩ : Shared).TypeIs (.ref so) "super" := fun _ => ⟨_, hso, rfl⟩
  unfold getMethod
  refine wpAny_bind (wpAny_specialOf (hT _) hlk ?_)
  show wpAny _ _ (if (Manifest.canonical "super.__getattribute__" != "object.__getattribute__") = true then _ else _) _ _ _
  rw [if_pos hcan]
  unfold getAttr getAttrBy
  refine wpAny_bind (wpAny_bind (wpAny_mkText (wpAny_holding (wpAny_bind (wpAny_typeOf (hT _) (wpAny_bind (wpAny_of_eq hlk ?_)))))))
  show wpAny _ _ (getAttrByItsOwn (.ref so) (.str name t) (.type "super") (.builtin "super.__getattribute__") true false) _ _ _
  unfold getAttrByItsOwn hookBefore callGetattribute boundAndCalled
  refine wpAny_bind (wpAny_of_eq (show (if onTheHeap (.type "super") then typeLookup (.type "super") "__getattr__" else pure none) = pure none from rfl) ?_)
  refine wpAny_bind (wpAny_attempt (wpAny_holding ?_))
  show wpAny _ _ (bindSpecial (.builtin "super.__getattribute__") (.ref so) >>= _) _ _ _
  refine wpAny_bind (wpAny_of_eq (F.ks_slot_super_ga.bind _) ?_)
  refine wpAny_mono (Q := fun v s' => v = .ref h.objs.size ∧ s' = ⟨h.push (mwObj "ValueError.__init__" x), g, d, t + 1, os⟩) (E := fun _ _ => False)
    (wpAny_call_entry F.ks_slot_super_ga (hT _) F.ks_entry_super_ga (sup_ga hso hno hC hl X hf kx kxc ks hxC hn ⟨_, rfl, rfl, rfl⟩) (F.ks_gaArgs_super _ _)) (fun v s' hv => ?_) fun _ _ z => z.elim
  obtain ⟨rfl, rfl⟩ := hv
  exact wpAny_pure (wpAny_pure kq)
variable {nm q : Str} {C N : Addr} {bs bm : List Value} {hdct : Bool} {sn : List Str} {sub : List Value} {ab : Bool} {col : Option Bool} {dd : Option Addr} {k0 k1 k2 k3 k5 : Option Value} {newId : String}
theorem mw_check {M : Model} {x : Addr} {us : List Value} {ox : Obj} {Q : Unit → Shared → Prop} (kC : h.get? C = some (excClassObj nm q C N bs bm hdct sn sub ab col dd k0 k1 k2 k3 k5 newId)) (kx : h.get? x = some ox) (kxc : ox.cls = .ref C)
    (kq : Q () ⟨h, g, d, t, os⟩) : wpAny M A (checkBoundCall "ValueError.__init__" { pos := Value.ref x :: us }) Q E ⟨h, g, d, t, os⟩ := by
  have fb := PySem.F.excBase_ValueError
  have hk := fb.initKind
  have hr := fb.initRow
  unfold checkBoundCall
  simp only [hk, hr]
  repeat (first | (with_reducible refine wpAny_loadPart_at kx ?_; rw [kxc]) | with_reducible refine wpAny_loadPart_at kC ?_ | wp_step)
  all_goals
    refine wpAny_onRaise ?_
    rw [show ∀ (a b : String) (n : Nat), Bind.check ⟨.positional, "*", "ValueError", .self, [⟨"args", .varPos, false⟩]⟩ a b n (List.map (fun x => x.fst) ({ pos := Value.ref x :: us } : Args).kw) = pure () from fun a b n => check_star_args _ _ _ _ _ _]
    exact wpAny_pure kq
/-- an exception as it is made -/
abbrev excNew (C t : Addr) : Obj := { cls := .ref C, data := .fields #[.ref t, .none, .none, .none, .bool false, .none] }
/-- the call of it: the exception's arguments are set anew -/
theorem mw_call {m x tt : Addr} {us : List Value} {Q : Value → Shared → Prop} (hm : h.get? m = some (mwObj "ValueError.__init__" x))
    (kC : h.get? C = some (excClassObj nm q C N bs bm hdct sn sub ab col dd k0 k1 k2 k3 k5 newId)) (kx : h.get? x = some (excNew C tt)) (kl : us.length ≤ sizeLine)
    (kq : ∀ h', (∀ b o, b ≠ x → h.get? b = some o → h'.get? b = some o) → h'.get? x = some (excNew C h.objs.size) → Q .none ⟨h', g, d, t, os⟩) :
    wpAny (model prog w) A (call (.ref m) us) Q E ⟨h, g, d, t, os⟩ := by
  refine wpAny_call (codeAny_of_tree ?_)
  show wpAny _ _ (callAny (.ref m) _) _ _ _
  unfold callAny
  refine wpAny_bind (wpAny_load hm ?_)
  show wpAny _ _ (if ((Value.type "method-wrapper" == Value.type "method" || Value.type "method-wrapper" == Value.type "builtin_function_or_method" || Value.type "method-wrapper" == Value.type "method-wrapper") = true) then _ else _) _ _ _
  rw [if_pos (by decide)]
  show wpAny _ _ (if ((Value.type "method-wrapper" != Value.type "method") = true) then _ else _) _ _ _
  rw [if_pos (by decide)]
  refine wpAny_bind (mw_check kC kx rfl ?_)
  refine wpAny_pure ⟨Code.quiet_builtin _ (by decide +kernel), ?_⟩
  refine codeAny_builtin PySem.F.excBase_ValueError.initEntry ?_
  show wpAny _ _ (Builtin.«BaseException.__init__» ⟨.ref x :: us, []⟩) _ _ _
  unfold Builtin.«BaseException.__init__»
  wp_walk
  have nx : h.objs.size ≠ x := Nat.ne_of_gt (Heap.lt_size kx)
  refine kq _ (fun b o hb e => ?_) ?_
  · rw [Heap.get?_update_other _ _ (Ne.symm hb)]
    exact Heap.get?_push_of_some _ e
  · rw [Heap.get?_update_self _ (Heap.get?_push_of_some _ kx) rfl]
    rfl
end
end L2
set_option Elab.async false
set_option linter.all false
set_option maxRecDepth 100000
set_option maxHeartbeats 4000000
namespace L2
open PySem PySem.Spec PyProof.Rows PySem.W
open Sem (wp)
open Builtin Builtin.ObjectAttr
section
variable {prog : Program} {w : World} {A : Around} {E : Value → Shared → Prop} {h : Heap} {g : Array GenState} {d : Drawn} {t : Nat} {os : OsState}
variable {nm q : Str} {C N : Addr} {bs bm bmB : List Value} {sn : List Str} {sub : List Value} {ab : Bool} {col : Option Bool} {dd : Option Addr} {k0 k1 k2 k3 k5 : Option Value} {newId : String} {K : Frag} {x tt : Addr} {name : Str} {v : Value}
theorem refuse_tail {what : Str} : ∀ {bm : List Value}, OwnTail h bmB bm → refuseLoop (.ref x) what bmB = pure () → refuseLoop (.ref x) what bm = pure () := by
  intro bm T hp
  induction T with
  | base => exact hp
  | own _ _ _ _ ih => rw [refuseLoop_ref]; exact ih
/-- what is asked of an own class of errors whose instances get an attribute -/
structure SetC (K : Frag) (C : Addr) (name : Str) : Prop where
  sa : findIn K (.ref C) "__setattr__" = some (some (.builtin "object.__setattr__"))
  na : findIn K (.ref C) name = some none
  ob : mroIn K C (.type "object") = some true
theorem set_check {nameV : Value} {o : Obj} {Q : Unit → Shared → Prop} (X : K.In h) (S : SetC K C name) (hx : h.get? x = some o) (hc : o.cls = .ref C) (kq : Q () ⟨h, g, d, t, os⟩) :
    wpAny (model prog w) A (checkBuiltinCall "object.__setattr__" ⟨[.ref x, nameV, v], []⟩) Q E ⟨h, g, d, t, os⟩ := by
  have ha := PySem.F.store_ValueError.args (.ref x) nameV v
  have L1 := looks_mroIn (M := model prog w) X S.ob
  simp only [checkBuiltinCall, PySem.F.store_ValueError.kind, PySem.F.store_ValueError.split]
  refine wpAny_bind ?_
  unfold isInstance
  repeat (first | (with_reducible refine wpAny_loadPart_at hx ?_; rw [hc]) | (with_reducible refine L1.at ?_) | wp_step)
  all_goals exact kq
theorem stored_new {M : Model} {dx : Addr} {tk : Tok} {Q : PySem.Fin → Shared → Prop} (hd : h.get? dx = some { cls := .type "dict", data := .dict #[] })
    (kq : ∀ h' tk', h'.Ns1 dx (fun y => if y = name then some v else none) → Heap.SameBut dx h h' → Q (.done (.ret .none)) ⟨h', g, d, tk', os⟩) :
    wpAny M A (storeInDict dx (.str name tk) name v) Q E ⟨h, g, d, t, os⟩ := by
  have hnd : h.Ns dx (fun _ => none) := ⟨_, #[], _, hd, rfl, fun e he => absurd he (by simp), fun _ => rfl⟩
  unfold storeInDict newKeyGuard
  refine wpAny_bind (wpAny_pure (wpAny_bind (wpAny_nsSet1 (Heap.Ns1.of_empty hnd) fun h' hn' hs => ?_)))
  obtain ⟨oD, esD, epD, hoD, hdD, hcD⟩ := hn'.count (Within.cons name v Within.nil)
  refine wpAny_bind (wpAny_lookBehind hoD (by rw [hdD]; exact pastItsLine_dict (Nat.le_trans hcD (by rw [List.length_cons, List.length_nil, sizeLine_eq]; omega))) ?_)
  wp_walk
  exact kq h' _ hn' hs
theorem set_entry {tk : Tok} {o : Obj} {Q : PySem.Fin → Shared → Prop} (X : K.In h) (S : SetC K C name) (T : OwnTail h [.type "ValueError", .type "Exception", .type "BaseException", .type "object"] bm)
    (kC : h.get? C = some (excClassObj nm q C N bs bm true sn sub ab col dd k0 k1 k2 k3 k5 newId)) (hx : h.get? x = some o) (hc : o.cls = .ref C) (hnc : ∀ c, o.data ≠ .cls c) (hdn : o.dict = none)
    (kq : ∀ h' tk' dx, h'.get? x = some { o with dict := some dx } → dx ≠ x → h.get? dx = none → h'.Ns1 dx (fun y => if y = name then some v else none) → (∀ b u, b ≠ x → h.get? b = some u → h'.get? b = some u) → Q (.done (.ret .none)) ⟨h', g, d, tk', os⟩) :
    wpAny (model prog w) A (Builtin.«object.__setattr__» ⟨[.ref x, .str name tk, v], []⟩) Q E ⟨h, g, d, t, os⟩ := by
  have hpass := refuse_tail (x := x) T (PySem.F.store_ValueError.passes (.ref x))
  have L1 := looks_findIn (M := model prog w) X S.na
  have hxs : x ≠ h.objs.size := Nat.ne_of_lt (Heap.lt_size hx)
  unfold Builtin.«object.__setattr__»
  repeat (first | rw [refuse_eq] | (rw [refuseLoop_ref, hpass]) | (with_reducible refine wpAny_loadPart_at hx ?_; rw [hc]) | with_reducible refine wpAny_mroOf_exc kC ?_ | (with_reducible refine L1.at ?_) | wp_step)
  rw [hdn, if_neg (by simp [typeHasDict])]
  split
  · rename_i hcd
    cases hcd
  split
  · rename_i c hcd
    exact absurd hcd (hnc c)
  · have hx1 : (h.push { cls := .type "dict", data := .dict #[] }).get? x = some o := Heap.get?_push_of_some _ hx
    refine wpAny_bind (wpAny_alloc' ?_)
    refine wpAny_bind (wpAny_update' hx1 ?_)
    refine wpAny_pure ?_
    show wpAny _ _ (storeInDict h.objs.size (.str name tk) name v) _ _ _
    have hgd : ((h.push { cls := .type "dict", data := .dict #[] }).update x fun o => { cls := o.cls, dict := some h.objs.size, data := o.data, slots := o.slots }).get? h.objs.size = some { cls := .type "dict", data := .dict #[] } :=
      (Heap.get?_update_other _ _ hxs).trans (Heap.get?_push_at rfl rfl)
    refine stored_new hgd fun h' tk' hn' hs => ?_
    refine kq h' _ h.objs.size ?_ hxs.symm (Heap.get?_none_of_le (Nat.le_refl _)) hn' fun b u hb e => ?_
    · refine (hs.2 x hxs).trans (Heap.get?_update_self _ hx1 ?_)
      have hfr := (Heap.get?_some_iff.mp hx).2
      obtain ⟨oc, od, odt, osl⟩ := o
      cases odt <;> first | rfl | exact hfr
    · refine (hs.2 b (Nat.ne_of_lt (Heap.lt_size e))).trans ?_
      rw [Heap.get?_update_other _ _ (Ne.symm hb)]
      exact Heap.get?_push_of_some _ e
/-- x.name = v, x a new exception of an own class -/
theorem set_own {Q : Unit → Shared → Prop} (X : K.In h) (S : SetC K C name) (T : OwnTail h [.type "ValueError", .type "Exception", .type "BaseException", .type "object"] bm)
    (kC : h.get? C = some (excClassObj nm q C N bs bm true sn sub ab col dd k0 k1 k2 k3 k5 newId)) (hx : h.get? x = some (excNew C tt))
    (kq : ∀ h' tk' dx, h'.get? x = some { excNew C tt with dict := some dx } → dx ≠ x → h.get? dx = none → h'.Ns1 dx (fun y => if y = name then some v else none) → (∀ b o, b ≠ x → h.get? b = some o → h'.get? b = some o) → Q () ⟨h', g, d, tk', os⟩) :
    wpAny (model prog w) A (setAttr (.ref x) name v) Q E ⟨h, g, d, t, os⟩ := by
  have f3 := PySem.F.store_ValueError.slot.bind (.ref x)
  have L1 := looks_findIn (M := model prog w) X S.sa
  unfold setAttr callSpecial? specialOf
  repeat (any_goals (first | assumption | (with_reducible refine wpAny_loadPart_at hx ?_) | (with_reducible refine L1.at ?_) | wp_step))
  refine codeAny_call_builtin PySem.F.store_ValueError.slot.plain PySem.F.entry_object_sa (set_check X S hx rfl (set_entry X S T kC hx rfl (fun _ z => nomatch z) rfl fun h' tk' dx a1 a2 a3 a4 a5 => ?_))
  repeat (any_goals (first | assumption | wp_step))
  exact kq h' _ dx a1 a2 a3 a4 a5
end
end L2
set_option Elab.async false
set_option linter.all false
set_option maxRecDepth 100000
set_option maxHeartbeats 4000000
namespace L2
open PySem PySem.Spec PyProof.Rows PySem.W
open Sem (wp)
/-- an own class of errors with its own __init__, the ones ahead of it with none -/
def excInA (K : Frag) (C : Addr) (bmB : List Value) (newId : String) : Bool := match K.lookup C with
  | some ⟨.type "type", _, .cls cd, sl⟩ => (match cd.mro, sl.toList with
    | .ref C' :: bm, [_, _, _, _, some (.builtin n), _] => C' == C && n == newId && !cd.hasDel && cd.hasDict && tailIn K bmB bm
    | _, _ => false)
  | _ => false
theorem exc_ofA {K : Frag} {h : Heap} {C : Addr} {bmB : List Value} {newId : String} (X : K.In h) (q : excInA K C bmB newId = true) :
    ∃ bm N nm qn bs sn sub ab col dd k0 k1 k2 k3 k5, h.get? C = some (excClassObj nm qn C N bs bm true sn sub ab col dd k0 k1 k2 k3 k5 newId) ∧ OwnTail h bmB bm := by
  unfold excInA at q
  split at q
  · rename_i dd cd sl ho
    split at q
    · rename_i C' bm k0 k1 k2 k3 n k5 hm hs
      simp only [Bool.and_eq_true, beq_iff_eq, Bool.not_eq_true'] at q
      obtain ⟨⟨⟨⟨e1, e2⟩, hdel⟩, hd⟩, ht⟩ := q
      subst e1 e2
      obtain ⟨nm, bs, mro, ns, qn, hdc, sn, sub, ab, col, del⟩ := cd
      dsimp only at hm hdel hd
      subst hm hdel hd
      have hsl : sl = #[k0, k1, k2, k3, some (.builtin n), k5] := by
        obtain ⟨l⟩ := sl
        simp only at hs
        rw [hs]
      subst hsl
      exact ⟨bm, ns, nm, qn, bs, sn, sub, ab, col, dd, k0, k1, k2, k3, k5, X _ _ ho, tail_of_in X ht⟩
    · cases q
  · cases q
/-- what is asked of an own class of errors at C whose __init__ (at f) hands a text to super().__init__ and stores its one argument -/
structure InitC (prog : Program) (K : Frag) (C f cc cda : Addr) (qual : Str) (fd : FuncData) (name : Str) : Prop where
  lk : ∃ oc od osl, K.lookup f = some ⟨oc, od, .func fd, osl⟩ ∧ oc = .type "function"
  code : fd.code = .ref cda ∧ fd.qualname = qual ∧ codeIn K (.ref cda) qual = true
  file : ∃ ccl cdd vs ccs file tf, K.lookup cda = some ⟨ccl, cdd, .fields vs, ccs⟩ ∧ vs[2]? = some (.str file tf) ∧ ((prog.main.file : Str) == file) = true
  cell : ∃ cl cld csl, K.lookup cc = some ⟨cl, cld, .cell (some (.ref C)), csl⟩
  clo : fd.closure = [(("__class__" : Str), cc)] ∧ fd.globals = mainGlobals ∧ fd.builtins = builtinsNs
  sup : ks_superIn K C C "__init__" = some (some (.builtin "ValueError.__init__"))
  set : SetC K C name
  ini : findIn K (.ref C) "__init__" = some (some (.ref f))
  exc : excInA K C [.type "ValueError", .type "Exception", .type "BaseException", .type "object"] "ValueError.__new__" = true
  kp : keepIn K (.ref C) = true
  ve : mroIn K C (.type "ValueError") = some true
  self : mroIn K C (.ref C) = some true
  noSuper : nsIn K mainGlobals "super" = some none
  opq : nsIn K cStatics "thirdparty.any" = some none
  top : (prog.main.scope.names.lookup ("super" : Str)).isSome = false
def noStarE : Expr → Bool
  | .Starred _ _ => false
  | _ => true
section
variable {prog : Program} {w : World} {A : Around} {E : Value → Shared → Prop} {h : Heap} {g : Array GenState} {d : Drawn} {t : Nat} {os : OsState}
variable {nm q : Str} {C N : Addr} {bs bm : List Value} {sn : List Str} {sub : List Value} {ab : Bool} {col : Option Bool} {dd : Option Addr} {k0 k1 k2 k3 k5 : Option Value} {newId : String}
variable {K : Frag} {f cc cda x tt : Addr} {qual fname : Str} {fd : FuncData} {mg mb : Str → Option Value} {n : Int} {tn : Tok} {a b : Str} {self row : Arg} {p0 p1 p2 p3 p4 p5 p6 p7 p8 p9 q0 q1 q2 q3 : Pos} {j0 j1 : Nat}
/-- the text that is handed to super().__init__ -/
theorem text_eval {env : Env} {m : Str → Option Value} {Q : Value → Shared → Prop} (hk : env.scope.kind = .function) (hr : env.kindOf fname = some .local) (hn : h.Ns env.locals m) (hm : m fname = some (.int n tn)) (hdb : (fname == ("__debug__" : Str)) = false)
    (hl : n.natAbs.log2 < 1920) (ha : a.length + (toString n : Str).length + b.length ≤ sizeLine)
    (kq : ∀ u t', Q u ⟨h, g, d, t', os⟩) :
    wpAny (model prog w) A (eval (.JoinedStr [.Constant (.str a) j0 p0, .FormattedValue (.Name fname p1) (-1) none p2, .Constant (.str b) j1 p3] p4) env) Q E ⟨h, g, d, t, os⟩ := by
  refine JoinedStr_many (joinParts_cons (wpAny_Constant_str ⟨?_, joinParts_cons (FormattedValue_plain (wpAny_Name (wpAny_loadName_local hk hr hn hm (formatField_int_small hl ⟨?_, joinParts_cons (wpAny_Constant_str ⟨?_, joinParts_nil (kq _ _) ?_⟩)⟩)) hdb))⟩))
  · show (Str.empty ++ a).length ≤ sizeLine
    rw [strLen_append]
    exact Nat.le_trans (by show 0 + a.length ≤ _; omega) ha
  · rw [strLen_append, strLen_append]
    exact Nat.le_trans (by show 0 + a.length + _ ≤ _; omega) ha
  · rw [strLen_append, strLen_append, strLen_append]
    exact Nat.le_trans (by show 0 + a.length + _ + _ ≤ _; omega) ha
  · show _ ≤ _
    rw [strLen_append, strLen_append, strLen_append]
    exact Nat.le_trans (by show 0 + a.length + _ + _ ≤ _; omega) ha
/-- the call of a method-wrapper with one argument -/
theorem mw_with {env : Env} {pos : Pos} {m : Addr} {id : String} {e : Expr} {Q : Value → Shared → Prop} {s : Shared} (hst : noStarE e = true)
    (hq : wpAny (model prog w) A (eval e env) (fun u s1 => s1.heap.get? m = some (mwObj id x) ∧ wpAny (model prog w) A (call (.ref m) [u]) Q E s1) E s) :
    wpAny (model prog w) A (callWith pos (.ref m) [] (backTo pos (starEach [e] env)) []) Q E s := by
  have he : starEach [e] env = [(false, eval e env)] := by
    cases e <;> first
      | rfl
      | exact absurd hst Bool.false_ne_true
  rw [he]
  show wpAny _ _ (callWith pos (.ref m) [] [(false, eval e env)] []) _ _ _
  unfold callWith
  refine wpAny_bind (wpAny_holding (wpAny_mono (Q := fun (a : Args) s1 => s1.heap.get? m = some (mwObj id x) ∧ wpAny (model prog w) A (call (.ref m) a.pos a.kw) Q E s1) (Calls.evalArgs_plain (Calls.spliced_cons (wpAny_mono hq (fun _ _ z => Calls.spliced_nil z) fun _ _ y => y))) (fun a s1 ⟨h1, h2⟩ => wpAny_bind (wpAny_standAt ?_)) fun _ _ y => y))
  simp only [List.any_cons, List.any_nil, Bool.or_false]
  refine wpAny_bind (m := keeperOf (.ref m)) ?_
  unfold keeperOf
  refine wpAny_bind (wpAny_load h1 ?_)
  show wpAny _ _ (if (Value.type "method-wrapper" != Value.type "method") = true then _ else _) _ _ _
  rw [if_pos (by decide)]
  refine wpAny_pure ?_
  exact wpAny_bind (wpAny_mono h2 (fun r s2 hr => wpAny_bind (wpAny_holding (wpAny_point (wpAny_pure hr)))) fun _ _ y => y)
/-- an exception with one attribute, made -/
structure MadeA (h h' : Heap) (e C d : Addr) (name : Str) (v : Value) : Prop where
  keeps : ∀ b o, h.get? b = some o → h'.get? b = some o
  new : h.get? e = none
  newd : h.get? d = none
  ne : d ≠ e
  there : ∃ t, h'.get? e = some { excNew C t with dict := some d }
  at_ : h'.Ns1 d (fun y => if y = name then some v else none)
/-- the text of such an __init__ -/
structure InitT (fd : FuncData) (fname : Str) (a b : Str) (self : Arg) (p0 p1 p2 p3 p4 p5 p6 p7 p8 p9 q0 q1 q2 q3 : Pos) (j0 j1 : Nat) : Prop where
  hb : fd.body = .stmts [.Expr (.Call (.Attribute (.Call (.Name "super" p5) [] [] p6) "__init__" p7) [.JoinedStr [.Constant (.str a) j0 p0, .FormattedValue (.Name fname p1) (-1) none p2, .Constant (.str b) j1 p3] p4] [] p8) p9, .Assign [.Attribute (.Name self.arg q0) fname q1] (.Name fname q2) q3]
  heq : ∃ pl : Env → Sem Bool, ∀ env, eval (.Call (.Attribute (.Call (.Name "super" p5) [] [] p6) "__init__" p7) [.JoinedStr [.Constant (.str a) j0 p0, .FormattedValue (.Name fname p1) (-1) none p2, .Constant (.str b) j1 p3] p4] [] p8) env = (do
      let ov ← attributeBase (.Call (.Name "super" p5) [] [] p6) "__init__" env (eval (.Call (.Name "super" p5) [] [] p6) env)
      standAt p7.atName
      let (u, first) ← holding [ov] (getMethod ov "__init__" (pl env))
      callWith p8 u first (backTo p8 (starEach [.JoinedStr [.Constant (.str a) j0 p0, .FormattedValue (.Name fname p1) (-1) none p2, .Constant (.str b) j1 p3] p4] env)) [])
  hpar : (fd.params.posonlyargs ++ fd.params.args).head? = some self
  hbind : ∀ (s : Shared) (u v : Value), BindsTo s fd ⟨[u, v], []⟩ [(self.arg, u), (fname, v)]
  hsf : self.arg ≠ fname
  hsc : fd.scope.kind = .function ∧ fd.scope.isCoroutine = false ∧ fd.scope.isGenerator = false
  hcell : ∀ x ∈ fd.scope.names, x.2 ≠ .cell
  hk1 : fd.scope.names.lookup self.arg = some .local
  hk2 : fd.scope.names.lookup fname = some .local
  hk3 : fd.scope.names.lookup ("super" : Str) = some .globalImplicit
  hk4 : fd.scope.names.lookup ("__class__" : Str) = some .free
  hd1 : (self.arg == ("__debug__" : Str)) = false
  hd2 : (fname == ("__debug__" : Str)) = false
/-- the __init__ -/
theorem init_own {h0 : Heap} {R : Value → Shared → Prop} (X : K.In h0) (I : InitC prog K C f cc cda qual fd fname) (S : InitT fd fname a b self p0 p1 p2 p3 p4 p5 p6 p7 p8 p9 q0 q1 q2 q3 j0 j1)
    (G : h0.Ns mainGlobals mg) (hms : mg "super" = none) (GB : h0.Ns builtinsNs mb) (hbs : mb "super" = some (.type "super")) (lim : h0.NoLimit) (hroom : A.depth < recursionLimit)
    (kC : h0.get? C = some (excClassObj nm q C N bs bm true sn sub ab col dd k0 k1 k2 k3 k5 newId)) (T : OwnTail h0 [.type "ValueError", .type "Exception", .type "BaseException", .type "object"] bm)
    (hm : Heap.MadeExcOf h0 h x (.ref C) [.int n tn]) (hl : n.natAbs.log2 < 1920) (ha : a.length + (toString n : Str).length + b.length ≤ sizeLine)
    (kq : ∀ h' t' dx tk, MadeA h0 h' x C dx fname (.int n tk) → R .none ⟨h', g, d, t', os⟩) :
    wpAny (model prog w) A (call (.ref f) [.ref x, .int n tn]) R E ⟨h, g, d, t, os⟩ := by
  obtain ⟨hb, heq, hpar, hbind, hsf, hsc, hcell, hk1, hk2, hk3, hk4, hd1, hd2⟩ := S
  obtain ⟨oc, od, osl, lk, hoc⟩ := I.lk
  obtain ⟨pl, hpl⟩ := heq
  obtain ⟨hco, hqu, hcd⟩ := I.code
  obtain ⟨ccl, cdd, cvs, ccs, file, tf, hcda, hcv, hfile⟩ := I.file
  obtain ⟨cl, cld, csl, hcc⟩ := I.cell
  obtain ⟨hclo, hgl, hbt⟩ := I.clo
  obtain ⟨hkf, hic, hig⟩ := hsc
  have kp0 := hm.keeps
  have Xh : K.In h := X.keeps kp0
  refine wpAny_call ?_
  refine ks_codeAny_call_defAt (fd := fd) (args := ⟨[.ref x, .int n tn], []⟩) hroom (Xh _ _ lk) rfl (lim.keeps kp0) (by rw [hco, hqu]; exact codeRec_of Xh hcd) hb (hbind _ _ _) hcell (fun y hy => ?_) (fun h1 hns hk => ?_) hic hig hkf
  · rcases List.mem_cons.mp hy with rfl | hy
    · exact hk1
    · rcases List.mem_cons.mp hy with rfl | hy
      · exact hk2
      · cases hy
  generalize henv : callEnv fd h.objs.size f = env
  have hks : env.kindOf "super" = some .globalImplicit := by rw [← henv]; exact hk3
  have hkc : env.kindOf "__class__" = some .free := by rw [← henv]; exact hk4
  have hkl1 : env.kindOf self.arg = some .local := by rw [← henv]; exact hk1
  have hkl2 : env.kindOf fname = some .local := by rw [← henv]; exact hk2
  have hkind : env.scope.kind = .function := by rw [← henv]; exact hkf
  have hfu : env.func = some f := by rw [← henv]; rfl
  have hcode : env.code = .ref cda := by rw [← henv]; exact hco
  have hglob : env.globals = mainGlobals := by rw [← henv]; exact hgl
  have hblt : env.builtins = builtinsNs := by rw [← henv]; exact hbt
  have hloc : env.locals = h.objs.size := by rw [← henv]; rfl
  have hcells : env.cells.lookup ("__class__" : Str) = some cc := by rw [← henv]; show fd.closure.lookup _ = _; rw [hclo]; rfl
  have hint : interactive env = false := by unfold interactive; rw [hkind]; rfl
  have v1 : (fun y => ([(self.arg, Value.ref x), (fname, Value.int n tn)].reverse.lookup y)) self.arg = some (.ref x) := by
    show ([(fname, Value.int n tn), (self.arg, Value.ref x)].lookup self.arg) = _
    have z : (self.arg == fname) = false := beq_eq_false_iff_ne.mpr hsf
    simp [List.lookup, z]
  have v2 : (fun y => ([(self.arg, Value.ref x), (fname, Value.int n tn)].reverse.lookup y)) fname = some (.int n tn) := by
    show ([(fname, Value.int n tn), (self.arg, Value.ref x)].lookup fname) = _
    simp [List.lookup]
  generalize (fun y => ([(self.arg, Value.ref x), (fname, Value.int n tn)].reverse.lookup y)) = ml at v1 v2 hns
  have kp1 : ∀ b o, h0.get? b = some o → h1.get? b = some o := fun b o e => hk _ _ (kp0 _ _ e)
  have X1 : K.In h1 := X.keeps kp1
  have kC1 := kp1 _ _ kC
  obtain ⟨t0, hx0, _, _⟩ := hm.there
  have hx1 : h1.get? x = some (excNew C t0) := hk _ _ hx0
  have hxL : h.objs.size ≠ x := Nat.ne_of_gt (Heap.lt_size hx0)
  have hxC : x ≠ C := by
    rintro rfl
    rw [hm.new] at kC
    cases kC
  cases hcK : clsIn K C with
  | none => have z := I.sup; unfold ks_superIn at z; rw [hcK] at z; cases z
  | some cdK =>
    have hsup : alongIn K "__init__" ((cdK.mro.dropWhile (· != .ref C)).drop 1) = some (some (.builtin "ValueError.__init__")) := by
      have z := I.sup
      unfold ks_superIn at z
      rw [hcK] at z
      exact z
    refine ks_wpAt_execs_cons (ks_wpAt_Expr_any (ks_wpAt_MethodCall (ks_wpAt_super_base hks hkc (by decide) hfu (X1 _ _ lk) rfl hpar hcode (X1 _ _ hcda) rfl hcv hfile I.top ?_) (hpl env)) hint (by rfl))
    refine ks_loadName_global hkind hks (Calls.loadGlobal_builtin (by rw [hglob]; exact G.keeps kp1) hms (by rw [hblt]; exact GB.keeps kp1) hbs ⟨rfl, ?_⟩)
    refine wpAny_loadName_free hkind hkc hcells ⟨_, X1 _ _ hcc, rfl⟩ ?_
    refine wpAny_loadName_local hkind hkl1 (by rw [hloc]; exact hns) v1 ?_
    refine ks_wpAny_isType_cls kC1 rfl ⟨rfl, ?_⟩
    refine ks_wpAny_call_super kC1 rfl hx1 rfl (fun c e => nomatch e) (looks_mroIn X1 I.self) fun h2 hso k2 => ?_
    have kp2 : ∀ b o, h0.get? b = some o → h2.get? b = some o := fun b o e => k2 _ _ (kp1 _ _ e)
    have X2 : K.In h2 := X.keeps kp2
    refine sup_meth (l0 := cdK.mro) hso (looks_opaque X2 I.opq) (fun A Q E s k q => wpAny_bind ((looks_clsIn X2 hcK) A _ E s k (wpAny_pure q))) rfl X2 hsup (k2 _ _ hx1) rfl (looks_mroIn X2 I.ve) hxC (by decide) ?_
    have hm3 : (h2.push (mwObj "ValueError.__init__" x)).get? h2.objs.size = some (mwObj "ValueError.__init__" x) := Heap.get?_push_at rfl rfl
    have k3 : ∀ b o, h2.get? b = some o → (h2.push (mwObj "ValueError.__init__" x)).get? b = some o := fun b o e => Heap.get?_push_of_some _ e
    generalize h2.push (mwObj "ValueError.__init__" x) = h3 at hm3 k3 ⊢
    generalize h2.objs.size = m3 at hm3 ⊢
    have kp3 : ∀ b o, h0.get? b = some o → h3.get? b = some o := fun b o e => k3 _ _ (kp2 _ _ e)
    have hx3 := k3 _ _ (k2 _ _ hx1)
    have ns3 : h3.Ns h.objs.size ml := (hns.keeps k2).keeps k3
    refine mw_with (x := x) rfl (text_eval hkind hkl2 (by rw [hloc]; exact ns3) v2 hd2 hl ha fun u t' => ⟨hm3, ?_⟩)
    refine mw_call hm3 (kp3 _ _ kC) hx3 (by show 1 ≤ sizeLine; decide) fun h4 k4 hx4 => ?_
    have kp4 : ∀ b o, h0.get? b = some o → h4.get? b = some o := fun b o e => k4 _ _ (fun z => by rw [z, hm.new] at e; cases e) (kp3 _ _ e)
    have ns4 : h4.Ns h.objs.size ml := let ⟨o, es, ep, e, r⟩ := ns3; ⟨o, es, ep, k4 _ _ hxL e, r⟩
    generalize h3.objs.size = t4 at hx4
    refine ks_wpAt_execs_cons (ks_wpAt_Assign_Attr ?_ (by rfl))
    refine wpAt_of_wpAny (wpAny_Name (wpAny_loadName_local hkind hkl2 (by rw [hloc]; exact ns4) v2 ?_) hd2)
    refine wpAny_Name (wpAny_loadName_local hkind hkl1 (by rw [hloc]; exact ns4) v1 ?_) hd1
    refine set_own (X.keeps kp4) I.set (T.keeps kp4) (kp4 _ _ kC) hx4 fun h5 t5 dx a1 a2 a3 a4 a5 => ?_
    refine wpAt_of_wpAny (wpAny_execs_nil ?_)
    refine kq h5 _ dx _ ⟨fun b o e => a5 _ _ (fun z => by rw [z, hm.new] at e; cases e) (kp4 _ _ e), hm.new, ?_, a2, ⟨_, a1⟩, a4⟩
    cases z : h0.get? dx with
    | none => rfl
    | some o => rw [kp4 _ _ z] at a3; cases a3
end
end L2
set_option Elab.async false
set_option linter.all false
set_option maxRecDepth 100000
set_option maxHeartbeats 4000000
namespace L2
open PySem PySem.W PySem.Spec PyProof.Rows
section
variable {P : Program} {w : World} {H H' H1 : Hp} {h h' h1 h2 : Heap} {a : Addr} {o : HO}
theorem ObjOk.there (x : ObjOk P w H h a o) : ∃ u, h.get? a = some u := by
  cases o with
  | lst xs => obtain ⟨_, _, _, _, e⟩ := x; exact ⟨_, e⟩
  | tup xs => obtain ⟨_, _, _, _, e, _⟩ := x; exact ⟨_, e⟩
  | dK kvs => obtain ⟨_, _, _, _, o, _, _, e, _⟩ := x; exact ⟨_, e⟩
  | dT kvs => obtain ⟨_, _, _, _, o, _, _, e, _⟩ := x; exact ⟨_, e⟩
  | set S n => obtain ⟨o, _, _, _, e, _⟩ := x; exact ⟨_, e⟩
  | ins C dx fs => obtain ⟨_, _, _, e, _⟩ := x; exact ⟨_, e⟩
  | own y => exact x
  | xd fs => obtain ⟨_, ⟨_, _, _, e, _⟩, _⟩ := x; exact ⟨_, e⟩
  | rng lo hi => obtain ⟨_, _, _, e⟩ := x; exact ⟨_, e⟩
  | frz ob u => obtain ⟨e, _⟩ := x; exact ⟨_, e⟩
  | tbl ps => exact ⟨_, (show h.get? a = some _ from x)⟩
  | met f y => exact ⟨_, (show h.get? a = some _ from x)⟩
  | ext φ => obtain ⟨_, e, _⟩ := x; exact e
theorem HOk.there (x : HOk P w H h) (n : H a ≠ none) : ∃ u, h.get? a = some u := by
  cases q : H a with
  | none => exact absurd q n
  | some o => exact (x a o q).there
/-- all that is tracked is kept -/
theorem HOk.tracked (x : HOk P w H h) (k : ∀ b u, H b ≠ none → h.get? b = some u → h'.get? b = some u) : HOk P w H h' := fun a o e =>
  (x a o e).stay (fun b u hb q => k b u (by
    rcases hb with z | z
    · rw [z, e]; exact fun z => nomatch z
    · rw [z]; exact fun z => nomatch z) q) (fun _ z => z) (fun _ _ z => z)
theorem Un.fly {fs ex : List Addr} (u : Un fs ex H H1 h h1) (kp : ∀ b o, (∃ v, h.get? b = some v) → h1.get? b = some o → b ∉ fs → h2.get? b = some o)
    (sl : ∀ b o, b ∈ fs → h1.get? b = some o → ∃ sl, h2.get? b = some { o with slots := sl }) : Un fs ex H H1 h h2 where
  keep := fun b o q n hb hx => kp b o ⟨o, q⟩ (u.keep b o q n hb hx) hb
  slot := fun b o q n hb hx => by
    obtain ⟨s1, e1⟩ := u.slot b o q n hb hx
    obtain ⟨s2, e2⟩ := sl b _ hb e1
    exact ⟨s2, e2⟩
  free := u.free
  there := fun b o q hx => by
    obtain ⟨o', e1⟩ := u.there b o q hx
    by_cases hb : b ∈ fs
    · obtain ⟨s2, e2⟩ := sl b _ hb e1
      exact ⟨_, e2⟩
    · exact ⟨o', kp b o' ⟨o, q⟩ e1 hb⟩
  tups := u.tups
  frzs := u.frzs
  tbls := u.tbls
end
/-- over the frames l flies the exception x of the class cls; what H tracks, and what stood in h0, frames aside, stands in a heap B that no leaving touches -/
structure FlyX (l : List Env) (h0 : Heap) (H : Hp) (x : Addr) (cls : Value) (od : Option Addr) (h : Heap) : Prop where
  ex : ∃ (B : Heap) (t : Addr), Heap.FlyingW B l x cls (.ref t) h ∧ ∀ b o, h.get? b = some o → b ∉ frs l → (H b ≠ none ∨ ∃ u, h0.get? b = some u) → B.get? b = some o
  dn : ∀ o, h.get? x = some o → o.dict = od
/-- how an exception lies behind a call -/
def CXE (P : Program) (w : World) : CXT := fun outer H s E e s' => ∃ (x : Addr) (cls : Value) (od : Option Addr) (H1 : Hp), e = .ref x ∧ s'.os = s.os ∧ GB s.gens.size s'.gens ∧ Un (frs outer) [] H H1 s.heap s'.heap ∧ HOk P w H1 s'.heap ∧
  FlyX outer s.heap H1 x cls od s'.heap ∧ E cls od H1
section
variable {X : Cx} {pins : List (Addr × Obj)} {σ : St} {H : Hp} {s : Shared}
theorem Inv.fsStk (I : Inv X pins σ H s) (hs : X.stack = X.env :: X.outer) : ∀ b ∈ X.fs, b ∈ frs X.stack := fun b hb => by
  rw [hs]
  unfold frs
  rw [List.filterMap_cons]
  split
  · exact hb
  · exact List.mem_cons_of_mem _ hb
/-- an exception has left this frame -/
theorem fly_out {B : Heap} {x t : Addr} {cls : Value} {od : Option Addr} {h'' : Heap} {E : XK} (I : Inv X pins σ H s) (hstk : X.stack = X.env :: X.outer) (hex : X.ex = [])
    (F : Heap.FlyingW B X.outer x cls (.ref t) h'') (U : s.heap.UpToSlots h'')
    (C : ∀ b o, s.heap.get? b = some o → b ∉ frs X.stack → (H b ≠ none ∨ ∃ u, X.s_0.heap.get? b = some u) → B.get? b = some o) (dn : ∀ o, h''.get? x = some o → o.dict = od) (hE : E cls od H) :
    CXE X.prog X.w X.outer X.H_0 X.s_0 E (.ref x) { s with heap := h'' } := by
  have hL0 : X.s_0.heap.get? X.env.locals = none := Heap.get?_none_of_le I.ok.above
  have kp : ∀ b o, s.heap.get? b = some o → b ∉ X.fs → b ≠ X.env.locals → (H b ≠ none ∨ ∃ u, X.s_0.heap.get? b = some u) → B.get? b = some o := fun b o e n1 n2 z =>
    C b o e (fun m => (List.mem_cons.mp (I.stkSub b m)).elim n2 n1) z
  have nT : ∀ b, H b ≠ none → b ∉ X.fs ∧ b ≠ X.env.locals := fun b n => ⟨fun m => n (I.stkFree b (I.fsStk hstk b m)), fun z => n (z ▸ I.free)⟩
  have nO : ∀ b, (∃ u, X.s_0.heap.get? b = some u) → b ≠ X.env.locals := fun b ⟨u, hu⟩ z => by rw [z, hL0] at hu; cases hu
  have ub : Un X.fs [] X.H_0 H X.s_0.heap s.heap := hex ▸ I.base
  refine ⟨x, cls, od, H, rfl, I.os, I.bare, ub.fly (fun b o z e n => F.1 b o (kp b o e n (nO b z) (.inr z))) (fun b o hb e => ?_), I.hok.tracked (fun b u n e => F.1 b u (kp b u e (nT b n).1 (nT b n).2 (.inl n))), ⟨⟨B, t, F, fun b o e n z => ?_⟩, dn⟩, hE⟩
  · obtain ⟨_, o', e', nf⟩ := I.funs.mem hb
    rw [e] at e'; cases e'
    exact U b o e nf
  · have nl : b ≠ X.env.locals := z.elim (fun n => (nT b n).2) (nO b)
    obtain ⟨u, hu⟩ : ∃ u, s.heap.get? b = some u := z.elim (fun n => I.hok.there n) fun ⟨u, hu⟩ => ub.there b u hu (fun z => nomatch z)
    have hB := kp b u hu n nl z
    have q := F.1 b u hB
    have e' : h''.get? b = some o := e
    rw [e'] at q; cases q
    exact hB
end
section
variable {P : Program} {w : World} {K : PySem.W.Frag} {mg : Str → Option Value} {base : Heap} {N : List Str} {qual : Str} {scope : Scope} {f : Addr} {cd : Value} {A : Around} {outer : List Env} {s0 s : Shared} {H0 H : Hp} {E E' : XK} {pins : List (Addr × Obj)} {σ : St}
/-- the same of an exception with a dict of its own: what H tracks behind it may be more (its dict) -/
theorem raise_xa {x t dx : Addr} {cls : Value} {vs : Array Value} {h' : Heap} {t' : Nat} (I : Inv (cxOf (CXE P w) P w K mg base N qual scope f cd A outer s0 H0 E) pins σ H s) (kp : ∀ b o, s.heap.get? b = some o → h'.get? b = some o) (nx : s.heap.get? x = none) (nd : s.heap.get? dx = none) (ne : dx ≠ x)
    (hx : h'.get? x = some { cls := cls, dict := some dx, data := .fields vs }) (v0 : vs[0]? = some (.ref t)) (v1 : vs[1]? = some .none) (fs : List (Str × V)) (hd : ObjOk P w (upd H dx (.xd fs)) h' dx (.xd fs)) (hE : E cls (some dx) (upd H dx (.xd fs))) :
    (cxOf (CXE P w) P w K mg base N qual scope f cd A outer s0 H0 E).xe (.ref x) { s with heap := h', toks := t' } := by
  have hn : H dx = none := by
    cases q : H dx with
    | none => rfl
    | some o =>
      obtain ⟨u, hu⟩ := I.hok.there (a := dx) (by rw [q]; exact fun z => nomatch z)
      rw [nd] at hu; cases hu
  have hxn : H x = none := by
    cases q : H x with
    | none => rfl
    | some o =>
      obtain ⟨u, hu⟩ := I.hok.there (a := x) (by rw [q]; exact fun z => nomatch z)
      rw [nx] at hu; cases hu
  have nb : ∀ b o, s.heap.get? b = some o → b ≠ dx := fun b o e z => by rw [z, nd] at e; cases e
  have un : ∀ l, Un l [] H (upd H dx (.xd fs)) s.heap h' := fun l => ⟨fun b o q _ _ _ => kp b o q, fun b o q _ _ _ => ⟨o.slots, kp b o q⟩, fun b o q n _ => by rw [upd_ne (nb b o q)]; exact n, fun b o q _ => ⟨o, kp b o q⟩,
    fun b xs q => by rw [upd_ne (ne_of_none q hn)]; exact q, fun b o u q => by rw [upd_ne (ne_of_none q hn)]; exact q, fun b ps q => ⟨#[], by rw [upd_ne (ne_of_none q hn), q]; simp⟩⟩
  have hok1 : HOk P w (upd H dx (.xd fs)) h' := fun b o e => by
    by_cases hb : b = dx
    · subst hb
      rw [upd_same] at e; cases e
      exact hd
    · rw [upd_ne hb] at e
      exact (I.hok b o e).stay (fun c u _ q => kp c u q) (fun c q => by rw [upd_ne (ne_of_none q hn)]; exact q) fun c xs q => by rw [upd_ne (ne_of_none q hn)]; exact q
  have I1 : Inv (cxOf (CXE P w) P w K mg base N qual scope f cd A outer s0 H0 E) pins σ (upd H dx (.xd fs)) { s with heap := h', toks := t' } :=
    I.call' (s' := { s with heap := h', toks := t' }) (ch := []) rfl (un _) hok1 I.bare.self (fun b hb => nomatch hb)
  show wpAny (model P w) (A.deeper (envOfC qual scope s0.heap.objs.size f cd)) (leaving (envOfC qual scope s0.heap.objs.size f cd) (.ref x)) _ _ _
  have hin : ∀ env ∈ (envOfC qual scope s0.heap.objs.size f cd :: outer), ∀ b, env.frame = some b → b ∈ x :: frs (envOfC qual scope s0.heap.objs.size f cd :: outer) := fun env he b hb => List.mem_cons_of_mem _ (List.mem_filterMap.mpr ⟨env, he, hb⟩)
  have hl := funFrames_hide (I1.stack) hin
  have bx : (hideAll h' (x :: frs (envOfC qual scope s0.heap.objs.size f cd :: outer))).get? x = none := hideAll_none _ (List.mem_cons_self ..)
  refine wpAny_mono ((kpd_leaving _ _).any (wpAny_leaving_firstW (s := { s with heap := h', toks := t' }) (Q := fun _ s'' => ∃ h'', s'' = { s with heap := h'', toks := t' } ∧ Heap.FlyingW (hideAll h' (x :: frs (envOfC qual scope s0.heap.objs.size f cd :: outer))) outer x cls (.ref t) h'' ∧ h'.UpToSlots h'')
    (base := hideAll h' (x :: frs (envOfC qual scope s0.heap.objs.size f cd :: outer))) (a0 := .ref t) I.ok.frames hl rfl hx (fun b o q => of_hideAll _ q) bx rfl v1 v0 fun h'' hL => ?_)) (fun _ s'' ⟨⟨h'', e, F, U⟩, dk⟩ => ?_) fun _ _ z => z
  · obtain ⟨e1, ⟨_, _, e2⟩, e3, e4⟩ := hL
    exact ⟨h'', rfl, ⟨e1, bx, e2, e3⟩, e4⟩
  subst e
  refine fly_out (s := { s with heap := h', toks := t' }) I1 rfl rfl F U (fun b o e n z => ?_) (fun o e => ?_) hE
  · refine hideAll_get _ e fun m => (List.mem_cons.mp m).elim (fun q => ?_) n
    subst q
    rcases z with z | ⟨u, hu⟩
    · rw [upd_ne (Ne.symm ne)] at z
      exact z hxn
    · obtain ⟨u2, e2⟩ := I.base.there b u hu (fun z => nomatch z)
      rw [nx] at e2; cases e2
  · obtain ⟨o', e3, e4⟩ := dk x _ hx
    have e3 : h''.get? x = some o' := e3
    rw [e] at e3; cases e3
    exact e4
end
end L2
set_option Elab.async false
set_option linter.all false
set_option maxRecDepth 100000
set_option maxHeartbeats 4000000
namespace L2
open PySem PySem.W PySem.Spec PyProof.Rows
/-- an exception object that stands in the heap -/
def ExcO (x : Addr) (cls : Value) (od : Option Addr) : HO := .ext fun h => ∃ o, h.get? x = some o ∧ o.cls = cls ∧ o.dict = od ∧ ∃ vs, o.data = .fields vs
section
variable {X : Cx} {pins : List (Addr × Obj)} {σ : St} {H H1 : Hp} {s s' : Shared}
theorem Cx.Ok.re {X : Cx} (ok : X.Ok) (A : Around) (hA : A.frames = X.A.frames) (c : Bool) (hc : c = true → A.handled = none) (pn : List (Addr × Obj)) (xe : Value → Shared → Prop) :
    ({ X with A := A, calm := c, pn := pn, xe := xe } : Cx).Ok :=
  ⟨ok.mod, ok.kind, ok.glob, ok.blt, ok.above, ok.inj, ok.has, ok.cab, hc, hA.trans ok.frames, ok.stk, ok.exf, ok.bs, ok.bsz, ok.noex, ok.exfs, ok.funs, ok.frf⟩
theorem Cx.Ok.ex {X : Cx} {A : Around} {c : Bool} {pn : List (Addr × Obj)} {xe : Value → Shared → Prop} (ok : ({ X with A := A, calm := c, pn := pn, xe := xe } : Cx).Ok) (hd : X.calm = true → X.A.handled = none) (hf : X.A.frames = some X.stack) : X.Ok :=
  ⟨ok.mod, ok.kind, ok.glob, ok.blt, ok.above, ok.inj, ok.has, ok.cab, hd, hf, ok.stk, ok.exf, ok.bs, ok.bsz, ok.noex, ok.exfs, ok.funs, ok.frf⟩
theorem Inv.re {A : Around} {c : Bool} {pn pins' : List (Addr × Obj)} {xe : Value → Shared → Prop} (I : Inv X pins σ H s) (hA : A.frames = X.A.frames) (hc : c = true → A.handled = none) (hp : ∀ p ∈ pn ++ pins', p ∈ X.pn ++ pins) :
    Inv { X with A := A, calm := c, pn := pn, xe := xe } pins' σ H s := ⟨I.ok.re A hA c hc pn xe, I.os, I.bare, I.base, I.loc, I.cell, I.free, I.freeC, fun p h => I.pin p (hp p h), I.hok, I.len⟩
theorem Inv.ex {A : Around} {c : Bool} {pn pins' : List (Addr × Obj)} {xe : Value → Shared → Prop} (I : Inv { X with A := A, calm := c, pn := pn, xe := xe } pins' σ H s) (ok : X.Ok) (hp : ∀ p ∈ X.pn ++ pins, p ∈ pn ++ pins') :
    Inv X pins σ H s := ⟨ok, I.os, I.bare, I.base, I.loc, I.cell, I.free, I.freeC, fun p h => I.pin p (hp p h), I.hok, I.len⟩
/-- an exception of a callee has landed in this frame -/
theorem fly_in {x t : Addr} {cls : Value} {od : Option Addr} {B h5 : Heap} (I : Inv X pins σ H s) (os : s'.os = s.os) (gb : GB s.gens.size s'.gens) (un : Un (frs X.stack) [] H H1 s.heap s'.heap) (hok : HOk X.prog X.w H1 s'.heap)
    (F : Heap.FlyingW B X.stack x cls (.ref t) s'.heap) (C : ∀ b o, s'.heap.get? b = some o → b ∉ frs X.stack → (H1 b ≠ none ∨ ∃ u, s.heap.get? b = some u) → B.get? b = some o)
    (F5 : Heap.FlyingW B X.stack x cls (.ref t) h5) (U : s'.heap.UpToSlots h5) (dn : ∀ o, h5.get? x = some o → o.dict = od) :
    Inv X pins σ H1 { s' with heap := h5 } ∧ H1 x = none ∧ Inv X pins σ (upd H1 x (ExcO x cls od)) { s' with heap := h5 } := by
  have I1 : Inv X pins σ H1 s' := I.call' (ch := []) os un hok gb (fun b hb => nomatch hb)
  have nF : ∀ b, H1 b ≠ none → b ∉ frs X.stack := fun b n m => n (I1.stkFree b m)
  have hok5 : HOk X.prog X.w H1 h5 := hok.tracked fun b u n e => F5.1 b u (C b u e (nF b n) (.inl n))
  have un5 : Un (frs X.stack) [] H H1 s.heap h5 := un.fly (fun b o z e n => F5.1 b o (C b o e n (.inr z))) fun b o hb e => by
    obtain ⟨_, o', e', nf⟩ := F.2.2.1.mem hb
    rw [e] at e'; cases e'
    exact U b o e nf
  have hx : H1 x = none := by
    cases q : H1 x with
    | none => rfl
    | some o =>
      have n : H1 x ≠ none := by rw [q]; exact fun z => nomatch z
      obtain ⟨u, hu⟩ := hok.there n
      have := C x u hu (nF x n) (.inl n)
      rw [F.2.1] at this; cases this
  have xF : x ∉ frs X.stack := fun m => by
    obtain ⟨_, o', e', nf⟩ := F.2.2.1.mem m
    obtain ⟨oe, vs, e1, _, e2, _⟩ := F.first
    rw [e1] at e'; cases e'
    exact nf _ e2
  have xN : ∀ o, s.heap.get? x = some o → False := fun o e => by
    obtain ⟨oe, vs, e1, _, e2, _⟩ := F.first
    have := C x oe e1 xF (.inr ⟨o, e⟩)
    rw [F.2.1] at this; cases this
  have nx : ∀ b u, H1 b = some u → b ≠ x := fun b u e z => by rw [z, hx] at e; cases e
  refine ⟨I.call' (s' := { s' with heap := h5 }) (ch := []) os un5 hok5 gb (fun b hb => nomatch hb), hx, I.call' (s' := { s' with heap := h5 }) (ch := []) os ?_ ?_ gb (fun b hb => nomatch hb)⟩
  · exact ⟨un5.keep, un5.slot, fun b o q n he => by rw [upd_ne (fun z => xN o (by rw [← z]; exact q))]; exact un5.free b o q n he, un5.there, fun b xs q => by rw [upd_ne (nx _ _ (un5.tups b xs q))]; exact un5.tups b xs q,
      fun b o u q => by rw [upd_ne (nx _ _ (un5.frzs b o u q))]; exact un5.frzs b o u q, fun b ps q => by
        obtain ⟨m, e⟩ := un5.tbls b ps q
        exact ⟨m, by rw [upd_ne (nx _ _ e)]; exact e⟩⟩
  · intro b o e
    by_cases hb : b = x
    · subst hb
      rw [upd_same] at e; cases e
      obtain ⟨oe, vs, e1, e2, e3, _⟩ := F5.first
      exact ⟨⟨oe, e1, e2, dn _ e1, _, e3⟩, ⟨oe, e1⟩, fun ha hb ⟨o, q1, q2⟩ k => ⟨o, k o q1, q2⟩⟩
    · rw [upd_ne hb] at e
      exact (hok5 b o e).stay (fun _ _ _ q => q) (fun c q => by rw [upd_ne (nx _ _ q)]; exact q) fun c xs q => by rw [upd_ne (nx _ _ q)]; exact q
/-- behind a suite of an except clause with a name: the name is gone -/
theorem name_gone {M : Model} {A : Around} {E : Value → Shared → Prop} {i : Nat} {n : Str} {pos : Pos} {Q : Unit → Shared → Prop} (I : Inv X pins σ H s) (hN : X.N.Nodup) (hi : X.N[i]? = some n) (hk : X.env.scope.names.lookup n = some .local)
    (h : ∀ s', Inv X pins (σ.set i none) H s' → Q () s') : wpAny M A (do bindName X.env n .none; unbindBehindTheSuite X.env n pos) Q E s := by
  obtain ⟨m, hn, hl⟩ := id I.loc
  have hcls : (X.env.scope.kind == .class || (X.env.scope.kind == .module && X.env.locals != X.env.globals)) = false := by rw [I.ok.kind]; rfl
  have cne := I.cne
  refine wpAny_nameGoes_keeps hk hn hcls fun h' v hn' hs => ?_
  refine h _ ⟨I.ok, I.os, I.bare, ⟨fun b o e n hb hx => ?_, fun b o e n hb hx => ?_, I.base.free, fun b o e hx => ?_, I.base.tups, I.base.frzs, I.base.tbls⟩, ⟨_, hn', fun j y v' e1 e2 e3 => ?_⟩, fun y c e => ?_, I.free, I.freeC, fun p hp => ?_, fun b ob e => ?_, by simpa using I.len⟩
  · exact (hs.2 b (Nat.ne_of_lt (Nat.lt_of_lt_of_le (Heap.lt_size e) I.ok.above))).trans (I.base.keep b o e n hb hx)
  · obtain ⟨sl, e1⟩ := I.base.slot b o e n hb hx
    exact ⟨sl, (hs.2 b (Nat.ne_of_lt (Nat.lt_of_lt_of_le (Heap.lt_size e) I.ok.above))).trans e1⟩
  · obtain ⟨o', e1⟩ := I.base.there b o e hx
    exact ⟨o', (hs.2 b (Nat.ne_of_lt (Nat.lt_of_lt_of_le (Heap.lt_size e) I.ok.above))).trans e1⟩
  · by_cases hj : j = i
    · subst hj
      have hiσ : j < σ.length := by rw [I.len]; exact (List.getElem?_eq_some_iff.mp hi).1
      rw [List.getElem?_set_self hiσ] at e2
      cases e2
    · rw [List.getElem?_set_ne (Ne.symm hj)] at e2
      obtain ⟨u', r', q⟩ := hl j y v' e1 e2 e3
      refine ⟨u', r', ?_⟩
      rcases q with ⟨k, e⟩ | ⟨k, c, e, z⟩
      · refine .inl ⟨k, ?_⟩
        have : y ≠ n := fun e => hj (nodup_ix hN e1 (e ▸ hi))
        simp [this, e]
      · exact .inr ⟨k, c, e, z.sameBut hs (cne y c e)⟩
  · obtain ⟨w', z⟩ := I.cell y c e
    exact ⟨w', z.sameBut hs (cne y c e)⟩
  · obtain ⟨e, n, ne, nf, d⟩ := I.pin p hp
    exact ⟨(hs.2 p.1 ne).trans e, n, ne, nf, d⟩
  · refine (I.hok b ob e).stay (fun c w' hc q => (hs.2 c ?_).trans q) (fun _ q => q) fun _ _ q => q
    rintro rfl
    rcases hc with z | z
    · rw [← z, I.free] at e; cases e
    · rw [I.free] at z; cases z
end
/-- try: body; except C as n: suite. T: how the callee's exception lies where it comes -/
def tTry (K : PySem.W.Frag) (C : Value) (i : Nat) (tb : TS) (T : St → XK) (th : TS) : TS := fun D σ H => tb D σ H ∧ ∀ σ1 cls od H1, T σ1 cls od H1 → exmOne K cls C = some true ∧ ∀ x, H1 x = none →
  th { nx := fun σ' H' => D.nx (σ'.set i none) H', rt := D.rt, bk := fun σ' H' => D.bk (σ'.set i none) H', ct := fun σ' H' => D.ct (σ'.set i none) H' } (σ1.set i (some (.ref x))) (upd H1 x (ExcO x cls od))
section
variable {X : Cx}
/-- what a callee's exception reaches -/
def Reaches (CX : CXT) (X : Cx) (T : St → XK) : Prop := ∀ (pins : List (Addr × Obj)) (σ : St) (H : Hp) (s : Shared) (e : Value) (s' : Shared), Inv X pins σ H s → CX X.stack H s (T σ) e s' → X.xe e s'
theorem ps_try {c n : Str} {C : Value} {i : Nat} {b0 : Stmt} {suite body : List Stmt} {np hp pos : Pos} {tb th : TS} {T : St → XK}
    (hc : X.calm = true) (hstk : X.stack = X.env :: X.outer) (hfr : X.env.frame = some X.env.locals) (hg : Gl X c) (hm : X.mg c = some C) (hN : X.N.Nodup) (hi : X.N[i]? = some n) (hk : X.env.scope.names.lookup n = some .local)
    (hb : ∀ pn xe, Reaches (CXE X.prog X.w) { X with pn := pn, xe := xe } T → PSs { X with pn := pn, xe := xe } body tb)
    (hs : ∀ x : Addr, PSs { X with A := X.A.mark (some (.ref x)), calm := false, pn := X.pn, xe := fun _ _ => False } (b0 :: suite) th)
    (hd : (c == ("__debug__" : Str)) = false := by decide) :
    PS X (.Try body [.ExceptHandler (some (.Name c np)) (some n) (b0 :: suite) hp] [] [] pos) (tTry X.K C i tb T th) := by
  intro pins s σ H D I ⟨h1, h2⟩
  let XE : Value → Shared → Prop := fun e s' => ∃ (σ1 : St) (H1 : Hp) (s1 : Shared), Inv X pins σ1 H1 s1 ∧ CXE X.prog X.w X.stack H1 s1 (T σ1) e s'
  have hok : X.Ok := I.ok
  have rch : Reaches (CXE X.prog X.w) { X with pn := X.pn ++ pins, xe := XE } T := fun p2 σ1 H1 s1 e s' I1 q =>
    ⟨σ1, H1, s1, Inv.ex (A := X.A) (c := X.calm) I1 hok (fun p hp => List.mem_append_left _ hp), q⟩
  have I0 : Inv { X with pn := X.pn ++ pins, xe := XE } [] σ H s := I.re rfl hok.hd fun p hp => by simpa using hp
  have back : ∀ {σ' H' s'}, Inv { X with pn := X.pn ++ pins, xe := XE } [] σ' H' s' → Inv X pins σ' H' s' := fun J => Inv.ex (A := X.A) (c := X.calm) J hok fun p hp => by simpa using hp
  refine wpAny_Try_except (wpAny_mono (hb _ _ rch s σ H D I0 h1) (fun f s1 q => ?_) fun e s1 q => ?_)
  · cases f with
    | next => obtain ⟨σ', H', J, q⟩ := q; exact wpAny_execs_nil ⟨σ', H', back J, q⟩
    | brk => obtain ⟨σ', H', J, q⟩ := q; exact ⟨σ', H', back J, q⟩
    | cont => obtain ⟨σ', H', J, q⟩ := q; exact ⟨σ', H', back J, q⟩
    | ret u => obtain ⟨v, σ', H', J, r, q⟩ := q; exact ⟨v, σ', H', back J, r, q⟩
  · obtain ⟨σ1, H0, s0, J0, x, cls, od, H1, rfl, os, gb, un, hok1, ⟨⟨B, t, F, C0⟩, dn0⟩, hT⟩ := q
    obtain ⟨m1, m2⟩ := h2 σ1 cls od H1 hT
    have F0 : Heap.FlyingW B (X.env :: X.outer) x cls (.ref t) s1.heap := hstk ▸ F
    have kd : ∀ {ha hb : Heap} {o : Obj}, DK ha hb → ha.get? x = some o → o.dict = od → ∀ o', hb.get? x = some o' → o'.dict = od := fun dk e d o' e' => by
      obtain ⟨o2, e2, d2⟩ := dk x _ e
      rw [e'] at e2; cases e2
      exact d2.trans d
    refine wpAny_mono ((kpd_note _ _).any (wpAny_looks_onW (Q := fun _ s4 => ∃ h4, s4 = { s1 with heap := h4 } ∧ Heap.HeldW B (X.env :: X.outer) x cls (.ref t) X.env.locals h4 ∧ s1.heap.UpToSlots h4) (hok.frames.trans (congrArg some hstk)) hfr F0 fun h4 a b => ⟨h4, rfl, a, b⟩)) (fun _ s4 ⟨⟨h4, ee4, hh4, U4⟩, dk4⟩ => ?_) fun _ _ z => z
    subst ee4
    refine wpAny_mono ((kpd_flight _ _).any (wpAny_landsW (Q := fun _ s5 => ∃ h5, s5 = { s1 with heap := h5 } ∧ Heap.FlyingW B (X.env :: X.outer) x cls (.ref t) h5 ∧ h4.UpToSlots h5) hh4 fun h5 a b => ⟨h5, rfl, a, b⟩)) (fun _ s5 ⟨⟨h5, ee5, F5, U5⟩, dk5⟩ => ?_) fun _ _ z => z
    subst ee5
    obtain ⟨oe0, ws0, hoe0, _⟩ := F.first
    have dk05 : DK s1.heap h5 := dk4.trans dk5
    have dn5 := kd dk05 hoe0 (dn0 _ hoe0)
    have F5 : Heap.FlyingW B X.stack x cls (.ref t) h5 := hstk ▸ F5
    have U05 : s1.heap.UpToSlots h5 := U4.trans U5
    obtain ⟨J5, _, _⟩ := fly_in J0 os gb un hok1 F C0 F5 U05 dn5
    have J5m : Inv { X with A := X.A.mark (some (.ref x)), calm := false, pn := X.pn, xe := fun _ _ => False } pins σ1 H1 { s1 with heap := h5 } := J5.re rfl (fun z => nomatch z) fun p hp => hp
    obtain ⟨oe, ws, hoe, hcl, _⟩ := F5.first
    refine wpAny_handleBy_cons (codeAny_handlers_test (ld_glob J5m hg hm ?_ hd)) (by intro q; cases q)
    have LT : Looks (model X.prog X.w) h5 (typeOf (.ref x)) cls := hcl ▸ (Looks.ld hoe).andThen .now
    refine (exm_one (M := model X.prog X.w) J5.kIn LT m1).here ?_
    show codeAny _ _ _ _ _
    refine codeAny_handlers_suite_as ?_
    refine wpAny_mono ((kpd_flight _ _).any (lands_againW (Q := fun _ s6 => ∃ h6, s6 = { s1 with heap := h6 } ∧ Heap.FlyingW B X.stack x cls (.ref t) h6 ∧ h5.UpToSlots h6) F5 fun h6 a b => ⟨h6, rfl, a, b⟩)) (fun _ s6 ⟨⟨h6, ee6, F6, U6⟩, dk6⟩ => ?_) fun _ _ z => z
    subst ee6
    obtain ⟨J6, hx, J6x⟩ := fly_in J0 os gb un hok1 F C0 F6 (U05.trans U6) (kd (dk05.trans dk6) hoe0 (dn0 _ hoe0))
    have J6m : Inv { X with A := X.A.mark (some (.ref x)), calm := false, pn := X.pn, xe := fun _ _ => False } pins σ1 (upd H1 x (ExcO x cls od)) { s1 with heap := h6 } := J6x.re rfl (fun z => nomatch z) fun p hp => hp
    refine store_ok (X := { X with A := X.A.mark (some (.ref x)), calm := false, pn := X.pn, xe := fun _ _ => False }) (x := n) (i := i) J6m hN hi (.inl hk) (v := .ref x) rfl (fun s7 J7 => ?_) (.inr hk)
    refine wpAny_mono (hs x s7 _ _ _ J7 (m2 x hx)) (fun f s8 q => ?_) fun _ _ z => z.elim
    have goes : ∀ {σ' H'} {Q : Unit → Shared → Prop}, Inv { X with A := X.A.mark (some (.ref x)), calm := false, pn := X.pn, xe := fun _ _ => False } pins σ' H' s8 → (∀ s9, Inv X pins (σ'.set i none) H' s9 → Q () s9) →
        wpAny (model X.prog X.w) X.A (do bindName X.env n .none; unbindBehindTheSuite X.env n hp) Q X.xe s8 := fun J h => name_gone (Inv.ex J hok fun p hp => hp) hN hi hk h
    show wpAny (model X.prog X.w) X.A (do bindName X.env n .none; unbindBehindTheSuite X.env n hp) _ _ _
    cases f with
    | next => obtain ⟨σ', H', J, q⟩ := q; exact goes J fun s9 J9 => ⟨_, H', J9, q⟩
    | brk => obtain ⟨σ', H', J, q⟩ := q; exact goes J fun s9 J9 => ⟨_, H', J9, q⟩
    | cont => obtain ⟨σ', H', J, q⟩ := q; exact goes J fun s9 J9 => ⟨_, H', J9, q⟩
    | ret u => obtain ⟨v, σ', H', J, r, q⟩ := q; exact goes J fun s9 J9 => ⟨v, _, H', J9, r, q⟩
end
end L2
set_option Elab.async false
set_option linter.all false
set_option maxRecDepth 100000
set_option maxHeartbeats 4000000
namespace L2
open PySem PySem.W PySem.Spec PyProof.Rows
section
variable {X : Cx}
/-- a call whose exception reaches what this body wants -/
def tCallX (sp : Sp) (dvs : List V) (E : St → XK) (t : TA) : TE := fun σ H Q => t σ H fun vs H1 => sp (vs ++ dvs) H1 Q (E σ)
variable {CX : CXT} {k : Nat} {f : Addr} {fd : FuncData} {ps : List Str} {sp sp' : Sp} {dvs : List V} {ds : List Value} {E : St → XK} {x : Str} {p pos : Pos} {e : Expr} {es : List Expr} {t : TA}
theorem pe_callX (F : FnOk X.prog X.w X.K X.mg X.base CX k f fd ps sp) (hr : Room k X.A) (hg : Gl X x) (hm : X.mg x = some (.ref f)) (hk : PySem.W.keepIn X.K (.ref f) = true) (hb : Binds X.K fd ps ds) (hd : Vals dvs ds) (hx : Reaches CX X E)
    (ha : PA X (e :: es) t) (hdb : (x == ("__debug__" : Str)) = false := by decide) (he : starEach (e :: es) X.env = (false, eval e X.env) :: starEach es X.env := by rfl) (hpl : (backTo pos (starEach es X.env)).any (·.1) = false := by rfl) :
    PE X (.Call (.Name x p) (e :: es) [] pos) (tCallX sp dvs E t) := by
  intro pins s σ H Q I h
  refine wpAny_Call_Name_kw (ld_glob I hg hm ?_ hdb)
  refine PySem.W.callWith_K (h₀ := X.base) I.ok.mod.kin hk (thn (ha pos s σ H _ I h) fun us s1 ⟨vs, H1, I1, r, q⟩ => ⟨I1.kIn, ?_⟩) he hpl
  have r2 : Vals (vs ++ dvs) (us ++ ds) := r.append hd
  have hl : (us ++ ds).length = ps.length := by rw [← r2.length]; exact F.len _ _ _ _ q
  refine wpAny_call (codeAny_mono (F.run X.A X.stack s1 H1 ⟨us, []⟩ (us ++ ds) (vs ++ dvs) Q (E σ) hr I1.env0 (hb s1 us I1.kIn hl) r2 q) fun r s' hq => ?_)
  cases r with
  | error e => exact hx pins σ H1 s1 e s' I1 hq
  | ok fl =>
    cases fl with
    | ret u => exact I1.after hq
    | next => exact False.elim hq
    | brk => exact False.elim hq
    | cont => exact False.elim hq
end
section
variable {P : Program} {w : World} {K : PySem.W.Frag} {mg : Str → Option Value} {base : Heap}
/-- a def that may raise: its body as a term of rules, what it wants of exceptions is E -/
theorem Fun.okE {x qual : Str} {st : Stmt} {f : Addr} {fd : FuncData} {N ps : List Str} {k : Nat} {sp : Sp} (F : Fun K x qual st f fd) (S : FnScope N ps (defScope st)) (len : ∀ vs H Q E, sp vs H Q E → vs.length = ps.length)
    (hbody : ∀ (cdv : Value) (A : Around) (outer : List Env) (s : Shared) (H : Hp) (vs : List V) (Q : VK) (E : XK), Room k (A.deeper (envOfC qual (defScope st) s.heap.objs.size f cdv)) → sp vs H Q E →
      ∃ t, PSs (cxOf (CXE P w) P w K mg base N qual (defScope st) f cdv A outer s H E) (defBody st) t ∧ t { nx := fun _ H' => Q .non H', rt := Q } (start N vs) H) : FnOk P w K mg base (CXE P w) (k + 1) f fd ps sp := by
  obtain ⟨oc, od, kV, doc, pm, an, cdv, ct, osl, rfl, lk, hcd⟩ := F.ex
  exact fn_of lk hcd S len fun A outer s H vs Q E hr hsp => hbody cdv A outer s H vs Q E hr hsp
variable {k : Nat} {f : Addr} {fd : FuncData} {ps : List Str} {sp sp' : Sp}
/-- a def that raises nothing, where an exception might be -/
theorem FnOk.lift {CX : CXT} (F : FnOk P w K mg base CX0 k f fd ps sp) : FnOk P w K mg base CX k f fd ps sp :=
  ⟨F.len, fun A outer s H args us vs Q E hr he hb hv hs => codeAny_mono (F.run A outer s H args us vs Q E hr he hb hv hs) fun r s' q => by
    cases r with
    | error e => exact False.elim q
    | ok fl =>
      cases fl with
      | ret u => exact q
      | next => exact False.elim q
      | brk => exact False.elim q
      | cont => exact False.elim q⟩
/-- two promises of one def -/
theorem FnOk.or {CX : CXT} (F : FnOk P w K mg base CX k f fd ps sp) (G : FnOk P w K mg base CX k f fd ps sp') : FnOk P w K mg base CX k f fd ps (fun vs H Q E => sp vs H Q E ∨ sp' vs H Q E) :=
  ⟨fun vs H Q E q => q.elim (F.len vs H Q E) (G.len vs H Q E), fun A outer s H args us vs Q E hr he hb hv hs => hs.elim (F.run A outer s H args us vs Q E hr he hb hv) (G.run A outer s H args us vs Q E hr he hb hv)⟩
end
section
variable {M : Model} {A : Around} {E : Value → Shared → Prop} {env : Env} {nm q : Str} {C N : Addr} {bs bm : List Value} {hdct : Bool} {sn : List Str} {sub : List Value} {ab : Bool} {col : Option Bool} {dd : Option Addr} {k0 k1 k2 k3 k5 : Option Value} {newId : String}
theorem raise_madeA {s : Shared} {x : Sem Value} {Q : Flow → Shared → Prop} (hbase : bm.contains (.type "BaseException") = true) (hh : A.handled = none)
    (h : wpAny M A x (fun v s1 => ∃ e o, v = .ref e ∧ s1.heap.get? C = some (excClassObj nm q C N bs bm hdct sn sub ab col dd k0 k1 k2 k3 k5 newId) ∧ s1.heap.get? e = some o ∧ o.cls = .ref C ∧ (∃ t, o.data = .fields #[.ref t, .none, .none, .none, .bool false, .none]) ∧ E (.ref e) s1) E s) :
    wpAny M A (raiseStmt env (some x) none) Q E s := by
  have hcB : (Value.ref C :: bm).contains (.type "BaseException") = true := by rw [List.contains_cons, hbase, Bool.or_true]
  unfold raiseStmt
  refine wpAny_bind (wpAny_mono h (fun v s1 h1 => ?_) fun _ _ x => x)
  obtain ⟨e, ⟨oc, od, odt, osl⟩, rfl, hC, he, hc, ⟨tv, hv⟩, hE⟩ := h1
  dsimp only at hc hv
  subst hc hv
  obtain ⟨hp, g, d, tk, os⟩ := s1
  repeat (first | with_reducible refine wpAny_loadPart_at he ?_ | with_reducible refine wpAny_loadPart_at hC ?_ | (with_reducible refine wpAny_isSubtype_exc hC ?_; rw [hcB]) | wp_step)
  exact wpAny_raiseNew_none hh hE
end
/-- raise C(e): a and b stand around the number in the exception's text -/
def tRaiseA (E : XK) (cls : Value) (name a b : Str) (te : TE) : TS := fun _ σ H => te σ H fun v H1 => ∃ n : Int, v = .int n ∧ n.natAbs.log2 < 1920 ∧ a.length + (toString n : Str).length + b.length ≤ sizeLine ∧ ∀ dx, H1 dx = none → E cls (some dx) (upd H1 dx (.xd [(name, .int n)]))
section
variable {X : Cx} {x : Str} {C f cc cda : Addr} {qual name : Str} {fd : FuncData} {a b : Str} {self : Arg} {p0 p1 p2 p3 p4 p5 p6 p7 p8 p9 q0 q1 q2 q3 : Pos} {j0 j1 : Nat} {e0 : Expr} {te : TE} {np cpos pos : Pos} {E : XK} {k : Nat}
theorem ps_raiseA (I0 : InitC X.prog X.K C f cc cda qual fd name) (S : InitT fd name a b self p0 p1 p2 p3 p4 p5 p6 p7 p8 p9 q0 q1 q2 q3 j0 j1) (hc : X.calm = true) (hr : Room (k + 1) X.A) (hg : Gl X x) (hm : X.mg x = some (.ref C)) (he : PE X e0 te) (hst : noStarE e0 = true)
    (hx : ∀ (pins : List (Addr × Obj)) (σ : St) (H : Hp) (s : Shared) (h' : Heap) (t' : Nat) (e dx : Addr) (n : Int) (tk : Tok), Inv X pins σ H s → MadeA s.heap h' e C dx name (.int n tk) → E (.ref C) (some dx) (upd H dx (.xd [(name, .int n)])) → X.xe (.ref e) { s with heap := h', toks := t' })
    (hd : (x == ("__debug__" : Str)) = false := by decide) :
    PS X (.Raise (some (.Call (.Name x np) [e0] [] cpos)) none pos) (tRaiseA E (.ref C) name a b te) := by
  intro pins s σ H D I h
  have hst1 : starEach [e0] X.env = [(false, eval e0 X.env)] := by
    cases e0 <;> first
      | rfl
      | exact absurd hst Bool.false_ne_true
  obtain ⟨bm, N, nm, qn, bs, sn, sub, ab, col, dd, k0, k1, k2, k3, k5, kC0, T0⟩ := exc_ofA I.ok.mod.kin I0.exc
  rw [arm_exec_Raise]
  simp only [evalOpt, Option.map]
  refine wpAny_bind (wpAny_standAt (raise_madeA (C := C) (nm := nm) (q := qn) (N := N) (bs := bs) (bm := bm) (hdct := true) (sn := sn) (sub := sub) (ab := ab) (col := col) (dd := dd) (k0 := k0) (k1 := k1) (k2 := k2) (k3 := k3) (k5 := k5) (newId := "ValueError.__new__") (T0.hasType PySem.F.excBase_ValueError.hasBase) (I.ok.hd hc)
    (wpAny_bind (wpAny_mono (wpAny_Call_ofName (ld_glob I hg hm ?_ hd)) (fun v s3 h3 => wpAny_bind (wpAny_standAt (wpAny_pure h3))) fun _ _ y => y))))
  unfold callWith
  rw [hst1]
  refine wpAny_bind (wpAny_holding (wpAny_mono (Q := fun (a' : Args) s1 => ∃ u v H1, a' = ⟨[u], []⟩ ∧ Inv X pins σ H1 s1 ∧ RelV v u ∧ ∃ n : Int, v = .int n ∧ n.natAbs.log2 < 1920 ∧ a.length + (toString n : Str).length + b.length ≤ sizeLine ∧ ∀ dx, H1 dx = none → E (.ref C) (some dx) (upd H1 dx (.xd [(name, .int n)]))) (Calls.evalArgs_plain (Calls.spliced_cons (wpAny_mono (he s σ H _ I h) (fun u s1 ⟨v, H1, I1, r1, q1⟩ => Calls.spliced_nil ⟨u, v, H1, rfl, I1, r1, q1⟩) fun _ _ y => y))) (fun a' s2 ⟨u, v, H1, ea, I1, r1, q1⟩ => wpAny_bind (wpAny_standAt ?_)) fun _ _ y => y))
  subst ea
  obtain ⟨n, rfl, hl, hla, q1⟩ := q1
  obtain ⟨tn, rfl⟩ := r1
  have kC := I1.bk _ _ kC0
  have T := T0.keeps I1.bk
  have X2 := I1.kIn
  have hrm : (X.A.under (.builtin "type.__call__" ⟨.ref C :: [.int n tn], []⟩)).depth < recursionLimit := (hr.make C [.int n tn] []).depth
  obtain ⟨hp, g, d, tk, os⟩ := s2
  simp only [backTo, List.map_cons, List.map_nil, List.any_cons, List.any_nil, Bool.or_false]
  refine wpAny_bind (wpAny_keeperOf_exc kC ?_)
  obtain ⟨mb, hmb, hbb⟩ := I.ok.mod.blt
  obtain ⟨oc, od, osl, lk, hoc⟩ := id I0.lk
  subst hoc
  refine wpAny_bind (call_own PySem.F.excBase_ValueError T kC (PySem.W.looks_findIn X2 I0.ini) (X2 _ _ lk) rfl (by show 1 ≤ sizeLine; decide) fun h' e hm' => ?_)
  refine init_own X2 I0 S (I.ok.mod.glob.keeps I1.bk) (PySem.W.mg_none_of I.ok.mod.kin I.ok.mod.glob I0.noSuper) (hmb.keeps I1.bk) ((hbb _ (by decide)).trans (by decide +kernel)) (I.ok.mod.nolimit.keeps I1.bk) hrm kC T hm' hl hla fun h2 t2 dx tk2 MA => ⟨rfl, wpAny_bind (wpAny_holding (wpAny_point (wpAny_pure ?_)))⟩
  obtain ⟨t3, ht3⟩ := MA.there
  have nd : H1 dx = none := by
    cases z : H1 dx with
    | none => rfl
    | some o =>
      obtain ⟨u, hu⟩ := I1.hok.there (a := dx) (by rw [z]; exact fun y => nomatch y)
      have hu : hp.get? dx = some u := hu
      rw [MA.newd] at hu; cases hu
  exact ⟨e, _, rfl, MA.keeps _ _ kC, ht3, rfl, ⟨_, rfl⟩, hx pins σ H1 _ h2 t2 e dx n tk2 I1 MA (q1 dx nd)⟩
end
section
variable {P : Program} {w : World} {K : PySem.W.Frag} {mg : Str → Option Value} {base : Heap} {N : List Str} {qual : Str} {scope : Scope} {f : Addr} {cd : Value} {A : Around} {outer : List Env} {s0 : Shared} {H0 : Hp} {E : XK}
theorem xe_madeA {name : Str} {C : Addr} (pins : List (Addr × Obj)) (σ : St) (H : Hp) (s : Shared) (h' : Heap) (t' : Nat) (e dx : Addr) (n : Int) (tk : Tok) (I : Inv (cxOf (CXE P w) P w K mg base N qual scope f cd A outer s0 H0 E) pins σ H s) (M : MadeA s.heap h' e C dx name (.int n tk))
    (hE : E (.ref C) (some dx) (upd H dx (.xd [(name, .int n)]))) : (cxOf (CXE P w) P w K mg base N qual scope f cd A outer s0 H0 E).xe (.ref e) { s with heap := h', toks := t' } := by
  obtain ⟨t, ht⟩ := M.there
  refine raise_xa I M.keeps M.new M.newd M.ne ht rfl rfl [(name, .int n)] ⟨_, M.at_, fun y => ?_⟩ hE
  by_cases hy : y = name
  · subst hy
    rw [if_pos rfl]
    have z : (y == y) = true := by simp
    simp only [List.lookup, z]
    exact ⟨tk, rfl⟩
  · rw [if_neg hy]
    have z : (y == name) = false := beq_eq_false_iff_ne.mpr hy
    simp only [List.lookup, z]
    exact trivial
end
end L2
set_option Elab.async false
set_option linter.all false
set_option maxRecDepth 100000
set_option maxHeartbeats 4000000
namespace L2
open PySem PySem.W PySem.Spec PyProof.Rows
/-- what is asked of an own class of errors, read off the kept heap -/
structure ExcC (K : PySem.W.Frag) (D : Addr) : Prop where
  g : findIn K (.ref D) "__getattribute__" = some (some (.builtin "BaseException.__getattribute__"))
  h : findIn K (.ref D) "__getattr__" = some none
  c : hasDictIn K D = true
  a : findIn K (.ref D) "__class__" = some (some (.builtin "object.__class__"))
  m : mroIn K D (.type "object") = some true
  b : mroIn K D (.type "BaseException") = some true
section
variable {prog : Program} {w : World} {A : Around} {E : Value → Shared → Prop} {h : Heap} {g : Array GenState} {d : Drawn} {t : Nat} {os : OsState} {x D : Addr} {o : Obj} {od : Option Obj} {K : PySem.W.Frag}
theorem exc_check {M : Model} {nameV : Value} {Q : Unit → Shared → Prop} (X : K.In h) (I : InstAt h x o D od) (C : ExcC K D) (hq : Q () ⟨h, g, d, t, os⟩) :
    wpAny M A (checkBuiltinCall "BaseException.__getattribute__" ⟨[.ref x, nameV], []⟩) Q E ⟨h, g, d, t, os⟩ := by
  have hk : builtinKind "BaseException.__getattribute__" = some .slot := by decide +kernel
  have hsplit : splitId "BaseException.__getattribute__" = some ("BaseException", "__getattribute__") := by decide +kernel
  have L0 := I.type (M := M)
  have L1 := looks_mroIn (M := M) X C.b
  have LI : Looks M h (isInstance (.ref x) (.type "BaseException")) true := L0.andThen L1
  have ha := PySem.F.args_bexc_ga (.ref x) nameV
  simp only [checkBuiltinCall, hk, hsplit]
  refine wpAny_bind ?_
  refine LI.at ?_
  repeat (any_goals (first | assumption | wp_step))
theorem exc_entry {tk : Tok} {Q : Fin → Shared → Prop} (X : K.In h) (I : InstAt h x o D od) (C : ExcC K D) (hq : Q (.done (.ret (.ref D))) ⟨h, g, d, t, os⟩) :
    wpAny (model prog w) A (Builtin.«object.__getattribute__» ⟨[.ref x, .str "__class__" tk], []⟩) Q E ⟨h, g, d, t, os⟩ := by
  have hT5 : (⟨h, g, d, t, os⟩ : Shared).TypeIs (.builtin "object.__class__") "getset_descriptor" := PySem.F.typeOf_object_class
  have f5 := PySem.F.typeOf_object_class
  have f6 := PySem.F.slot_gs_get.lookup
  have f7 := PySem.F.slot_gs_set.lookup
  have L0 := I.type (M := model prog w)
  have L1 := looks_findIn (M := model prog w) X C.a
  repeat (any_goals (first | assumption | with_reducible refine L0.at ?_ | with_reducible refine L1.at ?_ | wp_step))
  refine class_get (s := ⟨h, g, d, t, os⟩) (ox := o) (od := od) X I C.m ?_
  repeat (any_goals (first | assumption | wp_step))
theorem exc_by {tk : Tok} {Q : Value → Shared → Prop} (X : K.In h) (I : InstAt h x o D od) (C : ExcC K D) (hq : Q (.ref D) ⟨h, g, d, t, os⟩) :
    wpAny (model prog w) A (getAttrBy (.ref x) (.str "__class__" tk) false) Q E ⟨h, g, d, t, os⟩ := by
  have f3 := PySem.F.excAttr_ValueError.ga.bind (.ref x)
  have hx2 : (Value.builtin "BaseException.__getattribute__" == Value.builtin "object.__getattribute__") = false := by decide +kernel
  have hx1 : (onTheHeap (Value.ref D) && Value.builtin "BaseException.__getattribute__" == Value.builtin "object.__getattribute__") = false := by rw [hx2]; rfl
  have L0 := I.type (M := model prog w)
  have L1 := looks_findIn (M := model prog w) X C.g
  have L2 := looks_findIn (M := model prog w) X C.h
  repeat (any_goals (first | assumption | with_reducible refine L0.at ?_ | with_reducible refine L1.at ?_ | with_reducible refine L2.at ?_ | wp_step))
  refine codeAny_call_builtin PySem.F.excAttr_ValueError.ga.plain PySem.F.entry_bexc_ga (exc_check X I C (exc_entry X I C ?_))
  repeat (any_goals (first | assumption | wp_step))
theorem exc_class {Q : Option Value → Shared → Prop} (X : K.In h) (I : InstAt h x o D od) (C : ExcC K D) (hq : Q (some (.ref D)) ⟨h, g, d, t + 1, os⟩) :
    wpAny (model prog w) A (getAttr? (.ref x) "__class__") Q E ⟨h, g, d, t, os⟩ := by
  unfold getAttr? getAttrBy?
  repeat (any_goals (first | assumption | with_reducible apply exc_by X I C | wp_step))
/-- an attribute of an exception, found in its own dict -/
theorem exc_find {name : Str} {v : Value} {tk : Tok} {Q : Fin → Shared → Prop} (X : K.In h) (I : InstAt h x o D od) (hf : findObj K D od name = some (.value v)) (hh : handedIn v = true) (hq : Q (.done (.ret v)) ⟨h, g, d, t, os⟩) :
    wpAny (model prog w) A (Builtin.«object.__getattribute__» ⟨[.ref x, .str name tk], []⟩) Q E ⟨h, g, d, t, os⟩ := by
  have L0 := I.type (M := model prog w)
  have L1 := looks_find (M := model prog w) X I hf
  have L2 := handedOut_of hh
  repeat (any_goals (first | assumption | with_reducible refine L0.at ?_ | with_reducible refine L1.at ?_ | wp_step))
theorem exc_attr {name : Str} {v : Value} {e : Bool} {Q : Value → Shared → Prop} (X : K.In h) (I : InstAt h x o D od) (C : ExcC K D) (hf : findObj K D od name = some (.value v)) (hh : handedIn v = true) (hq : ∀ t', Q v ⟨h, g, d, t', os⟩) :
    wpAny (model prog w) A (getAttr (.ref x) name e) Q E ⟨h, g, d, t, os⟩ := by
  have f3 := PySem.F.excAttr_ValueError.ga.bind (.ref x)
  have hx2 : (Value.builtin "BaseException.__getattribute__" == Value.builtin "object.__getattribute__") = false := by decide +kernel
  have hx1 : (onTheHeap (Value.ref D) && Value.builtin "BaseException.__getattribute__" == Value.builtin "object.__getattribute__") = false := by rw [hx2]; rfl
  have L0 := I.type (M := model prog w)
  have L1 := looks_findIn (M := model prog w) X C.g
  have L2 := looks_findIn (M := model prog w) X C.h
  have hx3 : (e && onTheHeap (Value.builtin "BaseException.__getattribute__")) = false := by cases e <;> rfl
  unfold getAttr getAttrBy
  repeat (any_goals (first | assumption | with_reducible refine L0.at ?_ | with_reducible refine L1.at ?_ | with_reducible refine L2.at ?_ | wp_step))
  refine codeAny_call_builtin PySem.F.excAttr_ValueError.ga.plain PySem.F.entry_bexc_ga (exc_check X I C (exc_find X I hf hh ?_))
  have L3 := handedOut_of hh
  repeat (any_goals (first | assumption | exact hq _ | wp_step))
end
end L2
set_option Elab.async false
set_option linter.all false
set_option maxRecDepth 100000
set_option maxHeartbeats 4000000
namespace L2
open PySem PySem.W PySem.Spec PyProof.Rows
def ExcAt (x D : Addr) (od : Option Addr) (h : Heap) : Prop := (∃ o, h.get? x = some o ∧ o.cls = .ref D ∧ o.dict = od ∧ ∃ vs, o.data = .fields vs) ∧ ∀ dx, od = some dx → ∃ u, h.get? dx = some u
theorem ExcAt.inst {x D : Addr} {od : Option Addr} {h : Heap} (e : ExcAt x D od h) : ∃ ox oo, InstAt h x ox D oo := by
  obtain ⟨⟨o, h1, h2, h3, vs, h4⟩, h5⟩ := e
  cases od with
  | none =>
    refine ⟨o, none, h1, h2, ?_, ?_⟩
    · unfold notCls
      rw [h4]
    · rw [h3]
      trivial
  | some dx =>
    obtain ⟨u, hu⟩ := h5 dx rfl
    refine ⟨o, some u, h1, h2, ?_, ?_⟩
    · unfold notCls
      rw [h4]
    · rw [h3]
      exact hu
/-- an exception's own dict, if it has one, is tracked -/
def XDict (H : Hp) (od : Option Addr) : Prop := ∀ dx, od = some dx → ∃ fs, H dx = some (.xd fs)
theorem XDict.there {P : Program} {w : World} {H : Hp} {h : Heap} {od : Option Addr} (x : XDict H od) (ok : HOk P w H h) : ∀ dx, od = some dx → ∃ u, h.get? dx = some u := fun dx e => by
  obtain ⟨fs, hf⟩ := x dx e
  exact ok.there (by rw [hf]; exact fun z => nomatch z)
theorem XDict.none {H : Hp} : XDict H none := fun _ z => nomatch z
theorem XDict.some {H : Hp} {dx : Addr} {fs : List (Str × V)} (h : H dx = some (.xd fs)) : XDict H (some dx) := fun _ e => by cases e; exact ⟨fs, h⟩
theorem kitx_exc {K : PySem.W.Frag} {x D : Addr} {od : Option Addr} (C : ExcC K D) : KitX K (.ref x) (.ref D) (ExcAt x D od) where
  ty := fun _ _ _ e => by
    obtain ⟨ox, oo, I⟩ := e.inst
    exact I.type
  it := fun _ _ X _ => by
    obtain ⟨cdD, hcD, _⟩ := any_some C.c
    unfold clsIn at hcD
    split at hcD
    · rename_i c' d' cd' sl' ho
      intro A' Q' E' s' k q
      unfold isType loadHead
      exact wpAny_bind (wpAny_loadPart (k _ _ (X _ _ ho)) (wpAny_pure q))
    · cases hcD
  ne := fun h tp dd its n sl X htp => by
    obtain ⟨cdD, hcD, _⟩ := any_some C.c
    refine Bool.eq_false_iff.mpr fun q => ?_
    have e : D = tp := Value.ref.inj (beq_iff_eq.mp q)
    subst e
    unfold clsIn at hcD
    split at hcD
    · rename_i c' d' cd' sl' ho
      have z := (X _ _ ho).symm.trans htp
      cases z
    · cases hcD
  ca := fun {prog w A E Q s} X e k => by
    obtain ⟨ox, oo, I⟩ := e.inst
    obtain ⟨h, g, d, t, os⟩ := s
    exact exc_class X I C k
section
variable {X : Cx}
/-- isinstance(e, C), e an exception that was caught, C one class -/
theorem call_isiE : CallR X (.builtin "isinstance") (fun xs H Q => ∃ a D od v c b, xs = [V.ref a, v] ∧ H a = some (ExcO a (.ref D) od) ∧ XDict H od ∧ ExcC X.K D ∧ (∀ u, RelV v u → u = c) ∧ kitOne X.K (.ref D) c = some b ∧ Q (.bl b) H) := by
  intro pins s σ H xs us Q I r h
  obtain ⟨a, D, od, v, c, b, rfl, e, xd, C, rv, k, q⟩ := h
  obtain ⟨u, w', rfl, rx, ry⟩ := vals2 r
  cases (show u = Value.ref a from rx)
  rw [rv w' ry]
  obtain ⟨p, _⟩ := (show ObjOk X.prog X.w H s.heap a (ExcO a (.ref D) od) from I.hok a _ e)
  exact kia_one (kitx_exc C) I.kIn (show ExcAt a D od s.heap from ⟨p, xd.there I.hok⟩) k (fun z => nomatch z) fun tk => ⟨.bl b, H, I.tok _, rfl, q⟩
theorem vals_refs : ∀ {Cs : List Addr} {us : List Value}, Vals (Cs.map V.ref) us → us = Cs.map Value.ref
  | [], _, .nil => rfl
  | T :: r, _, .cons h t => by
    have e : _ = Value.ref T := h
    rw [e, vals_refs t]
    rfl
/-- isinstance(e, (C, ..)) -/
theorem call_isiET : CallR X (.builtin "isinstance") (fun xs H Q => ∃ a D od p Cs b, xs = [V.ref a, V.ref p] ∧ H a = some (ExcO a (.ref D) od) ∧ XDict H od ∧ ExcC X.K D ∧ SqT X.K H p (List.map V.ref Cs) ∧ kitAny X.K (.ref D) (List.map Value.ref Cs) = some b ∧ Q (.bl b) H) := by
  intro pins s σ H xs us Q I r h
  obtain ⟨a, D, od, p, Cs, b, rfl, e, xd, C, hp, k, q⟩ := h
  obtain ⟨u, w', rfl, rx, ry⟩ := vals2 r
  cases (show u = Value.ref a from rx)
  cases (show w' = Value.ref p from ry)
  obtain ⟨its, rv, ⟨⟨cls, dd, data, sl⟩, ho, hc, n, hd⟩, _⟩ := I.tuple hp
  simp only at hc hd
  subst hc hd
  rw [← vals_refs rv] at k
  obtain ⟨pz, _⟩ := (show ObjOk X.prog X.w H s.heap a (ExcO a (.ref D) od) from I.hok a _ e)
  exact kia_tup (kitx_exc C) I.kIn (show ExcAt a D od s.heap from ⟨pz, xd.there I.hok⟩) ho k (fun z => nomatch z) fun tk => ⟨.bl b, H, I.tok _, rfl, q⟩
/-- e.f, an attribute of a caught exception -/
def tExcA (K : PySem.W.Frag) (f : Str) (ta : TE) : TE := fun σ H Q => ta σ H fun x H1 => ∃ a D dx fs v, x = .ref a ∧ H1 a = some (ExcO a (.ref D) (some dx)) ∧ H1 dx = some (.xd fs) ∧ ExcC K D ∧ findIn K (.ref D) f = some none ∧ fs.lookup f = some v ∧ Q v H1
theorem pe_excA {e : Expr} {f : Str} {pos : Pos} {ta : TE} (he : PE X e ta) (hb : attributeBase e f X.env (eval e X.env) = eval e X.env) : PE X (.Attribute e f pos) (tExcA X.K f ta) := by
  intro pins s σ H Q I h
  refine attr_of hb (thn (he s σ H _ I h) fun u s1 ⟨x, H1, I1, rx, a, D, dx, fs, v, ex, ea, ed, C, na, l, q⟩ => ?_)
  subst ex
  obtain rfl : u = Value.ref a := rx
  obtain ⟨⟨o, h1, h2, h3, vs, h4⟩, _⟩ := (show ObjOk X.prog X.w H1 s1.heap a (ExcO a (.ref D) (some dx)) from I1.hok a _ ea)
  obtain ⟨mA, nsA, r⟩ := (show ObjOk X.prog X.w H1 s1.heap dx (.xd fs) from I1.hok dx _ ed)
  obtain ⟨oo, ho, hl⟩ := lookIn_ns nsA
  obtain ⟨u, hu, ru⟩ := RelO.some_of (v := v) (o := mA f) (by rw [← l]; exact r f)
  have J : InstAt s1.heap a o D (some oo) := ⟨h1, h2, by unfold notCls; rw [h4], by rw [h3]; exact ho⟩
  obtain ⟨hh, g, d, t, os⟩ := s1
  exact exc_attr I1.kIn J C (PySem.W.findObj_own C.c na rfl (by rw [hl, hu])) (handed_of ru) fun t' => ⟨v, H1, I1.tok _, ru, q⟩
end
end L2
set_option Elab.async false
set_option linter.all false
set_option maxRecDepth 100000
set_option maxHeartbeats 4000000
namespace L2
open PySem PySem.W PySem.Spec PyProof.Rows
/-- room for a call, an exception being handled or not -/
structure RoomH (k : Nat) (A : Around) : Prop where
  dp : A.depth + 3 * k + 5 < recursionLimit
  un : A.units + 16 * k + 200 < cLine
theorem Room.toH {k : Nat} {A : Around} (r : Room k A) : RoomH k A := ⟨r.dp, r.un⟩
theorem RoomH.mark {k : Nat} {A : Around} (r : RoomH k A) (v : Option Value) : RoomH k (A.mark v) := ⟨r.dp, r.un⟩
theorem RoomH.mono {j k : Nat} {A : Around} (r : RoomH k A) (h : j ≤ k) : RoomH j A := ⟨by have := r.dp; omega, by have := r.un; omega⟩
theorem RoomH.deeper {k : Nat} {A : Around} (r : RoomH (k + 1) A) (env : Env) : RoomH k (A.deeper env) :=
  ⟨by have := r.dp; show A.depth + 1 + 3 * k + 5 < _; omega, by have := r.un; show A.units + 3 + 16 * k + 200 < _; omega⟩
/-- the context of a def's body that is called while an exception is handled (not calm) -/
def cxOfH (P : Program) (w : World) (K : PySem.W.Frag) (mg : Str → Option Value) (base : Heap) (N : List Str) (qual : Str) (scope : Scope) (f : Addr) (cd : Value) (A : Around) (outer : List Env) (s : Shared) (H : Hp) (E : XK) : Cx :=
  { cxOf CX0 P w K mg base N qual scope f cd { A with handled := none } outer s H E with A := A.deeper (envOfC qual scope s.heap.objs.size f cd), calm := false, pn := [], xe := fun _ _ => False }
/-- a def's promise where it is called in an except clause's suite; nothing is raised -/
structure FnOkH (P : Program) (w : World) (K : PySem.W.Frag) (mg : Str → Option Value) (base : Heap) (k : Nat) (f : Addr) (fd : FuncData) (ps : List Str) (sp : Sp) : Prop where
  len : ∀ vs H Q E, sp vs H Q E → vs.length = ps.length
  run : ∀ (A : Around) (outer : List Env) (s : Shared) (H : Hp) (args : Args) (us : List Value) (vs : List V) (Q : VK) (E : XK), RoomH k A → Env0 P w K mg base A outer s H → BindsTo s fd args (ps.zip us) → Vals vs us → sp vs H Q E →
    codeAny (model P w) A (.call (.ref f) args) (CR CX0 outer P w H s Q E) s
section
variable {P : Program} {w : World} {K : PySem.W.Frag} {mg : Str → Option Value} {base : Heap}
theorem Fun.okH {x qual : Str} {st : Stmt} {f : Addr} {fd : FuncData} {N ps : List Str} {k : Nat} {sp : Sp} (F : Fun K x qual st f fd) (S : FnScope N ps (defScope st)) (len : ∀ vs H Q E, sp vs H Q E → vs.length = ps.length)
    (hbody : ∀ (cdv : Value) (A : Around) (outer : List Env) (s : Shared) (H : Hp) (vs : List V) (Q : VK) (E : XK), RoomH k (A.deeper (envOfC qual (defScope st) s.heap.objs.size f cdv)) → sp vs H Q E →
      ∃ t, PSs (cxOfH P w K mg base N qual (defScope st) f cdv A outer s H E) (defBody st) t ∧ t { nx := fun _ H' => Q .non H', rt := Q } (start N vs) H) : FnOkH P w K mg base (k + 1) f fd ps sp := by
  obtain ⟨oc, od, kV, doc, pm, an, cdv, ct, osl, rfl, lk, hcd⟩ := F.ex
  refine ⟨len, fun A outer s H args us vs Q E hr e0 hb r hsp => ?_⟩
  have hl := len _ _ _ _ hsp
  have KX : K.In s.heap := e0.mod.kin.keeps fun b o e => (e0.bs b o e).1
  have lim : s.heap.NoLimit := e0.mod.nolimit.keeps fun b o e => (e0.bs b o e).1
  have hkind : ∀ y ∈ ps.zip us, (defScope st).names.lookup y.1 = some .local ∨ ((defScope st).names.lookup y.1 = some .cell ∧ ((cellsFrom (s.heap.objs.size + 1) (defScope st).names []).lookup y.1).isSome = true) := fun ⟨n, v⟩ hy => by
    rcases S.par n (List.of_mem_zip hy).1 with q | q
    · exact .inl q
    · exact .inr ⟨q, PySem.W.cellsFrom_some _ _ _ (.inl q)⟩
  refine codeAny_call_function (by have := hr.dp; omega) (KX _ _ lk) rfl S.co S.gen rfl (PySem.W.codeRec_of KX hcd) (hb _ _ _ _ ?_)
  refine wpAny_newFunctionEnv_cells S.kind hkind fun env he s1 x => ?_
  subst he
  refine ⟨lim.keeps x.toInCall.keep, codeAny_func ?_⟩
  obtain ⟨t, ht, hq⟩ := hbody cdv A outer s H vs Q E (hr.deeper _) hsp
  have e1 : Env0 P w K mg base { A with handled := none } outer s H := ⟨e0.frames, e0.mod, e0.bs, e0.bsz, e0.funs, e0.frf, e0.hok, e0.bare⟩
  have I0 : Inv (cxOf CX0 P w K mg base N qual (defScope st) f cdv { A with handled := none } outer s H E) [] (start N vs) H s1 := inv_start S rfl e1 hl r x
  have I : Inv (cxOfH P w K mg base N qual (defScope st) f cdv A outer s H E) [] (start N vs) H s1 := I0.re rfl (fun z => nomatch z) fun p hp => hp
  refine wpAny_mono (ht s1 (start N vs) H _ I hq) (fun fl s' hs => ?_) fun e s' hs => hs.elim
  have fin : ∀ {σ' : St} {H' : Hp} {v : V} {u : Value}, Inv (cxOfH P w K mg base N qual (defScope st) f cdv A outer s H E) [] σ' H' s' → RelV v u → Q v H' → CE outer P w H s Q u s' :=
    fun {σ' H' v u} J rv q => ⟨v, H', J.os, J.bare, J.base, J.hok, rv, q⟩
  cases fl with
  | next => obtain ⟨σ', H', J, q⟩ := hs; exact fin J (v := .non) (u := Value.none) rfl q
  | ret u => obtain ⟨v, σ', H', J, rv, q⟩ := hs; exact fin J rv q
  | brk => obtain ⟨_, _, _, q⟩ := hs; exact q.elim
  | cont => obtain ⟨_, _, _, q⟩ := hs; exact q.elim
end
section
variable {X : Cx} {k : Nat} {f : Addr} {fd : FuncData} {ps : List Str} {sp : Sp} {x : Str} {p pos : Pos} {e : Expr} {es : List Expr} {t : TA}
theorem pe_callH (F : FnOkH X.prog X.w X.K X.mg X.base k f fd ps sp) (hr : RoomH k X.A) (hg : Gl X x) (hm : X.mg x = some (.ref f)) (hk : PySem.W.keepIn X.K (.ref f) = true) (hb : Binds X.K fd ps [])
    (ha : PA X (e :: es) t) (hdb : (x == ("__debug__" : Str)) = false := by decide) (he : starEach (e :: es) X.env = (false, eval e X.env) :: starEach es X.env := by rfl) (hpl : (backTo pos (starEach es X.env)).any (·.1) = false := by rfl) :
    PE X (.Call (.Name x p) (e :: es) [] pos) (tCall sp [] E0 t) := by
  intro pins s σ H Q I h
  refine wpAny_Call_Name_kw (ld_glob I hg hm ?_ hdb)
  refine PySem.W.callWith_K (h₀ := X.base) I.ok.mod.kin hk (thn (ha pos s σ H _ I h) fun us s1 ⟨vs, H1, I1, r, q⟩ => ⟨I1.kIn, ?_⟩) he hpl
  have r2 : Vals (vs ++ []) (us ++ []) := r.append .nil
  have hl : (us ++ []).length = ps.length := by rw [← r2.length]; exact F.len _ _ _ _ q
  refine wpAny_call (codeAny_mono (F.run X.A X.stack s1 H1 ⟨us, []⟩ (us ++ []) (vs ++ []) Q E0 hr I1.env0 (hb s1 us I1.kIn hl) r2 q) fun r s' hq => ?_)
  cases r with
  | error e => exact False.elim hq
  | ok fl =>
    cases fl with
    | ret u => exact I1.after hq
    | next => exact False.elim hq
    | brk => exact False.elim hq
    | cont => exact False.elim hq
end
end L2
set_option Elab.async false
set_option linter.all false
set_option maxRecDepth 100000
set_option maxHeartbeats 4000000
namespace My
open PySem L2 TL PySem.NumText
theorem figC_iff {c : Nat} : figC c = true ↔ 48 ≤ c ∧ c ≤ 57 := by
  have e : figS.cps.toList = [48, 49, 50, 51, 52, 53, 54, 55, 56, 57] := by decide +kernel
  unfold figC
  rw [e, decide_eq_true_iff]
  simp only [List.mem_cons, List.mem_nil_iff, or_false]
  omega
theorem figs_iff {cs : List Nat} : cs.all figC = true ↔ AllDigits cs := by
  rw [List.all_eq_true]
  exact ⟨fun h c hc => figC_iff.mp (h c hc), fun h c hc => figC_iff.mpr (h c hc)⟩
/-- the number that is written so, if one is -/
def numO (z : Str) : Option Int :=
  if 1 ≤ z.length ∧ z.length ≤ 9 ∧ z.cps.toList.all figC = true ∧ (z.cps.toList.head? = some 48 → z = "0") then some ((digitsVal z.cps.toList : Nat) : Int) else none
theorem val_lt : ∀ (n : Nat) (cs : List Nat), cs.length = n → AllDigits cs → digitsVal cs < 10 ^ n
  | 0, cs, hl, _ => by
    have e : cs = [] := List.eq_nil_of_length_eq_zero hl
    subst e
    decide
  | n + 1, cs, hl, h => by
    have hne : cs ≠ [] := by intro e; rw [e] at hl; simp at hl
    have e := List.dropLast_concat_getLast hne
    generalize cs.dropLast = ini at e
    generalize cs.getLast hne = c at e
    subst e
    have hc : 48 ≤ c ∧ c ≤ 57 := h c (List.mem_append_right _ (List.mem_singleton.mpr rfl))
    have ih := val_lt n ini (by rw [List.length_append, List.length_singleton] at hl; omega) fun d hd => h d (List.mem_append_left _ hd)
    rw [digitsVal_snoc, Nat.pow_succ]
    omega
theorem num_cs (m : Nat) : (numT (m : Nat)).cps.toList = (Nat.toDigits 10 m).map Char.toNat := PySem.W.KIN.signs_num m
theorem num_dig (m : Nat) : AllDigits (numT (m : Nat)).cps.toList := by
  intro c hc
  rw [num_cs] at hc
  obtain ⟨ch, hch, e⟩ := List.mem_map.mp hc
  have r := PyProof.Rows.digit_range (Nat.isDigit_of_mem_toDigits (by decide) (by decide) hch)
  rw [← e]
  exact r
theorem ofNat_dig {cs : List Nat} (h : AllDigits cs) : (cs.map Char.ofNat).map Char.toNat = cs := by
  rw [List.map_map]
  conv => rhs; rw [← List.map_id cs]
  refine List.map_congr_left fun c hc => ?_
  have hd := h c hc
  have : ∀ c : Nat, c ≤ 57 → (Char.ofNat c).toNat = c := by decide
  exact this c hd.2
/-- a text of figures, no 0 ahead of others, is its number's text -/
theorem num_of {z : Str} (h : AllDigits z.cps.toList) (h1 : z.cps.toList ≠ []) (h0 : z.cps.toList.head? = some 48 → z = "0") : z = numT ((digitsVal z.cps.toList : Nat) : Int) := by
  refine str_ext ?_
  rw [num_cs]
  generalize e : z.cps.toList = cs at *
  cases cs with
  | nil => exact absurd rfl h1
  | cons c r =>
    have hh : r.length = 0 ∨ ∃ c' r', c :: r = c' :: r' ∧ 49 ≤ c' := by
      by_cases hc : c = 48
      · have := h0 (by rw [hc]; rfl)
        rw [this] at e
        have e2 : ("0" : Str).cps.toList = [48] := by decide +kernel
        rw [e2] at e
        injection e with _ e
        rw [← e]
        exact .inl rfl
      · exact .inr ⟨c, r, rfl, by have := h.head; omega⟩
    rw [toDigits_digitsVal r.length (c :: r) rfl h hh, ofNat_dig h]
theorem numO_some {z : Str} {n : Int} (h : numO z = some n) : 0 ≤ n ∧ n < 10 ^ 9 ∧ z = numT n := by
  unfold numO at h
  split at h
  · rename_i hc
    obtain ⟨a, b, c, d⟩ := hc
    have e : ((digitsVal z.cps.toList : Nat) : Int) = n := Option.some.inj h
    have hl : z.cps.toList.length = z.length := Array.length_toList
    have hd := figs_iff.mp c
    have hv := val_lt _ _ rfl hd
    have hv2 : 10 ^ z.cps.toList.length ≤ 10 ^ 9 := Nat.pow_le_pow_right (by decide) (by omega)
    refine ⟨by omega, by omega, ?_⟩
    rw [← e]
    exact num_of hd (fun z2 => by rw [z2] at hl; simp at hl; omega) d
  · cases h
theorem numO_num {n : Int} (h0 : 0 ≤ n) (h1 : n < 10 ^ 9) : numO (numT n) = some n := by
  obtain ⟨m, rfl⟩ := Int.eq_ofNat_of_zero_le h0
  have hd := num_dig m
  have hv : digitsVal (numT (m : Nat)).cps.toList = m := by rw [num_cs]; exact PySem.W.KIN.val_back m
  have hl : (numT (m : Nat)).cps.toList.length = (numT (m : Nat)).length := Array.length_toList
  have l1 : (numT (m : Nat)).length = (Nat.toDigits 10 m).length := by rw [← hl, num_cs, List.length_map]
  have l2 : (Nat.toDigits 10 m).length ≤ 9 := PyProof.Rows.digits10_le (k := 9) (by decide) (by omega)
  have l3 := PyProof.Rows.tDigits_len_ge 10 m
  have hz : (numT (m : Nat)).cps.toList.head? = some 48 → numT (m : Nat) = "0" := by
    intro hh
    have ta := toDigits_all _ hd
    rw [hv] at ta
    cases ew : (numT (m : Nat)).cps.toList.dropWhile (· == 48) with
    | nil =>
      rw [ew] at ta
      have ta : Nat.toDigits 10 m = ['0'] := ta
      refine str_ext ?_
      rw [num_cs, ta]
      decide +kernel
    | cons c r =>
      rw [ew] at ta
      have ta : Nat.toDigits 10 m = (c :: r).map Char.ofNat := ta
      have e2 := congrArg List.length ta
      rw [List.length_map, ← ew] at e2
      cases ec : (numT (m : Nat)).cps.toList with
      | nil => rw [ec] at hh; cases hh
      | cons c0 r0 =>
        rw [ec] at hh e2 hl
        have hc0 : c0 = 48 := Option.some.inj hh
        subst hc0
        rw [List.dropWhile_cons] at e2
        have e2 : (Nat.toDigits 10 m).length = (r0.dropWhile (· == 48)).length := e2
        have := (List.dropWhile_sublist (· == 48) (l := r0)).length_le
        rw [List.length_cons] at hl
        omega
  unfold numO
  rw [if_pos ⟨by omega, by omega, figs_iff.mpr hd, hz⟩, hv]
theorem numO_iff {z : Str} {n : Int} : numO z = some n ↔ 0 ≤ n ∧ n < 10 ^ 9 ∧ z = numT n := ⟨numO_some, fun ⟨a, b, c⟩ => c ▸ numO_num a b⟩
theorem num_inj {n m : Int} (h0 : 0 ≤ n) (h1 : n < 10 ^ 9) (h : numT n = numT m) (g0 : 0 ≤ m) (g1 : m < 10 ^ 9) : n = m := by
  have a := numO_num h0 h1
  rw [h, numO_num g0 g1] at a
  exact (Option.some.inj a).symm
theorem int_of {z : Str} (h : AllDigits z.cps.toList) (h1 : z.cps.toList ≠ []) (h2 : z.length ≤ 9) : intText? z = some ((digitsVal z.cps.toList : Nat) : Int) := intText_digits h h1 (by omega)
theorem log9 {n : Int} (h0 : 0 ≤ n) (h1 : n < 10 ^ 9) : n.natAbs.log2 < 1920 := by
  by_cases e : n.natAbs = 0
  · rw [e]; decide
  · exact (Nat.log2_lt e).mpr (Nat.lt_of_lt_of_le (show n.natAbs < 10 ^ 9 by omega) (by decide))
theorem join_lenN (c : Nat) : ∀ {ws : List Str}, ws ≠ [] → (Str.join ⟨#[c]⟩ ws).length + 1 = (ws.map (·.length)).sum + ws.length
  | [], h => absurd rfl h
  | [a], _ => by
    show a.length + 1 = a.length + 0 + 1
    omega
  | a :: b :: r, _ => by
    have ih := join_lenN c (ws := b :: r) (by simp)
    have e := congrArg List.length (join_cons2 c a b r)
    rw [List.length_append, List.length_cons] at e
    have e : (Str.join ⟨#[c]⟩ (a :: b :: r)).length = a.length + ((Str.join ⟨#[c]⟩ (b :: r)).length + 1) := by
      simp only [Array.length_toList] at e
      exact e
    rw [e, List.map_cons, List.sum_cons, List.length_cons]
    omega
theorem split_neN (z : Str) : Txt.split z spS ≠ [] := fun e => by
  have := PyProof.Rows.split_pos z spS
  rw [e] at this
  exact absurd this (by decide)
/-- the words of a text: how long they are together -/
theorem split_sumN (z : Str) : ((Txt.split z spS).map (·.length)).sum + (Txt.split z spS).length = z.length + 1 := by
  rw [← join_lenN 32 (split_neN z)]
  have : Str.join ⟨#[32]⟩ (Txt.split z spS) = z := StrLaws.join_split z spS
  rw [this]
theorem mem_sumN : ∀ {l : List Str} {x : Str}, x ∈ l → x.length ≤ (l.map (·.length)).sum
  | a :: r, x, h => by
    rw [List.map_cons, List.sum_cons]
    rcases List.mem_cons.mp h with rfl | h
    · omega
    · have := mem_sumN h
      omega
end My
set_option Elab.async false
set_option linter.all false
set_option maxRecDepth 100000
set_option maxHeartbeats 4000000
namespace My
open PySem L2 TL
/-- what number_read tells of a word -/
def numV (z : Str) : V := match numO z with
  | some n => .int n
  | none => .non
def numDt (z : Str) : Dt := match numO z with
  | some n => .int n
  | none => .non
theorem lay_num {k : Addr} {H : Hp} (z : Str) : Lay k H (numV z) (numDt z) := by
  unfold numV numDt
  split
  · exact .int _
  · exact .non
def spNumX (T : Addr) : Sp := fun vs H Q _ => ∃ z : Str, vs = [.str z] ∧ z.length ≤ 10000 ∧ Tab T H ∧ Q (numV z) H
def spMrX (T : Addr) : Sp := fun vs H Q _ => ∃ z : Str, vs = [.str z] ∧ z.length ≤ 9000 ∧ Tab T H ∧ ∀ (v : V) (d : Dt) (H' : Hp), Same H H' → Lay 0 H' v d → Q v H'
theorem head_at {z : Str} (h : 1 ≤ z.length) : ∃ c, atI z.cps.toList 0 = some c ∧ z.cps.toList.head? = some c := by
  cases e : z.cps.toList with
  | nil =>
    have : z.length = z.cps.toList.length := (Array.length_toList).symm
    rw [this, e] at h
    exact absurd h (by decide)
  | cons c r =>
    refine ⟨c, ?_, rfl⟩
    unfold atI ixN
    rw [if_pos (by decide), if_pos (by rw [List.length_cons]; omega)]
    rfl
theorem atNeg {ws : List Str} (j : Nat) (h1 : 1 ≤ j) (h2 : j ≤ ws.length) : ∃ x, ws[ws.length - j]? = some x ∧ atI (ws.map V.str) (-(j : Int)) = some (.str x) := by
  have hl : ws.length - j < ws.length := by omega
  refine ⟨_, List.getElem?_eq_getElem hl, ?_⟩
  unfold atI
  have e : ixN (ws.map V.str).length (-(j : Int)) = some (ws.length - j) := by
    unfold ixN
    rw [if_neg (by omega), List.length_map, if_pos (by omega)]
    congr 1
    omega
  rw [e]
  show (ws.map V.str)[ws.length - j]? = _
  rw [List.getElem?_map, List.getElem?_eq_getElem hl]
  rfl
theorem cutV_str (ws : List Str) (lo hi : Option Int) : cutV (ws.map V.str) lo hi = ((ws.drop (HT.sIx ws.length 0 lo)).take (HT.sIx ws.length ws.length hi - HT.sIx ws.length 0 lo)).map V.str := by
  unfold cutV
  rw [List.length_map, List.map_take, List.map_drop]
theorem lay_strs {k : Addr} {H : Hp} : ∀ {ws : List Str}, (∀ x ∈ ws, x.length ≤ 10000) → LayAll k H (ws.map V.str) (ws.map Dt.str)
  | [], _ => .nil
  | x :: r, h => .cons (.str x (h x List.mem_cons_self)) (lay_strs fun y hy => h y (List.mem_cons_of_mem _ hy))
theorem split_mem {z x : Str} (h : x ∈ Txt.split z spS) : x.length ≤ z.length := by
  have := split_sumN z
  have := mem_sumN h
  have := PyProof.Rows.split_pos z spS
  omega
section
variable {P : Program} {w : World} {K : PySem.W.Frag} {mg : Str → Option Value} {base : Heap}
theorem ok_numX {T : Addr} {f : Addr} {fd : FuncData} (F : Fun K "number_read" "number_read" sNumRead f fd) (C : Cs2 mg) (gk : GenK base mg fd.code T) (B : Bl mg) : FnOk P w K mg base CX0 2 f fd ["word"] (spNumX T) := by
  obtain ⟨_, hF⟩ := C.F
  obtain ⟨_, hMF⟩ := C.MF
  refine F.okC scNum (fun vs H Q E h => ?_) (fun cdv hcv A outer s H vs Q E hr1 h => ?_)
  · obtain ⟨z, rfl, _⟩ := h
    rfl
  · obtain ⟨z, rfl, hz, hP, q⟩ := h
    have hs : z.length ≤ sizeLine := Nat.le_trans hz (by decide)
    have no : (¬ (1 ≤ z.length ∧ z.length ≤ 9 ∧ z.cps.toList.all figC = true ∧ (z.cps.toList.head? = some 48 → z = "0"))) → Q .non H := fun h => by
      unfold numV numO at q
      rw [if_neg h] at q
      exact q
    refine ⟨_, pss_cons (ps_if (pt_not (pt_chain op_le op_le pe_int (pe_callB call_len_str (by rfl) B.len PySem.boot_len (pa_cons (pv 0) pa_nil)) (pe_glob (v := .int 9) (by rfl) hMF ⟨_, rfl⟩))) (pss_one (ps_ret pe_non)) pss_nil) (pss_cons (ps_if (pt_not (pt_val (pe_allG rfl scNum.nd hr1 (by rfl) B.all (by decide +kernel) (hcv ▸ gk) (pi_str (pv 0)) (blkOk_by (own := [("sign", 1)]) (N := NNu) (sc := defScope sNumRead) (by decide +kernel)) ⟨rfl, by decide +kernel, rfl⟩ (fun _ _ _ _ _ _ _ _ => pg_name (i := 1) scNum.nd rfl (Or.inl rfl)) (fun _ _ _ _ _ _ _ _ => pe_cmpR op_in_sign (pv 1) (pe_glob (v := .str figS) (by rfl) hF ⟨_, rfl⟩) (by rfl))))) (pss_one (ps_ret pe_non)) pss_nil) (pss_cons (ps_if (PW.pt (pw_and (pt_cmpR op_eq (pe_ix ix_str (pv 0) pe_int (fun _ _ => rfl)) pe_str (nomark _)) (pw_and1 (pt_cmpR op_ne (pv 0) pe_str (nomark _))))) (pss_one (ps_ret pe_non)) pss_nil) (pss_one (ps_ret (pe_callTy call_int_str (by rfl) B.int (by decide +kernel) (pa_cons (pv 0) pa_nil)))))), ?read⟩
    case read =>
      refine ⟨_, rfl, z, rfl, hs, _, _, rfl, rfl, _, rfl, iteB (fun h1 => ?_) (fun h1 => ?_)⟩
      · have h1 : 1 ≤ z.length := by
          have : (1 : Int) ≤ z.length := of_decide_eq_true h1
          omega
        refine ⟨_, _, rfl, rfl, _, rfl, iteB (fun h2 => no fun ⟨_, b, _⟩ => ?_) (fun h2 => ?_)⟩
        · have : ¬ ((z.length : Int) ≤ 9) := by simpa using h2
          omega
        have h2 : z.length ≤ 9 := by
          have : (z.length : Int) ≤ 9 := by simpa using h2
          omega
        dsimp only [tNext, tSeq, tIfS, tNot, tB]
        refine tq_str (z := z) (fun R hR => ⟨_, rfl, hR⟩) hP figC (fun x => rfl) (fun c Q' qq => ⟨_, rfl, c, figS, rfl, rfl, qq⟩) ?_
        refine ⟨_, rfl, iteB (fun h3 => no fun ⟨_, _, c, _⟩ => by rw [c] at h3; cases h3) (fun h3 => ?_)⟩
        have h3 : z.cps.toList.all figC = true := by simpa using h3
        obtain ⟨c, hat, hhd⟩ := head_at h1
        have dg := figs_iff.mp h3
        have hne : z.cps.toList ≠ [] := fun e => by rw [e] at hhd; cases hhd
        have yes : (z.cps.toList.head? = some 48 → z = "0") → Q (.int ((NumText.digitsVal z.cps.toList : Nat) : Int)) H := fun h4 => by
          unfold numV numO at q
          rw [if_pos ⟨h1, h2, h3, h4⟩] at q
          exact q
        refine ⟨_, rfl, z, 0, c, rfl, rfl, hs, hat, rfl, _, rfl, iteB (fun h4 => ?_) (fun h4 => ?_)⟩
        · have ec : c = 48 := by
            have := of_decide_eq_true h4
            injection this with this
            have := congrArg (fun x : Str => x.cps.toList) this
            have : [c] = [48] := this
            injection this
          refine ⟨_, rfl, rfl, _, rfl, iteB (fun h5 => no fun ⟨_, _, _, d⟩ => ?_) (fun h5 => ?_)⟩
          · have := d (by rw [hhd, ec])
            rw [this] at h5
            exact absurd h5 (by simp)
          · refine ⟨_, rfl, z, _, rfl, int_of dg hne h2, Nat.le_trans h2 (by decide), yes fun _ => ?_⟩
            have h5 : decide (V.str z = V.str "0") = true := by simpa using h5
            have := of_decide_eq_true h5
            injection this
        · refine ⟨_, rfl, z, _, rfl, int_of dg hne h2, Nat.le_trans h2 (by decide), yes fun e => ?_⟩
          rw [hhd] at e
          have ec := Option.some.inj e
          rw [ec] at h4
          exact absurd h4 (by decide)
      · refine ⟨_, rfl, no fun ⟨a, _⟩ => ?_⟩
        have : ¬ ((1 : Int) ≤ z.length) := of_decide_eq_false h1
        omega
theorem ok_mrX {T : Addr} {f : Addr} {fd : FuncData} (F : Fun K "machine_read" "machine_read" sMachRead f fd) (dN : Df K mg "number_read" sNumRead ["word"]) (C : Cs2 mg) (gk : GenK base mg dN.fd.code T) (B : Bl mg) : FnOk P w K mg base CX0 3 f fd ["text"] (spMrX T) := by
  obtain ⟨_, hAH⟩ := C.AH
  obtain ⟨_, hBE⟩ := C.BE
  have GN : FnOk P w K mg base CX0 2 dN.f dN.fd ["word"] (spNumX T) := ok_numX dN.F C gk B
  refine F.ok scMr (fun vs H Q E h => ?_) (fun cdv A outer s H vs Q E hr1 h => ?_)
  · obtain ⟨z, rfl, _⟩ := h
    rfl
  · obtain ⟨z, rfl, hz, hP, q⟩ := h
    refine ⟨_, pss_cons (ps_set (i := 1) scMr.nd rfl (Or.inr rfl) (pe_split (pv 0) pe_str)) (pss_cons (ps_if (pt_cmpR op_le (pe_callB call_len_seq (by rfl) B.len PySem.boot_len (pa_cons (pv 1) pa_nil)) (pe_op op_add (pe_glob (v := .int 3) (by rfl) hAH ⟨_, rfl⟩) (pe_glob (v := .int 8) (by rfl) hBE ⟨_, rfl⟩)) (nomark _)) (pss_one (ps_ret pe_non)) pss_nil) (pss_cons (ps_set (i := 2) scMr.nd rfl (Or.inl rfl) (pe_callTy call_tuple_of (by rfl) B.tup (by decide +kernel) (pa_cons (pe_slice sl_list (pv 1) (po_some (pe_glob (v := .int 3) (by rfl) hAH ⟨_, rfl⟩)) (po_some (pe_un un_neg (pe_glob (v := .int 8) (by rfl) hBE ⟨_, rfl⟩)))) pa_nil))) (pss_cons (ps_asg (pe_lc (own := [("at", 7)]) (g := gName 7) (te := tCall (spNumX T) [] E0 (tCons (tOp (rIxL K) (tVar 1) (tVar 7)) tNil)) (by rfl) scMr.nd (pi_tup (pe_tup (pa_cons (pe_un un_neg pe_int) (pa_cons (pe_un un_neg pe_int) (pa_cons (pe_un un_neg pe_int) (pa_cons (pe_un un_neg pe_int) pa_nil)))))) (blkOk_by (own := [("at", 7)]) (N := NMr) (sc := defScope sMachRead) (by decide +kernel)) (fun _ _ _ _ _ => pg_name (i := 7) scMr.nd rfl (Or.inl rfl)) (fun _ _ _ _ _ => pts_nil) (fun _ _ _ _ _ => pe_call GN hr1 rfl dN.m dN.F.kp dN.b .nil pass0 (pa_cons (pe_ix ix_list (pv 1) (pv 7) (fun _ _ => rfl)) pa_nil))) (pg_lst (by rfl) (pgs_cons (pg_name (i := 3) scMr.nd rfl (Or.inl rfl)) (pgs_cons (pg_name (i := 4) scMr.nd rfl (Or.inl rfl)) (pgs_cons (pg_name (i := 5) scMr.nd rfl (Or.inl rfl)) (pgs_cons (pg_name (i := 6) scMr.nd rfl (Or.inl rfl)) pgs_nil)))))) (pss_one (ps_ret (pe_tup (pa_cons (pe_call GN hr1 rfl dN.m dN.F.kp dN.b .nil pass0 (pa_cons (pe_ix ix_list (pv 1) pe_int (fun _ _ => rfl)) pa_nil)) (pa_cons (pv 2) (pa_cons (pv 3) (pa_cons (pv 4) (pa_cons (pv 5) (pa_cons (pv 6) pa_nil)))))))))))), ?read⟩
    case read =>
      have hzl : z.length + 2 ≤ sizeLine := Nat.le_trans (by omega : z.length + 2 ≤ 9002) (by decide)
      have wb : ∀ x ∈ Txt.split z spS, x.length ≤ 10000 := fun x hx => Nat.le_trans (split_mem hx) (by omega)
      generalize hws : Txt.split z spS = ws at wb
      refine seq_cut (fun σ' H' => ∃ L : Addr, σ' = [some (.str z), some (.ref L), none, none, none, none, none, none] ∧ H' L = some (.lst (ws.map V.str)) ∧ Same H H') (fun nx imp => ?_) ?_
      · exact ⟨_, rfl, ⟨_, rfl⟩, z, spS, rfl, rfl, rfl, hzl, fun L hL => imp _ _ ⟨L, rfl, by rw [upd_same, hws], same_new hL _⟩⟩
      rintro σ H1 ⟨L, rfl, hL, s1⟩
      refine seq_cut (fun σ' H' => σ' = [some (.str z), some (.ref L), none, none, none, none, none, none] ∧ H' = H1 ∧ 12 ≤ ws.length) (fun nx imp => ?_) ?_
      · refine ⟨_, rfl, L, _, rfl, .inl (SqL.of hL), _, _, rfl, rfl, _, _, rfl, rfl, _, rfl, iteB (fun _ => q _ _ _ s1 .non) (fun z => imp _ _ ⟨rfl, rfl, ?_⟩)⟩
        have := of_decide_eq_false z
        rw [List.length_map] at this
        omega
      rintro σ Hx ⟨rfl, ex, h12⟩
      rw [ex]
      clear ex Hx
      refine seq_cut (fun σ' H' => ∃ (R : Addr) (rs : List Str), σ' = [some (.str z), some (.ref L), some (.ref R), none, none, none, none, none] ∧ H' R = some (.tup (rs.map V.str)) ∧ (∀ x ∈ rs, x.length ≤ 10000) ∧ Same H1 H') (fun nx imp => ?_) ?_
      · refine ⟨_, rfl, _, rfl, _, rfl, _, rfl, L, _, rfl, SqL.of hL, fun C1 hC1 => ?_⟩
        rw [cutV_str]
        refine ⟨C1, _, rfl, .inl ⟨SqL.of upd_same, fun R hR => imp _ _ ⟨R, _, rfl, upd_same, fun x hx => wb x (List.mem_of_mem_drop (List.mem_of_mem_take hx)), (same_new hC1 _).trans (same_new hR _)⟩⟩⟩
      rintro σ H2 ⟨R, rs, rfl, hR, rsb, s2⟩
      have s12 := s1.trans s2
      have hL2 := s2 _ _ hL
      have P2 : ∀ {H' : Hp}, Same H2 H' → Tab T H' := fun {H'} sm => let ⟨ps, e⟩ := hP; ⟨ps, sm _ _ (s12 _ _ e)⟩
      obtain ⟨x7, e7, a7⟩ := atNeg (ws := ws) 7 (by decide) (by omega)
      obtain ⟨x5, e5, a5⟩ := atNeg (ws := ws) 5 (by decide) (by omega)
      obtain ⟨x3, e3, a3⟩ := atNeg (ws := ws) 3 (by decide) (by omega)
      obtain ⟨x1, e1, a1⟩ := atNeg (ws := ws) 1 (by decide) (by omega)
      have m7 := wb _ (List.mem_of_getElem? e7)
      have m5 := wb _ (List.mem_of_getElem? e5)
      have m3 := wb _ (List.mem_of_getElem? e3)
      have m1 := wb _ (List.mem_of_getElem? e1)
      refine seq_cut (fun σ' H' => ∃ v7, σ' = [some (.str z), some (.ref L), some (.ref R), some (numV x7), some (numV x5), some (numV x3), some (numV x1), v7] ∧ Same H2 H') (fun nx imp => ?_) ?_
      · refine ⟨_, rfl, _, rfl, _, rfl, _, rfl, (by show 4 ≤ sizeLine; decide), fun t ht => ?_⟩
        have st := same_new ht (.tup [V.int (-7), V.int (-5), V.int (-3), V.int (-1)])
        refine ⟨t, rfl, ⟨_, SqT.of upd_same⟩, fun L4 hL4 => ?_⟩
        refine lc_tup (K := K) (a := t) (xs := [V.int (-7), V.int (-5), V.int (-3), V.int (-1)]) (fun i H3 => H3 L4 = some (.lst (([x7, x5, x3, x1].take i).map numV)) ∧ H3 t = some (.tup [V.int (-7), V.int (-5), V.int (-3), V.int (-1)]) ∧ Same H2 H3) ⟨upd_same, (by rw [upd_ne (ne_of_none upd_same hL4)]; exact upd_same), st.trans (same_new hL4 _)⟩ (fun i H3 _ z => SqT.of z.2.1) (fun i x H3 hx z => ?_) (fun H3 z => ?_)
        · obtain ⟨z1, z2, z3⟩ := z
          have hi : i < 4 := (List.getElem?_eq_some_iff.mp hx).1
          have hLs := SqL.of (K := K) (z3 _ _ hL2)
          have fin : ∀ (n : Str), ([x7, x5, x3, x1] : List Str)[i]? = some n → ∃ acc, H3 L4 = some (.lst acc) ∧ acc.length < sizeLine ∧ (upd H3 L4 (.lst (acc ++ [numV n]))) L4 = some (.lst (([x7, x5, x3, x1].take (i + 1)).map numV)) ∧ (upd H3 L4 (.lst (acc ++ [numV n]))) t = some (.tup [V.int (-7), V.int (-5), V.int (-3), V.int (-1)]) ∧ Same H2 (upd H3 L4 (.lst (acc ++ [numV n]))) := fun n hn => by
            refine ⟨_, z1, ?_, ?_, ?_, ?_⟩
            · rw [List.length_map, List.length_take]
              exact small1000 (by omega)
            · rw [upd_same, List.take_add_one, hn, List.map_append]
              rfl
            · rw [upd_ne (fun y => by rw [y, z1] at z2; cases z2)]
              exact z2
            · intro b u ee
              rw [upd_ne (ne_of_none ee (st.free hL4))]
              exact z3 _ _ ee
          refine ⟨rfl, ?_⟩
          match i, hi, hx, fin with
          | 0, _, hx, fin =>
            cases hx
            exact ⟨_, rfl, _, rfl, L, _, _, _, rfl, rfl, hLs, a7, _, rfl, m7, P2 z3, fin _ rfl⟩
          | 1, _, hx, fin =>
            cases hx
            exact ⟨_, rfl, _, rfl, L, _, _, _, rfl, rfl, hLs, a5, _, rfl, m5, P2 z3, fin _ rfl⟩
          | 2, _, hx, fin =>
            cases hx
            exact ⟨_, rfl, _, rfl, L, _, _, _, rfl, rfl, hLs, a3, _, rfl, m3, P2 z3, fin _ rfl⟩
          | 3, _, hx, fin =>
            cases hx
            exact ⟨_, rfl, _, rfl, L, _, _, _, rfl, rfl, hLs, a1, _, rfl, m1, P2 z3, fin _ rfl⟩
        · obtain ⟨z1, z2, z3⟩ := z
          exact ⟨L4, _, rfl, SqL.of z1, rfl, _, _, rfl, _, _, rfl, _, _, rfl, _, _, rfl, rfl, imp _ _ ⟨_, rfl, z3⟩⟩
      rintro σ H3 ⟨v7, rfl, s3⟩
      obtain ⟨w1, hw1⟩ : ∃ w1, ws[1]? = some w1 := ⟨_, List.getElem?_eq_getElem (l := ws) (i := 1) (by omega)⟩
      have hat : atI (ws.map V.str) 1 = some (.str w1) := at_of (j := 1) rfl (by rw [List.getElem?_map, hw1]; rfl)
      refine ⟨_, rfl, L, _, _, _, rfl, rfl, SqL.of (s3 _ _ hL2), hat, _, rfl, wb _ (List.mem_of_getElem? hw1), P2 s3, _, rfl, _, rfl, _, rfl, _, rfl, _, rfl, (by show 6 ≤ sizeLine; decide), fun p hp => ?_⟩
      have sP := same_new hp (.tup [numV w1, V.ref R, numV x7, numV x5, numV x3, numV x1])
      exact q _ _ _ (s12.trans (s3.trans sP)) (.tup upd_same (.cons (lay_num w1) (.cons (.tup (sP _ _ (s3 _ _ hR)) (lay_strs rsb)) (.cons (lay_num x7) (.cons (lay_num x5) (.cons (lay_num x3) (.cons (lay_num x1) .nil)))))))
end
end My
set_option Elab.async false
set_option linter.all false
set_option maxRecDepth 100000
set_option maxHeartbeats 4000000
namespace My
open PySem L2 TL
/-- NoText, as it stands at the top -/
structure NoTx (P : Program) (K : PySem.W.Frag) (mg : Str → Option Value) where
  C : Addr
  f : Addr
  cc : Addr
  cda : Addr
  qual : Str
  fd : FuncData
  m : mg "NoText" = some (.ref C)
  I : InitC P K C f cc cda qual fd "row"
  T : ∃ a b self p0 p1 p2 p3 p4 p5 p6 p7 p8 p9 q0 q1 q2 q3 j0 j1, InitT fd "row" a b self p0 p1 p2 p3 p4 p5 p6 p7 p8 p9 q0 q1 q2 q3 j0 j1 ∧ a.length + b.length ≤ 100
abbrev row1 (n : Int) : List (Str × V) := [("row", .int n)]
/-- of a text that is no machine's: NoText, row 1 -/
def spBadM (T1 T2 T3 C : Addr) : Sp := fun vs H Q E => ∃ z : Str, vs = [.str z] ∧ z.length ≤ 9000 ∧ Tab T1 H ∧ Tab T2 H ∧ Tab T3 H ∧ (∀ o, OwnOk o → z ≠ lineO o) ∧ ∀ H' dx, Same H H' → H' dx = some (.xd (row1 1)) → E (.ref C) (some dx) H'
theorem betw_int {a b : Int} {d : Dt} (h : betwD a b d = true) : ∃ i, d = .int i ∧ a ≤ i ∧ i ≤ b := by
  cases d with
  | int i =>
    have h : (decide (a ≤ i) && decide (i ≤ b)) = true := h
    rw [Bool.and_eq_true] at h
    exact ⟨i, rfl, of_decide_eq_true h.1, of_decide_eq_true h.2⟩
  | _ => cases h
theorem nd_met : ∀ (xs acc : List Str), acc.Nodup → (xs.foldl insS acc).length = acc.length + xs.length → (acc ++ xs).Nodup
  | [], acc, h, _ => by rw [List.append_nil]; exact h
  | x :: r, acc, h, hl => by
    have le : ∀ (ys acc : List Str), (ys.foldl insS acc).length ≤ acc.length + ys.length := by
      intro ys
      induction ys with
      | nil => intro acc; exact Nat.le_refl _
      | cons y r ih =>
        intro acc
        rw [List.foldl_cons]
        have := ih (insS acc y)
        have e : (insS acc y).length ≤ acc.length + 1 := by
          unfold insS
          split
          · omega
          · rw [List.length_append, List.length_singleton]; omega
        rw [List.length_cons]
        omega
    rw [List.foldl_cons] at hl
    by_cases hx : x ∈ acc
    · have e : insS acc x = acc := by unfold insS; rw [if_pos hx]
      rw [e] at hl
      have := le r acc
      rw [List.length_cons] at hl
      omega
    · have e : insS acc x = acc ++ [x] := by unfold insS; rw [if_neg hx]
      rw [e] at hl
      have ih := nd_met r (acc ++ [x]) (nd_snoc h hx) (by rw [hl, List.length_append, List.length_cons, List.length_singleton]; omega)
      rw [List.append_assoc] at ih
      exact ih
theorem okC_rng {c : Nat} (h : okC c = true) : 97 ≤ c ∧ c ≤ 122 := by
  have e : lettersS.cps.toList = (List.range 26).map (97 + ·) := by decide +kernel
  unfold okC at h
  have h := of_decide_eq_true h
  rw [e] at h
  obtain ⟨i, hi, rfl⟩ := List.mem_map.mp h
  have := List.mem_range.mp hi
  omega
/-- what is_machine says yes to is a machine -/
theorem own_of {d : Dt} {H : Hp} {v : V} (h : machD d = true) (hl : Lay 0 H v d) : ∃ (o : OwnD) (p : Addr), v = .ref p ∧ OwnOk o ∧ Tp H (.ref p) (ownD o) := by
  cases hl with
  | @tup p xs ds e r =>
    match ds, r, h with
    | [b, rg, hd, a, m, c], .cons l1 (.cons l2 (.cons l3 (.cons l4 (.cons l5 (.cons l6 .nil))))), h =>
      have h : (betwD 1 8 b && regsD rg && betwD 1 3 a && betwD 1 3 m && betwD 0 12 hd && betwD 0 (limD b) c) = true := h
      simp only [Bool.and_eq_true] at h
      obtain ⟨⟨⟨⟨⟨h1, h2⟩, h3⟩, h4⟩, h5⟩, h6⟩ := h
      obtain ⟨b, rfl, b1, b2⟩ := betw_int h1
      obtain ⟨a, rfl, a1, a2⟩ := betw_int h3
      obtain ⟨m, rfl, m1, m2⟩ := betw_int h4
      obtain ⟨hd, rfl, d1, d2⟩ := betw_int h5
      obtain ⟨c, rfl, c1, c2⟩ := betw_int h6
      cases l1
      cases l3
      cases l4
      cases l5
      cases l6
      cases l2 with
      | @tup pr xr dr er rr =>
        have h2 : (decide (1 ≤ dr.length) && decide (dr.length ≤ 6) && dr.all nameD && decide ((metS (dr.map txtD)).length = dr.length)) = true := h2
        simp only [Bool.and_eq_true] at h2
        obtain ⟨⟨⟨r1, r2⟩, r3⟩, r4⟩ := h2
        have ex := names_txt rr r3
        have hnd : (dr.map txtD).Nodup := by
          have := nd_met (dr.map txtD) [] List.nodup_nil (by rw [List.length_map]; exact (of_decide_eq_true r4).trans (Nat.zero_add _).symm)
          exact this
        have hall : ∀ x ∈ dr.map txtD, IsName x := fun x hx => by
          obtain ⟨d, hd, rfl⟩ := List.mem_map.mp hx
          have := List.all_eq_true.mp r3 d hd
          cases d with
          | str y =>
            have this : (decide (1 ≤ y.length) && decide (y.length ≤ 8) && y.cps.toList.all okC) = true := this
            simp only [Bool.and_eq_true] at this
            exact IsName.mk (of_decide_eq_true this.1.1) (of_decide_eq_true this.1.2) fun c hc => okC_rng (List.all_eq_true.mp this.2 c hc)
          | _ => cases this
        rw [ex] at er
        have c2 : c ≤ 2 ^ b.toNat := c2
        refine ⟨⟨b, dr.map txtD, hd, a, m, c⟩, p, rfl, ⟨⟨b1, b2⟩, ⟨dr.length, ⟨by rw [List.length_map], hnd, hall⟩, of_decide_eq_true r1, of_decide_eq_true r2⟩, ⟨d1, d2⟩, ⟨a1, a2⟩, ⟨m1, m2⟩, ⟨c1, c2⟩⟩, ?_⟩
        exact .tup e (.cons (.int _) (.cons (.tup er (strs_tp _)) (.cons (.int _) (.cons (.int _) (.cons (.int _) (.cons (.int _) .nil))))))
      | _ => cases h2
  | _ => cases h
section
variable {P : Program} {w : World} {K : PySem.W.Frag} {mg : Str → Option Value} {base : Heap}
theorem ok_badM {T1 T2 T3 : Addr} {f : Addr} {fd : FuncData} (N : NoTx P K mg) (F : Fun K "read_machine" "read_machine" sReadM f fd) (D : DfT K mg) (C : Cs mg) (C2 : Cs2 mg) (gk1 : GenK base mg D.N.fd.code T1) (gk2 : GenK base mg D.R.fd.code T2) (gk3 : GenK base mg D.nr.fd.code T3) (B : Bl mg) : FnOk P w K mg base (CXE P w) 6 f fd ["text"] (spBadM T1 T2 T3 N.C) := by
  have GR : FnOk P w K mg base CX0 5 D.mr.f D.mr.fd ["text"] (spMrX T3) := (ok_mrX D.mr.F D.nr C2 gk3 B).mono (by decide)
  have GI : FnOk P w K mg base CX0 5 D.im.f D.im.fd ["thing"] (spIsMachine T1 T2) := ok_isMachine D.im.F D.toDfM C gk1 gk2 B
  have GS : FnOk P w K mg base CX0 5 D.sh.f D.sh.fd ["machine"] spShow := (ok_show D.sh.F B).mono (by decide)
  obtain ⟨a, b, self, p0, p1, p2, p3, p4, p5, p6, p7, p8, p9, q0, q1, q2, q3, j0, j1, IT, hab⟩ := N.T
  refine F.okE scRead (fun vs H Q E h => ?_) (fun cdv A outer s H vs Q E hr1 h => ?_)
  · obtain ⟨o, rfl, _⟩ := h
    rfl
  · obtain ⟨z, rfl, hz, h1, h2, h3, hno, q⟩ := h
    refine ⟨_, pss_cons (ps_set (i := 1) scRead.nd rfl (Or.inl rfl) (pe_call GR hr1 rfl D.mr.m D.mr.F.kp D.mr.b .nil pass0 (pa_cons (pv 0) pa_nil))) (pss_cons (ps_if (PW.pt (pw_or (pt_not (pt_val (pe_call GI hr1 rfl D.im.m D.im.F.kp D.im.b .nil pass0 (pa_cons (pv 1) pa_nil)))) (pw_or1 (pt_cmpR op_ne (pe_call GS hr1 rfl D.sh.m D.sh.F.kp D.sh.b .nil pass0 (pa_cons (pv 1) pa_nil)) (pv 0) (nomark _))))) (pss_one (ps_raiseA (E := E) N.I IT rfl hr1 rfl N.m pe_int rfl xe_madeA)) pss_nil) pss_never), ?read⟩
    case read =>
      have fin : ∀ {H1 : Hp}, Same H H1 → ∃ n : Int, V.int 1 = .int n ∧ n.natAbs.log2 < 1920 ∧ a.length + (toString n : Str).length + b.length ≤ sizeLine ∧ ∀ dx, H1 dx = none → E (.ref N.C) (some dx) (upd H1 dx (.xd [("row", .int n)])) := fun {H1} sm =>
        ⟨1, rfl, by decide, by
          have : (toString (1 : Int) : Str).length = 1 := by decide +kernel
          rw [this]
          exact Nat.le_trans (by omega : a.length + 1 + b.length ≤ 101) (by decide), fun dx hd => q _ dx (sm.trans (same_new hd _)) upd_same⟩
      refine seq_cut (fun σ' H' => ∃ (v : V) (d : Dt), σ' = [some (.str z), some v] ∧ Lay 0 H' v d ∧ Same H H') (fun nx imp => ?_) ?_
      · exact ⟨_, rfl, z, rfl, hz, h3, fun v d H' s l => imp _ _ ⟨v, d, rfl, l, s⟩⟩
      rintro σ H1 ⟨v, d, rfl, l, s1⟩
      have tb : ∀ {U : Addr}, Tab U H → Tab U H1 := fun {U} h => let ⟨ps, e⟩ := h; ⟨ps, s1 _ _ e⟩
      refine ⟨_, rfl, v, 0, d, rfl, l, tb h1, tb h2, fun H2 s2 => ?_⟩
      cases hd : machD d with
      | false => exact ⟨_, rfl, iteT (fin (s1.trans s2))⟩
      | true =>
        obtain ⟨o, p, rfl, hO, hT⟩ := own_of hd l
        refine ⟨_, rfl, iteF ⟨_, rfl, p, o, rfl, hT.keep (KeepT.of s2), hO, _, rfl, rfl, _, rfl, ?_⟩⟩
        have : decide (V.str (lineO o) = V.str z) = false := decide_eq_false fun e => hno o hO (by injection e with e; exact e.symm)
        rw [this]
        exact iteT (fin (s1.trans s2))
end
end My
set_option Elab.async false
set_option linter.all false
set_option maxRecDepth 100000
set_option maxHeartbeats 4000000
namespace My
open PySem L2 TL
abbrev sWordOf : Stmt := top 44
abbrev sToldL : Stmt := top 47
/-- the classes of errors, at the top -/
structure ErrT (P : Program) (K : PySem.W.Frag) (mg : Str → Option Value) extends NoTx P K mg where
  loft : Addr
  c1 : Addr
  c2 : Addr
  c3 : Addr
  c4 : Addr
  c5 : Addr
  c6 : Addr
  c7 : Addr
  mloft : mg "LoftError" = some (.ref loft)
  m1 : mg "NoCells" = some (.ref c1)
  m2 : mg "NoLoft" = some (.ref c2)
  m3 : mg "NoName" = some (.ref c3)
  m4 : mg "NoRoom" = some (.ref c4)
  m5 : mg "NoRow" = some (.ref c5)
  m6 : mg "NotStill" = some (.ref c6)
  m7 : mg "TooMany" = some (.ref c7)
  e : PySem.W.exmOne K (.ref C) (.ref loft) = some true
  c : ExcC K C
  k : PySem.W.kitAny K (.ref C) [.ref c1, .ref c2, .ref c3, .ref c4, .ref c5, .ref c6, .ref c7] = some false
  v : PySem.W.kitOne K (.ref C) (.type "ValueError") = some true
  vb : mg "ValueError" = none
def spWof (C : Addr) : Sp := fun vs H Q _ => ∃ (x dx : Addr) (n : Int), vs = [.ref x] ∧ H x = some (ExcO x (.ref C) (some dx)) ∧ H dx = some (.xd (row1 n)) ∧ 0 ≤ n ∧ n < 10 ^ 9 ∧ ∀ H', Same H H' → Q (.str ("NoText" ++ numT n)) H'
abbrev NWo : List Str := ["caught"]
abbrev NTo : List Str := ["line", "found", "e"]
def spTold (T1 T2 T3 : Addr) : Sp := fun vs H Q _ => ∃ z : Str, vs = [.str z] ∧ z.length ≤ 9000 ∧ Tab T1 H ∧ Tab T2 H ∧ Tab T3 H ∧ (∀ o, OwnOk o → z = lineO o → ∀ (p : Addr) H', Same H H' → Tp H' (.ref p) (ownD o) → Q (.ref p) H') ∧ ((∀ o, OwnOk o → z ≠ lineO o) → ∀ H', Same H H' → Q (.str "NoText1") H')
section
variable {P : Program} {w : World} {K : PySem.W.Frag} {mg : Str → Option Value} {base : Heap}
theorem scWo : FnScope NWo ["caught"] (defScope sWordOf) := ⟨rfl, rfl, rfl, by decide +kernel, rfl, by decide +kernel, by decide +kernel⟩
theorem scTo : FnScope NTo ["line"] (defScope sToldL) := ⟨rfl, rfl, rfl, by decide +kernel, rfl, by decide +kernel, by decide +kernel⟩
theorem kit_self {K : PySem.W.Frag} {C : Addr} : PySem.W.kitOne K (.ref C) (.ref C) = some true := by
  unfold PySem.W.kitOne
  rw [if_pos (by simp)]
theorem ok_wo {f : Addr} {fd : FuncData} (R : ErrT P K mg) (F : Fun K "_law_word_of" "_law_word_of" sWordOf f fd) (B : Bl mg) : FnOkH P w K mg base 1 f fd ["caught"] (spWof R.C) := by
  refine F.okH scWo (fun vs H Q E h => ?_) (fun cdv A outer s H vs Q E hr1 h => ?_)
  · obtain ⟨x, dx, n, rfl, _⟩ := h
    rfl
  · obtain ⟨x, dx, n, rfl, hx, hd, h0, h9, q⟩ := h
    refine ⟨_, pss_cons (ps_if (PW.pt (pw_or (pt_not (pt_val (pe_callB call_isiE (by rfl) B.isi (by decide +kernel) (pa_cons (pv 0) (pa_cons (pe_glob (v := .ref R.C) rfl R.m rfl) pa_nil)))))
        (pw_or (pt_not (pt_val (pe_callB call_isiE (by rfl) B.isi (by decide +kernel) (pa_cons (pv 0) (pa_cons (pe_bltn (v := .ty "ValueError") (by rfl) R.vb (by decide +kernel) rfl) pa_nil)))))
        (pw_or1 (pt_val (pe_callB call_isBool (by rfl) B.isi (by decide +kernel) (pa_cons (pe_excA (pv 0) rfl) (pa_cons (pe_bltn (v := .ty "bool") (by rfl) B.bool (by decide +kernel) rfl) pa_nil)))))))) (pss_one (ps_ret pe_str)) pss_nil)
      (pss_cons (ps_if (pt_val (pe_callB call_isiET (by rfl) B.isi (by decide +kernel) (pa_cons (pv 0) (pa_cons (pe_tup (pa_cons (pe_glob (v := .ref R.c1) rfl R.m1 rfl) (pa_cons (pe_glob (v := .ref R.c2) rfl R.m2 rfl) (pa_cons (pe_glob (v := .ref R.c3) rfl R.m3 rfl) (pa_cons (pe_glob (v := .ref R.c4) rfl R.m4 rfl) (pa_cons (pe_glob (v := .ref R.c5) rfl R.m5 rfl) (pa_cons (pe_glob (v := .ref R.c6) rfl R.m6 rfl) (pa_cons (pe_glob (v := .ref R.c7) rfl R.m7 rfl) pa_nil)))))))) pa_nil)))) (pss_one (ps_ret pe_str)) pss_nil)
      (pss_one (ps_ret (pe_op op_add_str pe_str (pe_callTy call_strV (by rfl) B.str (by decide +kernel) (pa_cons (pe_excA (pv 0) rfl) pa_nil)))))), ?read⟩
    case read =>
      refine ⟨_, rfl, x, R.C, some dx, _, _, true, rfl, hx, .some hd, R.c, fun u r => r, kit_self, _, rfl, iteF ?_⟩
      refine ⟨_, rfl, x, R.C, some dx, _, _, true, rfl, hx, .some hd, R.c, fun u r => r, R.v, _, rfl, iteF ?_⟩
      refine ⟨_, rfl, x, R.C, dx, _, _, rfl, hx, hd, R.c, R.I.set.na, rfl, .int n, 0, .int n, rfl, .int n, _, rfl, iteF ?_⟩
      refine ⟨_, rfl, (by show 7 ≤ sizeLine; decide), fun c hc => ?_⟩
      have sc := same_new hc (.tup [V.ref R.c1, V.ref R.c2, V.ref R.c3, V.ref R.c4, V.ref R.c5, V.ref R.c6, V.ref R.c7])
      refine ⟨x, R.C, some dx, c, [R.c1, R.c2, R.c3, R.c4, R.c5, R.c6, R.c7], false, rfl, sc _ _ hx, .some (sc _ _ hd), R.c, SqT.of upd_same, R.k, _, rfl, iteF ?_⟩
      have hl := numO_num h0 h9
      have hl9 : (numT n).length ≤ 9 := by
        unfold numO at hl
        split at hl
        · rename_i hc
          exact hc.2.1
        · cases hl
      refine ⟨_, rfl, x, R.C, dx, _, _, rfl, sc _ _ hx, sc _ _ hd, R.c, R.I.set.na, rfl, .int n, numT n, rfl, ⟨log9 h0 h9, rfl⟩, _, _, rfl, rfl, ?_, q _ sc⟩
      have : ("NoText" : Str).length = 6 := by decide +kernel
      rw [this]
      exact Nat.le_trans (by omega : 6 + (numT n).length ≤ 15) (by decide)
theorem ok_to {T1 T2 T3 : Addr} {f : Addr} {fd : FuncData} (R : ErrT P K mg) (F : Fun K "_law_told" "_law_told" sToldL f fd) (dW : Df K mg "_law_word_of" sWordOf ["caught"]) (dR : Df K mg "read_machine" sReadM ["text"]) (D : DfT K mg) (C : Cs mg) (C2 : Cs2 mg) (gk1 : GenK base mg D.N.fd.code T1) (gk2 : GenK base mg D.R.fd.code T2) (gk3 : GenK base mg D.nr.fd.code T3) (B : Bl mg) : FnOk P w K mg base CX0 7 f fd ["line"] (spTold T1 T2 T3) := by
  have GP : FnOk P w K mg base (CXE P w) 6 dR.f dR.fd ["text"] (fun vs H Q E => spRead T1 T2 T3 vs H Q E ∨ spBadM T1 T2 T3 R.C vs H Q E) := (ok_read dR.F D C C2 gk1 gk2 gk3 B).lift.or (ok_badM R.toNoTx dR.F D C C2 gk1 gk2 gk3 B)
  have GW : FnOkH P w K mg base 1 dW.f dW.fd ["caught"] (spWof R.C) := ok_wo R dW.F B
  refine F.ok scTo (fun vs H Q E h => ?_) (fun cdv A outer s H vs Q E hr1 h => ?_)
  · obtain ⟨z, rfl, _⟩ := h
    rfl
  · obtain ⟨z, rfl, hz, h1, h2, h3, q1, q2⟩ := h
    refine ⟨_, pss_cons (ps_set (i := 1) scTo.nd rfl (Or.inl rfl) pe_non)
      (pss_cons (ps_try (i := 2) (T := fun σ cls od H1 => σ = [some (.str z), some .non, none] ∧ cls = .ref R.C ∧ (∀ o, OwnOk o → z ≠ lineO o) ∧ Same H H1 ∧ ∃ dx, od = some dx ∧ H1 dx = some (.xd (row1 1))) rfl rfl rfl rfl R.mloft scTo.nd rfl rfl
        (fun pn xe rch => pss_one (ps_set (i := 1) scTo.nd rfl (Or.inl rfl) (pe_callX GP hr1 rfl dR.m dR.F.kp dR.b .nil rch (pa_cons (pv 0) pa_nil))))
        (fun x => pss_one (ps_set (i := 1) scTo.nd rfl (Or.inl rfl) (pe_callH GW ((hr1.toH.mono (by decide)).mark _) rfl dW.m dW.F.kp dW.b (pa_cons (pv 2) pa_nil)))))
      (pss_one (ps_ret (pv 1)))), ?read⟩
    case read =>
      refine seq_cut (fun σ' H' => σ' = [some (.str z), some .non, none] ∧ H' = H) (fun nx imp => imp _ _ ⟨rfl, rfl⟩) ?_
      rintro σ H0 ⟨rfl, eH⟩
      subst eH
      refine seq_cut (fun σ' H' => ∃ v, σ' = [some (.str z), some v, none] ∧ Q v H') (fun nx imp => ?_) ?_
      · refine ⟨?_, ?_⟩
        · by_cases hv : ∃ o, OwnOk o ∧ z = lineO o
          · obtain ⟨o, hO, rfl⟩ := hv
            exact ⟨_, rfl, .inl ⟨o, rfl, hO, h1, h2, h3, fun p H' s t => imp _ _ ⟨_, rfl, q1 o hO rfl p H' s t⟩⟩⟩
          · have hno : ∀ o, OwnOk o → z ≠ lineO o := fun o hO e => hv ⟨o, hO, e⟩
            exact ⟨_, rfl, .inr ⟨z, rfl, hz, h1, h2, h3, hno, fun H' dx s hd => ⟨rfl, rfl, hno, s, dx, rfl, hd⟩⟩⟩
        · rintro σ1 cls od H1 ⟨rfl, rfl, hno, s, dx, rfl, hd⟩
          refine ⟨R.e, fun x hx => ?_⟩
          have sx := same_new hx (ExcO x (.ref R.C) (some dx))
          refine ⟨_, rfl, x, dx, 1, rfl, upd_same, sx _ _ hd, by decide, by decide, fun H' s' => imp _ _ ⟨_, rfl, ?_⟩⟩
          exact q2 hno H' (s.trans (sx.trans s'))
      rintro σ H1 ⟨v, rfl, qq⟩
      exact ⟨_, rfl, qq⟩
end
end My
set_option Elab.async false
set_option linter.all false
set_option maxRecDepth 100000
set_option maxHeartbeats 4000000
namespace L2
open PySem PySem.Spec PyProof.Rows PySem.W
/-- what K tells of all but empty tables, K' tells too -/
def MoreK (K K' : Frag) : Prop := ∀ a o, K.lookup a = some o → o.data ≠ .fields #[] → K'.lookup a = some o
section
variable {K K' : Frag} (M : MoreK K K')
include M
theorem MoreK.ns {N : Addr} {x : Str} {r : Option Value} (e : nsIn K N x = some r) : nsIn K' N x = some r := by
  unfold nsIn at e ⊢
  split at e
  · rename_i ho
    rw [M _ _ ho (fun z => nomatch z)]
    exact e
  · cases e
theorem MoreK.own {x : Str} {v : Value} {r : Option Value} (e : ownIn K x v = some r) : ownIn K' x v = some r := by
  unfold ownIn at e ⊢
  split at e
  · exact e
  · split at e
    · rename_i ho
      try dsimp only
      rw [M _ _ ho (fun z => nomatch z)]
      exact M.ns e
    · cases e
  · exact e
theorem MoreK.along {x : Str} : ∀ {l : List Value} {r : Option Value}, alongIn K x l = some r → alongIn K' x l = some r
  | [], _, e => e
  | c :: l, _, e => by
    unfold alongIn at e ⊢
    split at e
    · rename_i h1; rw [M.own h1]; exact e
    · rename_i h1; rw [M.own h1]; exact MoreK.along e
    · cases e
theorem MoreK.find {t : Value} {x : Str} {r : Option Value} (e : findIn K t x = some r) : findIn K' t x = some r := by
  unfold findIn at e ⊢
  split at e
  · exact e
  · split at e
    · rename_i ho
      try dsimp only
      rw [M _ _ ho (fun z => nomatch z)]
      exact M.along e
    · cases e
  · exact e
theorem MoreK.cls {C : Addr} {cd : ClassData} (e : clsIn K C = some cd) : clsIn K' C = some cd := by
  unfold clsIn at e ⊢
  split at e
  · rename_i ho
    rw [M _ _ ho (fun z => nomatch z)]
    exact e
  · cases e
theorem MoreK.mro {C : Addr} {b : Value} {r : Bool} (e : mroIn K C b = some r) : mroIn K' C b = some r := by
  unfold mroIn at e ⊢
  obtain ⟨cd, a, q⟩ := Option.bind_eq_some_iff.mp e
  exact Option.bind_eq_some_iff.mpr ⟨cd, M.cls a, q⟩
theorem MoreK.hasDict {C : Addr} (e : hasDictIn K C = true) : hasDictIn K' C = true := by
  unfold hasDictIn at e ⊢
  obtain ⟨cd, a, q⟩ := any_some e
  rw [M.cls a]
  exact q
theorem MoreK.sub {t b : Value} {r : Bool} (e : subIn K t b = some r) : subIn K' t b = some r := by
  unfold subIn at e ⊢
  split at e
  · exact e
  · exact M.mro e
  · cases e
theorem MoreK.typ {C : Addr} {cd : ClassData} {t : Value} (q : clsIn K C = some cd) (e : typeIn K (.ref C) = some t) : typeIn K' (.ref C) = some t := by
  unfold clsIn at q
  split at q
  · rename_i ho
    have e : (K.lookup C).map (·.cls) = some t := e
    rw [ho] at e
    show (K'.lookup C).map (·.cls) = some t
    rw [M _ _ ho (fun z => nomatch z)]
    exact e
  · cases q
theorem MoreK.kcls {t c : Value} {r : Bool} (e : kitCls K t c = some r) : kitCls K' t c = some r := by
  unfold kitCls at e ⊢
  split at e
  · split at e
    · rename_i h
      simp only [Bool.and_eq_true, beq_iff_eq] at h
      obtain ⟨cd, hc⟩ := Option.isSome_iff_exists.mp h.1
      try dsimp only
      rw [if_pos (by simp only [Bool.and_eq_true, beq_iff_eq]; exact ⟨by rw [M.cls hc]; rfl, M.typ hc h.2⟩)]
      exact M.sub e
    · cases e
  · split at e
    · rename_i h
      try dsimp only
      rw [if_pos h]
      exact M.sub e
    · cases e
  · cases e
theorem MoreK.one {t c : Value} {r : Bool} (e : kitOne K t c = some r) : kitOne K' t c = some r := by
  unfold kitOne at e ⊢
  split at e
  · rename_i h; rw [if_pos h]; exact e
  · rename_i h; rw [if_neg h]; exact M.kcls e
theorem MoreK.any {t : Value} : ∀ {l : List Value} {r : Bool}, kitAny K t l = some r → kitAny K' t l = some r
  | [], _, e => e
  | c :: l, _, e => by
    unfold kitAny at e ⊢
    split at e
    · rename_i h1; rw [M.one h1]; exact e
    · rename_i h1; rw [M.one h1]; exact MoreK.any e
    · cases e
theorem MoreK.exm {t c : Value} {r : Bool} (e : exmOne K t c = some r) : exmOne K' t c = some r := by
  unfold exmOne at e ⊢
  split at e
  · rename_i h
    rw [if_pos (by rw [beq_iff_eq] at h ⊢; exact M.sub h)]
    exact M.kcls e
  · cases e
theorem MoreK.kp {f : Value} (e : keepIn K f = true) : keepIn K' f = true := by
  unfold keepIn at e ⊢
  split at e
  · split at e
    · rename_i ho; (try dsimp only); rw [M _ _ ho (fun z => nomatch z)]
    · rename_i a _ _ cd _ ho
      try dsimp only
      rw [M _ _ ho (fun z => nomatch z)]
      dsimp only
      rw [beq_iff_eq] at e ⊢
      unfold specialIn at e ⊢
      obtain ⟨t, a1, q⟩ := Option.bind_eq_some_iff.mp e
      exact Option.bind_eq_some_iff.mpr ⟨t, M.typ (cd := cd) (by unfold clsIn; rw [ho]) a1, M.find q⟩
    · cases e
  · cases e
theorem MoreK.nsOk {N : Addr} (e : nsOkIn K N = true) : nsOkIn K' N = true := by
  unfold nsOkIn at e ⊢
  split at e
  · rename_i ho
    rw [M _ _ ho (fun z => nomatch z)]
    exact e
  · cases e
theorem MoreK.tail {bm : List Value} : ∀ {l : List Value}, tailIn K bm l = true → tailIn K' bm l = true
  | [], e => e
  | v :: r, e => by
    unfold tailIn at e ⊢
    rw [Bool.or_eq_true] at e ⊢
    rcases e with q | q
    · exact .inl q
    · refine .inr ?_
      split at q
      · split at q
        · rename_i ho
          simp only [Bool.and_eq_true, beq_iff_eq] at q
          try dsimp only
          rw [M _ _ ho (fun z => nomatch z)]
          simp only [Bool.and_eq_true, beq_iff_eq]
          exact ⟨⟨M.nsOk q.1.1, M.ns q.1.2⟩, MoreK.tail q.2⟩
        · cases q
      · cases q
theorem MoreK.excA {C : Addr} {bm : List Value} {n : String} (e : excInA K C bm n = true) : excInA K' C bm n = true := by
  unfold excInA at e ⊢
  split at e
  · rename_i ho
    rw [M _ _ ho (fun z => nomatch z)]
    split at e
    · rename_i h1 h2
      simp only [h1, h2, Bool.and_eq_true] at e ⊢
      exact ⟨e.1, M.tail e.2⟩
    · cases e
  · cases e
theorem MoreK.sup {C D : Addr} {x : Str} {r : Option Value} (e : ks_superIn K C D x = some r) : ks_superIn K' C D x = some r := by
  unfold ks_superIn at e ⊢
  obtain ⟨cd, a, q⟩ := Option.bind_eq_some_iff.mp e
  exact Option.bind_eq_some_iff.mpr ⟨cd, M.cls a, M.along q⟩
theorem MoreK.code {cd : Value} {q : Str} (e : codeIn K cd q = true) : codeIn K' cd q = true := by
  unfold codeIn at e ⊢
  split at e
  · split at e
    · rename_i vs _ ho
      try dsimp only
      rw [M _ _ ho (fun z => by
        have z : Data.fields vs = Data.fields #[] := z
        cases z
        cases e)]
      exact e
    · cases e
  · cases e
theorem MoreK.excC {D : Addr} (c : ExcC K D) : ExcC K' D := ⟨M.find c.g, M.find c.h, M.hasDict c.c, M.find c.a, M.mro c.m, M.mro c.b⟩
theorem MoreK.setC {C : Addr} {x : Str} (c : SetC K C x) : SetC K' C x := ⟨M.find c.sa, M.find c.na, M.mro c.ob⟩
theorem MoreK.initC {P : Program} {C f cc cda : Addr} {q : Str} {fd : FuncData} {x : Str} (I : InitC P K C f cc cda q fd x) : InitC P K' C f cc cda q fd x := by
  obtain ⟨oc, od, osl, lk, hoc⟩ := I.lk
  obtain ⟨ccl, cdd, vs, ccs, file, tf, h1, h2, h3⟩ := I.file
  obtain ⟨cl, cld, csl, hc⟩ := I.cell
  exact ⟨⟨oc, od, osl, M _ _ lk (fun z => nomatch z), hoc⟩, ⟨I.code.1, I.code.2.1, M.code I.code.2.2⟩,
    ⟨ccl, cdd, vs, ccs, file, tf, M _ _ h1 (fun z => by
      have z : Data.fields vs = Data.fields #[] := z
      cases z
      cases h2), h2, h3⟩, ⟨cl, cld, csl, M _ _ hc (fun z => nomatch z)⟩, I.clo, M.sup I.sup, M.setC I.set, M.find I.ini, M.excA I.exc, M.kp I.kp, M.mro I.ve, M.mro I.self, M.ns I.noSuper, M.ns I.opq, I.top⟩
end
theorem TabsOk.more {K : Frag} {h : Heap} {ts : List Addr} (t : TabsOk h ts) (X : K.In h) : MoreK K (kWo K ts) := fun _ _ e n => t.keep X e (.inr n)
end L2
set_option Elab.async false
set_option linter.all false
set_option maxRecDepth 100000
set_option maxHeartbeats 4000000
namespace My
open PySem L2 TL PyProof.Rows
abbrev sNoTx : Stmt := top 8
abbrev sNoTxI : Stmt := inClass sNoTx 0
abbrev fdNoTx (kV dc pm : Value) (an : Option Addr) (cd ct : Value) (cc : Addr) : FuncData := PySem.W.fnX "__init__" "NoText.__init__" (defArgs sNoTxI) (defBody sNoTxI) (defScope sNoTxI) [("__class__", cc)] .none kV dc pm an cd ct
theorem noTx_init (kV dc pm : Value) (an : Option Addr) (cd ct : Value) (cc : Addr) : ∃ a b self p0 p1 p2 p3 p4 p5 p6 p7 p8 p9 q0 q1 q2 q3 j0 j1, InitT (fdNoTx kV dc pm an cd ct cc) "row" a b self p0 p1 p2 p3 p4 p5 p6 p7 p8 p9 q0 q1 q2 q3 j0 j1 ∧ a.length + b.length ≤ 100 :=
  ⟨_, _, _, _, _, _, _, _, _, _, _, _, _, _, _, _, _, _, _, ⟨rfl, ⟨_, fun _ => rfl⟩, rfl, fun s u v => .of_eq rfl, by decide, ⟨rfl, rfl, rfl⟩, (by decide +kernel : ∀ x ∈ (defScope sNoTxI).names, x.2 ≠ .cell), rfl, rfl, rfl, rfl, rfl, rfl⟩, by decide +kernel⟩
/-- the classes of errors, as the law's K has them -/
theorem errT_mk {P : Program} {K : PySem.W.Frag} {h : Heap} {ts : List Addr} {mg : Str → Option Value} {C f cc cda loft c1 c2 c3 c4 c5 c6 c7 : Addr} {kV dc pm ct : Value} {an od : Option Addr} {osl : Array (Option Value)}
    {ccl : Value} {cdd : Option Addr} {vs : Array Value} {ccs : Array (Option Value)} {file : Str} {tf : Tok} {cl : Value} {cld : Option Addr} {csl : Array (Option Value)}
    (t : TabsOk h ts) (X : K.In h) (G : h.Ns mainGlobals mg)
    (m : PySem.W.nsIn K mainGlobals "NoText" = some (some (.ref C))) (m0 : PySem.W.nsIn K mainGlobals "LoftError" = some (some (.ref loft))) (m1 : PySem.W.nsIn K mainGlobals "NoCells" = some (some (.ref c1))) (m2 : PySem.W.nsIn K mainGlobals "NoLoft" = some (some (.ref c2))) (m3 : PySem.W.nsIn K mainGlobals "NoName" = some (some (.ref c3))) (m4 : PySem.W.nsIn K mainGlobals "NoRoom" = some (some (.ref c4))) (m5 : PySem.W.nsIn K mainGlobals "NoRow" = some (some (.ref c5))) (m6 : PySem.W.nsIn K mainGlobals "NotStill" = some (some (.ref c6))) (m7 : PySem.W.nsIn K mainGlobals "TooMany" = some (some (.ref c7))) (mv : PySem.W.nsIn K mainGlobals "ValueError" = some none)
    (ini : PySem.W.findIn K (.ref C) "__init__" = some (some (.ref f))) (lk : K.lookup f = some ⟨.type "function", od, .func (fdNoTx kV dc pm an (.ref cda) ct cc), osl⟩) (cdi : PySem.W.codeIn K (.ref cda) "NoText.__init__" = true)
    (lc : K.lookup cda = some ⟨ccl, cdd, .fields vs, ccs⟩) (hv : vs[2]? = some (.str file tf)) (hf : ((P.main.file : Str) == file) = true) (cel : K.lookup cc = some ⟨cl, cld, .cell (some (.ref C)), csl⟩)
    (sup : PySem.W.ks_superIn K C C "__init__" = some (some (.builtin "ValueError.__init__"))) (sa : PySem.W.findIn K (.ref C) "__setattr__" = some (some (.builtin "object.__setattr__"))) (na : PySem.W.findIn K (.ref C) "row" = some none)
    (exc : excInA K C [.type "ValueError", .type "Exception", .type "BaseException", .type "object"] "ValueError.__new__" = true) (kp : PySem.W.keepIn K (.ref C) = true) (ve : PySem.W.mroIn K C (.type "ValueError") = some true) (self : PySem.W.mroIn K C (.ref C) = some true)
    (ns : PySem.W.nsIn K mainGlobals "super" = some none) (opq : PySem.W.nsIn K cStatics "thirdparty.any" = some none) (top : (P.main.scope.names.lookup ("super" : Str)).isSome = false)
    (e : PySem.W.exmOne K (.ref C) (.ref loft) = some true) (g1 : PySem.W.findIn K (.ref C) "__getattribute__" = some (some (.builtin "BaseException.__getattribute__"))) (g2 : PySem.W.findIn K (.ref C) "__getattr__" = some none) (g3 : PySem.W.hasDictIn K C = true) (g4 : PySem.W.findIn K (.ref C) "__class__" = some (some (.builtin "object.__class__"))) (g5 : PySem.W.mroIn K C (.type "object") = some true) (g6 : PySem.W.mroIn K C (.type "BaseException") = some true)
    (k : PySem.W.kitAny K (.ref C) [.ref c1, .ref c2, .ref c3, .ref c4, .ref c5, .ref c6, .ref c7] = some false) (v : PySem.W.kitOne K (.ref C) (.type "ValueError") = some true) : ∃ R : ErrT P (kWo K ts) mg, R.C = C := by
  have M := t.more X
  have I : InitC P K C f cc cda "NoText.__init__" (fdNoTx kV dc pm an (.ref cda) ct cc) "row" := ⟨⟨_, _, _, lk, rfl⟩, ⟨rfl, rfl, cdi⟩, ⟨_, _, _, _, _, _, lc, hv, hf⟩, ⟨_, _, _, cel⟩, ⟨rfl, rfl, rfl⟩, sup, ⟨sa, na, g5⟩, ini, exc, kp, ve, self, ns, opq, top⟩
  exact ⟨⟨⟨C, f, cc, cda, _, _, PySem.W.mg_of X G m, M.initC I, noTx_init _ _ _ _ _ _ _⟩, loft, c1, c2, c3, c4, c5, c6, c7, PySem.W.mg_of X G m0, PySem.W.mg_of X G m1, PySem.W.mg_of X G m2, PySem.W.mg_of X G m3, PySem.W.mg_of X G m4, PySem.W.mg_of X G m5, PySem.W.mg_of X G m6, PySem.W.mg_of X G m7, M.exm e, M.excC ⟨g1, g2, g3, g4, g5, g6⟩, M.any k, M.one v, PySem.W.mg_none_of X G mv⟩, rfl⟩
end My
set_option Elab.async false
set_option linter.all false
set_option maxRecDepth 100000
set_option maxHeartbeats 4000000
namespace My
open PySem L2 TL
abbrev sChanged : Stmt := top 43
abbrev NCh : List Str := ["sack", "line", "signs", "sign", "at", "way", "words", "k", "odd", "word"]
def signsS : Str := " /=;[](){}0123456789abchxAZ_-+.,:\t"
def oddA : List Str := ["add", "alu", "put", "load", "nop", "/", "h0", "h12", "h13", "h00", "h", "a", "0", "7", "00", "256", "="]
def oddB : List Str := ["if", "then", "else", "{", "}", ";", "bits", "cells", "hidden", "999999999", Txt.mul "1" 60, "x", "b"]
theorem odd_len : ∀ x ∈ oddA ++ oddB, x.length ≤ 60 := by
  have h : (oddA ++ oddB).all (fun x => decide (x.length ≤ 60)) = true := by decide +kernel
  exact fun x hx => of_decide_eq_true (List.all_eq_true.mp h x hx)
theorem join_len1 (c : Nat) : ∀ {ws : List Str}, ws ≠ [] → (Str.join ⟨#[c]⟩ ws).length + 1 = (ws.map (·.length)).sum + ws.length
  | [], h => absurd rfl h
  | [a], _ => by
    show a.length + 1 = a.length + 0 + 1
    omega
  | a :: b :: r, _ => by
    have ih := join_len1 c (ws := b :: r) (by simp)
    have e := congrArg List.length (join_cons2 c a b r)
    rw [List.length_append, List.length_cons] at e
    have e : (Str.join ⟨#[c]⟩ (a :: b :: r)).length = a.length + ((Str.join ⟨#[c]⟩ (b :: r)).length + 1) := by
      simp only [Array.length_toList] at e
      exact e
    rw [e, List.map_cons, List.sum_cons, List.length_cons]
    omega
theorem split_ne (z : Str) : Txt.split z spS ≠ [] := fun e => by
  have := PyProof.Rows.split_pos z spS
  rw [e] at this
  exact absurd this (by decide)
/-- the words of a text: how long they are together -/
theorem split_sum (z : Str) : ((Txt.split z spS).map (·.length)).sum + (Txt.split z spS).length = z.length + 1 := by
  rw [← join_len1 32 (split_ne z)]
  have : Str.join ⟨#[32]⟩ (Txt.split z spS) = z := StrLaws.join_split z spS
  rw [this]
theorem mem_sum : ∀ {l : List Str} {x : Str}, x ∈ l → x.length ≤ (l.map (·.length)).sum
  | a :: r, x, h => by
    rw [List.map_cons, List.sum_cons]
    rcases List.mem_cons.mp h with rfl | h
    · omega
    · have := mem_sum h
      omega
theorem sum_bound : ∀ {l : List Str} {m : Nat}, (∀ x ∈ l, x.length ≤ m) → (l.map (·.length)).sum ≤ m * l.length
  | [], _, _ => Nat.zero_le _
  | a :: r, m, h => by
    have h1 := h a List.mem_cons_self
    have h2 := sum_bound (l := r) fun x hx => h x (List.mem_cons_of_mem _ hx)
    rw [List.map_cons, List.sum_cons, List.length_cons, Nat.mul_succ]
    omega
theorem sum_parts (l : List Str) (a b : Nat) (hab : a ≤ b) : ((l.take a).map (·.length)).sum + ((l.drop b).map (·.length)).sum ≤ (l.map (·.length)).sum := by
  have e : (l.map (·.length)).sum = ((l.take a).map (·.length)).sum + ((l.drop a).map (·.length)).sum := by
    rw [← List.sum_append, ← List.map_append, List.take_append_drop]
  have e2 : ((l.drop a).map (·.length)).sum = (((l.drop a).take (b - a)).map (·.length)).sum + ((l.drop b).map (·.length)).sum := by
    have : l.drop b = (l.drop a).drop (b - a) := by rw [List.drop_drop]; congr 1; omega
    rw [this, ← List.sum_append, ← List.map_append, List.take_append_drop]
  omega
/-- a text, changed -/
def spCh : Sp := fun vs H Q _ => ∃ (k : Addr) (z : Str) (n : Nat), vs = [.ref k, .str z] ∧ Sack H k n ∧ n < 10000 ∧ z.length ≤ 5000 ∧ ∀ (y : Str) (H' : Hp), y.length ≤ 4 * z.length + 123 → SameBut k H H' → Sack H' k (n + 5) → Q (.str y) H'
section
variable {P : Program} {w : World} {K : PySem.W.Frag} {mg : Str → Option Value} {base : Heap}
theorem scCh : FnScope NCh ["sack", "line"] (defScope sChanged) := ⟨rfl, rfl, rfl, by decide +kernel, rfl, by decide +kernel, by decide +kernel⟩
theorem ok_ch {f : Addr} {fd : FuncData} (F : Fun K "_law_changed" "_law_changed" sChanged f fd) (dP : Df K mg "_law_pull" sPull ["sack", "many"]) (B : Bl mg) : FnOk P w K mg base CX0 2 f fd ["sack", "line"] spCh := by
  have GP : FnOk P w K mg base CX0 1 dP.f dP.fd ["sack", "many"] spPull := ok_pull dP.F
  refine F.ok scCh (fun vs H Q E h => ?_) (fun cdv A outer s H vs Q E hr1 h => ?_)
  · obtain ⟨k, z, n, rfl, _⟩ := h
    rfl
  · obtain ⟨k, z, n, rfl, S0, hn, hz, q⟩ := h
    have e : defBody sChanged = fillAt (lstOf (stAt (defBody sChanged) 7)) 7 (defBody sChanged) := by rfl
    have hA : strsOf (lstOf (stAt (defBody sChanged) 7)) = some oddA := by decide +kernel
    rw [e]
    generalize lstOf (stAt (defBody sChanged) 7) = esA at hA ⊢
    clear e
    refine ⟨_, pss_cons (ps_set (i := 2) scCh.nd rfl (Or.inl rfl) pe_str) (pss_cons (ps_set (i := 3) scCh.nd rfl (Or.inl rfl) (pe_ix ix_str (pv 2) (pe_call GP hr1 rfl dP.m dP.F.kp dP.b .nil pass0 (pa_cons (pv 0) (pa_cons (pe_callB call_len_str (by rfl) B.len PySem.boot_len (pa_cons (pv 2) pa_nil)) pa_nil))) (fun _ _ => rfl))) (pss_cons (ps_set (i := 4) scCh.nd rfl (Or.inl rfl) (pe_call GP hr1 rfl dP.m dP.F.kp dP.b .nil pass0 (pa_cons (pv 0) (pa_cons (pe_op op_add (pe_callB call_len_str (by rfl) B.len PySem.boot_len (pa_cons (pv 1) pa_nil)) pe_int) pa_nil)))) (pss_cons (ps_set (i := 5) scCh.nd rfl (Or.inl rfl) (pe_call GP hr1 rfl dP.m dP.F.kp dP.b .nil pass0 (pa_cons (pv 0) (pa_cons pe_int pa_nil)))) (pss_cons (ps_if (pt_cmpR op_lt (pv 5) pe_int (nomark _)) (pss_one (ps_ret (pe_op op_add_str (pe_op op_add_str (pe_slice sl_str (pv 1) po_none (po_some (pv 4))) (pe_ix ix_list (pe_lst (pa_cons (pv 3) (pa_cons pe_str (pa_cons (pv 3) pa_nil)))) (pv 5) (fun _ _ => rfl))) (pe_slice sl_str (pv 1) (po_some (pe_op op_add (pv 4) (pe_callTy call_int1 (by rfl) B.int (by decide +kernel) (pa_cons (pe_cmpR op_gt (pv 5) pe_int (nomark _)) pa_nil)))) po_none)))) pss_nil) (pss_cons (ps_set (i := 6) scCh.nd rfl (Or.inl rfl) (pe_split (pv 1) pe_str)) (pss_cons (ps_set (i := 7) scCh.nd rfl (Or.inl rfl) (pe_call GP hr1 rfl dP.m dP.F.kp dP.b .nil pass0 (pa_cons (pv 0) (pa_cons (pe_callB call_len_seq (by rfl) B.len PySem.boot_len (pa_cons (pv 6) pa_nil)) pa_nil)))) (pss_cons (ps_set (i := 8) scCh.nd rfl (Or.inl rfl) (pe_lst (pa_strs hA))) (pss_cons (ps_set (i := 8) scCh.nd rfl (Or.inl rfl) (pe_op op_cat (pv 8) (pe_lst (pa_cons pe_str (pa_cons pe_str (pa_cons pe_str (pa_cons pe_str (pa_cons pe_str (pa_cons pe_str (pa_cons pe_str (pa_cons pe_str (pa_cons pe_str (pa_cons pe_str (pa_cons (pe_op op_repS pe_str pe_int) (pa_cons pe_str (pa_cons pe_str pa_nil)))))))))))))))) (pss_cons (ps_set (i := 9) scCh.nd rfl (Or.inl rfl) (pe_ix ix_list (pv 8) (pe_call GP hr1 rfl dP.m dP.F.kp dP.b .nil pass0 (pa_cons (pv 0) (pa_cons pe_int pa_nil))) (fun _ _ => rfl))) (pss_cons (ps_asg (pe_ix ix_list (pe_lst (pa_cons (pe_lst pa_nil) (pa_cons (pe_lst (pa_cons (pe_ix ix_list (pv 6) (pv 7) (fun _ _ => rfl)) (pa_cons (pe_ix ix_list (pv 6) (pv 7) (fun _ _ => rfl)) pa_nil))) (pa_cons (pe_lst (pa_cons (pv 9) pa_nil)) (pa_cons (pe_lst (pa_cons (pv 9) (pa_cons (pe_ix ix_list (pv 6) (pv 7) (fun _ _ => rfl)) pa_nil))) (pa_cons (pe_stepL (pe_slice sl_list (pv 6) (po_some (pv 7)) (po_some (pe_op op_add (pv 7) pe_int))) (pe_un un_neg pe_int)) pa_nil)))))) (pe_op op_sub (pv 5) pe_int) (fun _ _ => rfl)) (pg_slc (pv 6) (pv 7) (pe_op op_add (pv 7) pe_int))) (pss_one (ps_ret (pe_join pe_str (pv 6)))))))))))))), ?read⟩
    case read =>
      have nek : ∀ {H1 : Hp} {m : Nat} {b : Addr}, Sack H1 k m → H1 b = none → b ≠ k := fun S hb => by
        obtain ⟨_, _, _, w, _⟩ := S
        exact (ne_of_none w hb).symm
      have big : ∀ {x : Nat}, x ≤ 100000 → x ≤ sizeLine := fun h => Nat.le_trans h (by decide)
      have hzl : z.length ≤ sizeLine := big (by omega)
      refine seq_cut (fun σ' H' => σ' = [some (.ref k), some (.str z), some (.str signsS), none, none, none, none, none, none, none] ∧ H' = H) (fun nx imp => imp _ _ ⟨rfl, rfl⟩) ?_
      rintro σ Hx ⟨rfl, ex⟩
      subst ex
      have sl : signsS.length = 34 := by decide +kernel
      refine seq_cut (fun σ' H' => ∃ c : Nat, σ' = [some (.ref k), some (.str z), some (.str signsS), some (.str ⟨#[c]⟩), none, none, none, none, none, none] ∧ SameBut k Hx H' ∧ Sack H' k (n + 1)) (fun nx imp => ?_) ?_
      · refine ⟨_, rfl, _, rfl, _, rfl, signsS, rfl, big (by rw [sl]; decide), k, _, n, rfl, S0, by omega, by rw [sl]; decide, by rw [sl]; decide, fun r H1 a1 b1 sb1 S1 => ?_⟩
        rw [sl] at b1
        have hl : signsS.cps.toList.length = 34 := by decide +kernel
        have hr : r.toNat < 34 := by omega
        obtain ⟨c, hc⟩ : ∃ c, signsS.cps.toList[r.toNat]? = some c := ⟨_, List.getElem?_eq_getElem (l := signsS.cps.toList) (i := r.toNat) (by rw [hl]; exact hr)⟩
        exact ⟨signsS, r, c, rfl, rfl, big (by rw [sl]; decide), (by have w := atI_nat hc; rw [Int.toNat_of_nonneg a1] at w; exact w), imp _ _ ⟨c, rfl, sb1, S1⟩⟩
      rintro σ H1 ⟨c, rfl, sb1, S1⟩
      refine seq_cut (fun σ' H' => ∃ a : Int, σ' = [some (.ref k), some (.str z), some (.str signsS), some (.str ⟨#[c]⟩), some (.int a), none, none, none, none, none] ∧ 0 ≤ a ∧ SameBut k Hx H' ∧ Sack H' k (n + 2)) (fun nx imp => ?_) ?_
      · exact ⟨_, rfl, _, rfl, z, rfl, hzl, _, _, rfl, rfl, k, (z.length : Int) + 1, n + 1, rfl, S1, by omega, by omega, by omega, fun r H2 a2 b2 sb2 S2 => imp _ _ ⟨r, rfl, a2, sb1.trans sb2, S2⟩⟩
      rintro σ H2 ⟨a, rfl, ha0, sb2, S2⟩
      refine seq_cut (fun σ' H' => ∃ y : Int, σ' = [some (.ref k), some (.str z), some (.str signsS), some (.str ⟨#[c]⟩), some (.int a), some (.int y), none, none, none, none] ∧ 0 ≤ y ∧ y < 8 ∧ SameBut k Hx H' ∧ Sack H' k (n + 3)) (fun nx imp => ?_) ?_
      · exact ⟨_, rfl, k, 8, n + 2, rfl, S2, by omega, by decide, by decide, fun r H3 a3 b3 sb3 S3 => imp _ _ ⟨r, rfl, a3, b3, sb2.trans sb3, S3⟩⟩
      rintro σ H3 ⟨y, rfl, hy0, hy8, sb3, S3⟩
      have cutle : ∀ lo hi, (cutS z lo hi).length ≤ z.length := fun lo hi => by
        show (cutS z lo hi).cps.size ≤ z.cps.size
        unfold cutS
        rw [List.size_toArray, List.length_take, List.length_drop]
        have : z.cps.toList.length = z.cps.size := Array.length_toList
        omega
      have la : ∀ a b : Str, (a ++ b).length = a.length + b.length := fun a b => Str.length_append a b
      refine seq_cut (fun σ' H' => σ' = [some (.ref k), some (.str z), some (.str signsS), some (.str ⟨#[c]⟩), some (.int a), some (.int y), none, none, none, none] ∧ H' = H3 ∧ 3 ≤ y) (fun nx imp => ?_) ?_
      · refine ⟨_, rfl, _, _, rfl, rfl, _, rfl, iteB (fun h3 => ?_) (fun h3 => imp _ _ ⟨rfl, rfl, by have := of_decide_eq_false h3; omega⟩)⟩
        have h3 := of_decide_eq_true h3
        refine ⟨_, rfl, _, rfl, _, rfl, z, rfl, hzl, _, rfl, _, rfl, (by show 3 ≤ sizeLine; decide), fun D hD => ?_⟩
        have sD := same_new hD (.lst [V.str ⟨#[c]⟩, V.str "", V.str ⟨#[c]⟩])
        obtain ⟨m, hm, hml⟩ : ∃ m : Str, atI [V.str ⟨#[c]⟩, V.str "", V.str ⟨#[c]⟩] y = some (.str m) ∧ m.length ≤ 1 := by
          obtain rfl | rfl | rfl : y = 0 ∨ y = 1 ∨ y = 2 := by omega
          · exact ⟨_, rfl, Nat.le_refl 1⟩
          · exact ⟨_, rfl, Nat.zero_le 1⟩
          · exact ⟨_, rfl, Nat.le_refl 1⟩
        have c1 := cutle none (some a)
        refine ⟨_, rfl, D, _, _, _, rfl, rfl, SqL.of upd_same, hm, _, _, rfl, rfl, big (by omega), _, rfl, _, rfl, _, rfl, _, _, rfl, rfl, .inr ⟨_, rfl, _, _, rfl, rfl, _, rfl, z, rfl, hzl, _, _, rfl, rfl, ?_, ?_⟩⟩
        · rw [la]
          have := cutle (some (a + if decide (0 < y) = true then 1 else 0)) none
          exact big (by omega)
        · refine q _ _ ?_ (sb3.trans sD.but) ((S3.same sD).mono (by omega))
          rw [la, la]
          have := cutle (some (a + if decide (0 < y) = true then 1 else 0)) none
          omega
      rintro σ Hy ⟨rfl, ey, hy3⟩
      rw [ey]
      clear ey Hy
      -- words
      refine seq_cut (fun σ' H' => ∃ L : Addr, σ' = [some (.ref k), some (.str z), some (.str signsS), some (.str ⟨#[c]⟩), some (.int a), some (.int y), some (.ref L), none, none, none] ∧ L ≠ k ∧ Hx L = none ∧ H' L = some (.lst ((Txt.split z spS).map V.str)) ∧ SameBut k Hx H' ∧ Sack H' k (n + 3)) (fun nx imp => ?_) ?_
      · refine ⟨_, rfl, ⟨_, rfl⟩, z, spS, rfl, rfl, rfl, big (by omega), fun L hL => imp _ _ ⟨L, rfl, nek S3 hL, ?_, upd_same, sb3.trans (SameBut.new hL), S3.same (same_new hL _)⟩⟩
        cases w : Hx L with
        | none => rfl
        | some o => rw [sb3 _ _ w (nek S3 hL)] at hL; cases hL
      rintro σ H4 ⟨L, rfl, nLk, hLx, hL4, sb4, S4⟩
      have hss := split_sum z
      have hsn := split_ne z
      generalize hws : Txt.split z spS = ws at *
      have wlen : 0 < ws.length := List.length_pos_iff.mpr hsn
      refine seq_cut (fun σ' H' => ∃ j : Nat, σ' = [some (.ref k), some (.str z), some (.str signsS), some (.str ⟨#[c]⟩), some (.int a), some (.int y), some (.ref L), some (.int (j : Nat)), none, none] ∧ j < ws.length ∧ H' L = some (.lst (ws.map V.str)) ∧ SameBut k Hx H' ∧ Sack H' k (n + 4)) (fun nx imp => ?_) ?_
      · refine ⟨_, rfl, _, rfl, L, _, rfl, .inl (SqL.of hL4), k, _, n + 3, rfl, S4, by omega, by rw [List.length_map]; omega, by rw [List.length_map]; omega, fun r H5 a5 b5 sb5 S5 => imp _ _ ⟨r.toNat, ?_, ?_, sb5 _ _ hL4 nLk, sb4.trans sb5, S5⟩⟩
        · rw [Int.toNat_of_nonneg a5]
          rfl
        · rw [List.length_map] at b5; omega
      rintro σ H5 ⟨j, rfl, hj, hL5, sb5, S5⟩
      refine seq_cut (fun σ' H' => ∃ p : Addr, σ' = [some (.ref k), some (.str z), some (.str signsS), some (.str ⟨#[c]⟩), some (.int a), some (.int y), some (.ref L), some (.int (j : Nat)), some (.ref p), none] ∧ H' p = some (.lst (oddA.map V.str)) ∧ Same H5 H') (fun nx imp => ?_) ?_
      · exact ⟨(by show 17 ≤ sizeLine; decide), fun p hp => imp _ _ ⟨p, rfl, upd_same, same_new hp _⟩⟩
      rintro σ H6 ⟨p, rfl, hp6, s6⟩
      refine seq_cut (fun σ' H' => ∃ p : Addr, σ' = [some (.ref k), some (.str z), some (.str signsS), some (.str ⟨#[c]⟩), some (.int a), some (.int y), some (.ref L), some (.int (j : Nat)), some (.ref p), none] ∧ p ≠ k ∧ H' p = some (.lst ((oddA ++ oddB).map V.str)) ∧ Same H5 H') (fun nx imp => ?_) ?_
      · refine ⟨_, rfl, "1", 60, rfl, rfl, ⟨by decide, fun _ _ => by decide, fun _ _ => by decide⟩, (by show 13 ≤ sizeLine; decide), fun p2 hp2 => ?_⟩
        have s2 := same_new hp2 (.lst (oddB.map V.str))
        refine ⟨p, p2, _, _, rfl, rfl, s2 _ _ hp6, upd_same, (by show 17 + 13 ≤ sizeLine; decide), fun p3 hp3 => imp _ _ ⟨p3, rfl, nek ((S5.same s6).same s2) hp3, ?_, s6.trans (s2.trans (same_new hp3 _))⟩⟩
        rw [upd_same]
        rfl
      clear hp6 s6 p H6
      rintro σ H6 ⟨p, rfl, npk, hp6, s6⟩
      refine seq_cut (fun σ' H' => ∃ wd : Str, σ' = [some (.ref k), some (.str z), some (.str signsS), some (.str ⟨#[c]⟩), some (.int a), some (.int y), some (.ref L), some (.int (j : Nat)), some (.ref p), some (.str wd)] ∧ wd.length ≤ 60 ∧ H' L = some (.lst (ws.map V.str)) ∧ SameBut k Hx H' ∧ Sack H' k (n + 5)) (fun nx imp => ?_) ?_
      · refine ⟨_, rfl, _, rfl, k, 30, n + 4, rfl, S5.same s6, by omega, by decide, by decide, fun r H7 a7 b7 sb7 S7 => ?_⟩
        have ol : (oddA ++ oddB).length = 30 := rfl
        obtain ⟨wd, hw⟩ : ∃ wd, (oddA ++ oddB)[r.toNat]? = some wd := ⟨_, List.getElem?_eq_getElem (by rw [ol]; omega)⟩
        exact ⟨p, _, _, _, rfl, rfl, SqL.of (sb7 _ _ hp6 npk), at_of (j := r.toNat) (v := .str wd) (by omega) (by rw [List.getElem?_map, hw]; rfl), imp _ _ ⟨wd, rfl, odd_len _ (List.mem_of_getElem? hw), sb7 _ _ (s6 _ _ hL5) nLk, sb5.trans (s6.but.trans sb7), S7⟩⟩
      rintro σ H7 ⟨wd, rfl, hwd, hL7, sb7, S7⟩
      obtain ⟨wj, hwj⟩ : ∃ wj, ws[j]? = some wj := ⟨_, List.getElem?_eq_getElem hj⟩
      have atj : atI (ws.map V.str) ((j : Nat) : Int) = some (.str wj) := at_of (j := j) rfl (by rw [List.getElem?_map, hwj]; rfl)
      have bnd : ∀ {x : Str}, x ∈ ws → x.length ≤ z.length := fun {x} hx => by
        have := mem_sum hx
        omega
      refine seq_cut (fun σ' H' => ∃ (ys : List Str), σ' = [some (.ref k), some (.str z), some (.str signsS), some (.str ⟨#[c]⟩), some (.int a), some (.int y), some (.ref L), some (.int (j : Nat)), some (.ref p), some (.str wd)] ∧ ys.length ≤ 2 ∧ (∀ x ∈ ys, x.length ≤ z.length + 60) ∧ H' L = some (.lst ((ws.take j ++ ys ++ ws.drop (j + 1)).map V.str)) ∧ SameBut k Hx H' ∧ Sack H' k (n + 5)) (fun nx imp => ?_) ?_
      · have atk := atj
        have nS : ∀ {Ha : Hp} {b : Addr} {o : HO}, Ha L = some o → Ha b = none → b ≠ L := fun e1 e2 => (ne_of_none e1 e2).symm
        refine ⟨(by show 0 ≤ sizeLine; decide), fun l1 h1 => ?_⟩
        have t1 := same_new h1 (.lst [])
        refine ⟨_, rfl, _, rfl, L, _, _, _, rfl, rfl, SqL.of (t1 _ _ hL7), atj, _, rfl, _, rfl, L, _, _, _, rfl, rfl, SqL.of (t1 _ _ hL7), atj, (by show 2 ≤ sizeLine; decide), fun l2 h2 => ?_⟩
        have t2 := t1.trans (same_new h2 (.lst [V.str wj, V.str wj]))
        refine ⟨_, rfl, (by show 1 ≤ sizeLine; decide), fun l3 h3 => ?_⟩
        have t3 := t2.trans (same_new h3 (.lst [V.str wd]))
        refine ⟨_, rfl, _, rfl, _, rfl, L, _, _, _, rfl, rfl, SqL.of (t3 _ _ hL7), atj, (by show 2 ≤ sizeLine; decide), fun l4 h4 => ?_⟩
        have t4 := t3.trans (same_new h4 (.lst [V.str wd, V.str wj]))
        refine ⟨_, rfl, _, rfl, _, rfl, _, rfl, _, _, rfl, rfl, _, rfl, L, _, rfl, SqL.of (t4 _ _ hL7), fun c5 h5 => ?_⟩
        have u5 := same_new h5 (.lst (cutV (ws.map V.str) (some ((j : Nat) : Int)) (some ((j : Nat) + 2))))
        have t5 := t4.trans u5
        refine ⟨_, rfl, c5, _, -1, rfl, rfl, .inr rfl, SqL.of upd_same, fun l5 h5' => ?_⟩
        have ecut : cutV (ws.map V.str) (some ((j : Nat) : Int)) (some ((j : Nat) + 2)) = ((ws.drop j).take 2).map V.str := by
          unfold cutV
          have e2 : ((j : Nat) : Int) + 2 = ((j + 2 : Nat) : Int) := by omega
          rw [e2, HT.sIx_nat, HT.sIx_nat, List.length_map, List.map_take, List.map_drop]
          have m1 : min j ws.length = j := by omega
          rw [m1]
          by_cases hj2 : j + 2 ≤ ws.length
          · congr 1
            omega
          · rw [List.take_of_length_le (by rw [List.length_drop, List.length_map]; omega), List.take_of_length_le (by rw [List.length_drop, List.length_map]; omega)]
        have u6 := same_new h5' (.lst (if (-1 : Int) = 1 then cutV (ws.map V.str) (some ((j : Nat) : Int)) (some ((j : Nat) + 2)) else (cutV (ws.map V.str) (some ((j : Nat) : Int)) (some ((j : Nat) + 2))).reverse))
        have t6 := t5.trans u6
        refine ⟨(by show 5 ≤ sizeLine; decide), fun D hD => ?_⟩
        have u7 := same_new hD (.lst [V.ref l1, V.ref l2, V.ref l3, V.ref l4, V.ref l5])
        have t7 := t6.trans u7
        obtain ⟨b, ys, hb, hbL, hbl, hy2, hyb⟩ : ∃ (b : Addr) (ys : List Str), atI [V.ref l1, V.ref l2, V.ref l3, V.ref l4, V.ref l5] (y - 3) = some (.ref b) ∧ L ≠ b ∧
            (upd (upd (upd (upd (upd (upd (upd H7 l1 (.lst [])) l2 (.lst [V.str wj, V.str wj])) l3 (.lst [V.str wd])) l4 (.lst [V.str wd, V.str wj])) c5 (.lst (cutV (ws.map V.str) (some ((j : Nat) : Int)) (some ((j : Nat) + 2))))) l5 (.lst (if (-1 : Int) = 1 then cutV (ws.map V.str) (some ((j : Nat) : Int)) (some ((j : Nat) + 2)) else (cutV (ws.map V.str) (some ((j : Nat) : Int)) (some ((j : Nat) + 2))).reverse))) D (.lst [V.ref l1, V.ref l2, V.ref l3, V.ref l4, V.ref l5])) b = some (.lst (ys.map V.str)) ∧ ys.length ≤ 2 ∧ ∀ x ∈ ys, x.length ≤ z.length + 60 := by
          have b1 := bnd (List.mem_of_getElem? hwj)
          obtain e | e | e | e | e : y - 3 = 0 ∨ y - 3 = 1 ∨ y - 3 = 2 ∨ y - 3 = 3 ∨ y - 3 = 4 := by omega
          · exact ⟨l1, [], by rw [e]; rfl, (nS hL7 h1).symm, u7 _ _ (u6 _ _ (u5 _ _ (same_new h4 _ _ _ (same_new h3 _ _ _ (same_new h2 _ _ _ upd_same))))), Nat.zero_le _, fun x hx => nomatch hx⟩
          · exact ⟨l2, [wj, wj], by rw [e]; rfl, (nS (t1 _ _ hL7) h2).symm, u7 _ _ (u6 _ _ (u5 _ _ (same_new h4 _ _ _ (same_new h3 _ _ _ upd_same)))), Nat.le_refl 2, fun x hx => by
              simp only [List.mem_cons, List.mem_nil_iff, or_false, or_self] at hx
              subst hx
              omega⟩
          · exact ⟨l3, [wd], by rw [e]; rfl, (nS (t2 _ _ hL7) h3).symm, u7 _ _ (u6 _ _ (u5 _ _ (same_new h4 _ _ _ upd_same))), by show 1 ≤ 2; decide, fun x hx => by
              simp only [List.mem_cons, List.mem_nil_iff, or_false] at hx
              subst hx
              omega⟩
          · exact ⟨l4, [wd, wj], by rw [e]; rfl, (nS (t3 _ _ hL7) h4).symm, u7 _ _ (u6 _ _ (u5 _ _ upd_same)), Nat.le_refl 2, fun x hx => by
              simp only [List.mem_cons, List.mem_nil_iff, or_false] at hx
              rcases hx with rfl | rfl <;> omega⟩
          · refine ⟨l5, ((ws.drop j).take 2).reverse, by rw [e]; rfl, (nS (t5 _ _ hL7) h5').symm, ?_, ?_, fun x hx => ?_⟩
            · refine u7 _ _ ?_
              rw [upd_same, if_neg (by decide), ecut, List.map_reverse]
            · rw [List.length_reverse, List.length_take]
              omega
            · have := bnd (List.mem_of_mem_drop (List.mem_of_mem_take (List.mem_reverse.mp hx)))
              omega
        refine ⟨_, rfl, _, _, rfl, rfl, D, _, _, _, rfl, rfl, SqL.of upd_same, hb, _, rfl, _, rfl, _, rfl, _, _, rfl, rfl, L, b, ws.map V.str, ys.map V.str, _, _, rfl, rfl, rfl, rfl, t7 _ _ hL7, hbl, hbL, by omega, by omega, by rw [List.length_map]; omega, ?_, imp _ _ ⟨ys, rfl, hy2, hyb, ?_, ?_, ?_⟩⟩
        · rw [List.length_map, List.length_map]
          exact big (by omega)
        · rw [upd_same, List.map_append, List.map_append, List.map_take, List.map_drop]
          rfl
        · exact fun b2 o e nk => by
            have n2 : b2 ≠ L := ne_of_none e hLx
            rw [upd_ne n2]
            exact t7 _ _ (sb7 _ _ e nk)
        · obtain ⟨a1, a2, a3, a4, a5⟩ := S7.same t7
          exact ⟨a1, a2, a3, by rw [upd_ne (Ne.symm nLk)]; exact a4, a5⟩
      rintro σ H8 ⟨ys, rfl, hy2, hyb, hL8, sb8, S8⟩
      have h1 := sum_parts ws j (j + 1) (by omega)
      have h2 := sum_bound hyb
      have e1 : ((ws.take j ++ ys ++ ws.drop (j + 1)).map (·.length)).sum ≤ 3 * z.length + 121 := by
        rw [List.map_append, List.map_append, List.sum_append, List.sum_append]
        have : (z.length + 60) * ys.length ≤ (z.length + 60) * 2 := Nat.mul_le_mul_left _ hy2
        omega
      have e2 : (ws.take j ++ ys ++ ws.drop (j + 1)).length ≤ z.length + 2 := by
        rw [List.length_append, List.length_append, List.length_take, List.length_drop]
        omega
      have hs1 : spS.length = 1 := rfl
      have jl := join_len spS (ws.take j ++ ys ++ ws.drop (j + 1))
      rw [hs1] at jl
      exact ⟨⟨_, rfl⟩, _, rfl, spS, L, _, rfl, rfl, .inl (SqL.of hL8), by rw [hs1]; omega, q _ _ (by omega) sb8 S8⟩
end
end My
set_option Elab.async false
set_option linter.all false
set_option maxRecDepth 100000
set_option maxHeartbeats 4000000
namespace My
open PySem L2 TL
abbrev sLIsName : Stmt := top 41
abbrev sNumL : Stmt := top 45
abbrev sReadL : Stmt := top 46
def badC (c : Nat) : Bool := decide ((⟨#[c]⟩ : Str).cps.toList < (Str.ofString "a").cps.toList) || decide ((Str.ofString "z").cps.toList < (⟨#[c]⟩ : Str).cps.toList)
theorem badC_eq (c : Nat) : badC c = !okC c := by
  have e1 : (Str.ofString "a").cps.toList = [97] := by decide +kernel
  have e2 : (Str.ofString "z").cps.toList = [122] := by decide +kernel
  have e3 : lettersS.cps.toList = List.range' 97 26 := by decide +kernel
  unfold badC okC
  rw [e1, e2, e3, Bool.eq_iff_iff]
  simp [List.mem_range'_1, List.cons_lt_cons_iff]
  omega
def oneV (c : Nat) : V := .str ⟨#[c]⟩
theorem good_empty (l : List Nat) : ((l.filter badC).map oneV).isEmpty = l.all okC := by
  induction l with
  | nil => rfl
  | cons c r ih =>
    rw [List.filter_cons, badC_eq]
    cases h : okC c with
    | true => simpa [h] using ih
    | false => simp [h]
abbrev NLN : List Str := ["what", "sign"]
abbrev NNL : List Str := ["word", "sign"]
abbrev NRL : List Str := ["line", "words", "due", "names", "word", "bits", "hidden", "alus", "moves", "cells", "name"]
def spLIsName : Sp := fun vs H Q _ => ∃ (v : V) (k : Addr) (d : Dt), vs = [v] ∧ Lay k H v d ∧ ∀ H', Same H H' → Q (.bl (nameD d)) H'
def badF (c : Nat) : Bool := decide ((⟨#[c]⟩ : Str).cps.toList < (Str.ofString "0").cps.toList) || decide ((Str.ofString "9").cps.toList < (⟨#[c]⟩ : Str).cps.toList)
theorem badF_eq (c : Nat) : badF c = !figC c := by
  have e1 : (Str.ofString "0").cps.toList = [48] := by decide +kernel
  have e2 : (Str.ofString "9").cps.toList = [57] := by decide +kernel
  unfold badF
  rw [e1, e2, Bool.eq_iff_iff]
  cases h : figC c with
  | true =>
    have := figC_iff.mp h
    simp [List.cons_lt_cons_iff]
    omega
  | false =>
    have : ¬ (48 ≤ c ∧ c ≤ 57) := fun z => by rw [figC_iff.mpr z] at h; cases h
    simp [List.cons_lt_cons_iff]
    omega
def oneS (c : Nat) : Str := ⟨#[c]⟩
theorem good_fig (l : List Nat) : ((l.filter badF).map oneS = []) ↔ l.all figC = true := by
  rw [List.map_eq_nil_iff, List.filter_eq_nil_iff, List.all_eq_true]
  exact ⟨fun h c hc => by have := h c hc; rw [badF_eq] at this; simpa using this, fun h c hc => by rw [badF_eq, h c hc]; decide⟩
/-- what the law's own reading of a number tells -/
def numI (z : Str) : Int := match numO z with
  | some n => n
  | none => -1
def spNumL : Sp := fun vs H Q _ => ∃ z : Str, vs = [.str z] ∧ z.length ≤ 10000 ∧ ∀ H', Same H H' → Q (.int (numI z)) H'
/-- the parts of a list of twelve texts at least -/
theorem parts12 {ws : List Str} (h : 11 ≤ ws.length) : ∃ w0 w1 w2 ns a8 a7 a6 a5 a4 a3 a2 a1, ws = [w0, w1, w2] ++ ns ++ [a8, a7, a6, a5, a4, a3, a2, a1] := by
  have e : ws = ws.take 3 ++ ((ws.drop 3).take (ws.length - 11)) ++ ws.drop (ws.length - 8) := by
    have e1 : (ws.drop 3).take (ws.length - 11) ++ ws.drop (ws.length - 8) = ws.drop 3 := by
      have : ws.drop (ws.length - 8) = (ws.drop 3).drop (ws.length - 11) := by rw [List.drop_drop]; congr 1; omega
      rw [this, List.take_append_drop]
    rw [List.append_assoc, e1, List.take_append_drop]
  have l3 : (ws.take 3).length = 3 := by rw [List.length_take]; omega
  have l8 : (ws.drop (ws.length - 8)).length = 8 := by rw [List.length_drop]; omega
  generalize ws.take 3 = t at e l3
  generalize ws.drop (ws.length - 8) = d at e l8
  match t, l3, d, l8 with
  | [w0, w1, w2], _, [a8, a7, a6, a5, a4, a3, a2, a1], _ => exact ⟨w0, w1, w2, _, a8, a7, a6, a5, a4, a3, a2, a1, e⟩
theorem cut_mid {x y z : V} {ns : List V} {t : List V} (ht : t.length = 8) : cutV ([x, y, z] ++ ns ++ t) (some 3) (some (-8)) = ns := by
  have hl : ([x, y, z] ++ ns ++ t).length = 11 + ns.length := by
    rw [List.length_append, List.length_append, ht]
    show 3 + ns.length + 8 = _
    omega
  unfold cutV
  have s1 : HT.sIx ([x, y, z] ++ ns ++ t).length 0 (some 3) = 3 := by
    unfold HT.sIx
    simp only []
    rw [if_neg (by decide), hl]
    show min 3 (11 + ns.length) = 3
    omega
  have s2 : HT.sIx ([x, y, z] ++ ns ++ t).length ([x, y, z] ++ ns ++ t).length (some (-8)) = 3 + ns.length := by
    unfold HT.sIx
    simp only []
    rw [if_pos (by decide), hl]
    omega
  rw [s1, s2, List.append_assoc, List.drop_left' (by rfl)]
  have e3 : 3 + ns.length - 3 = ns.length := by omega
  rw [e3, List.take_left']
  rfl
theorem step_tail {x : List V} {t : List V} (ht : t.length = 8) (a b : Nat) (hab : a + 2 * 3 = 8 - b) (hb : b = 1 ∨ b = 2) :
    stepV (x ++ t) ((a : Int) - 8) 2 = [a, a + 2, a + 4, a + 6].filterMap (t[·]?) := by
  have hl : (x ++ t).length = x.length + 8 := by rw [List.length_append, ht]
  have ha : a = 0 ∨ a = 1 := by omega
  unfold stepV
  have c1 : (sliceBounds (some ((a : Int) - 8)) none (some 2) (x ++ t).length).1 = ((x.length + a : Nat) : Int) := by
    show (if (2 : Int) > 0 then max 0 (min (if (a : Int) - 8 < 0 then (a : Int) - 8 + ((x ++ t).length : Nat) else (a : Int) - 8) ((x ++ t).length : Nat)) else max (-1) (min (if (a : Int) - 8 < 0 then (a : Int) - 8 + ((x ++ t).length : Nat) else (a : Int) - 8) ((((x ++ t).length : Nat) : Int) - 1))) = _
    rw [if_pos (by decide), if_pos (by omega), hl]
    omega
  have c2 : (sliceBounds (some ((a : Int) - 8)) none (some 2) (x ++ t).length).2.1 = ((x.length + 8 : Nat) : Int) := by
    show (if (2 : Int) > 0 then (((x ++ t).length : Nat) : Int) else -1) = _
    rw [if_pos (by decide), hl]
  have c3 : (sliceBounds (some ((a : Int) - 8)) none (some 2) (x ++ t).length).2.2 = 2 := rfl
  rw [c1, c2, c3]
  have r : sliceRange ((x.length + a : Nat) : Int) ((x.length + 8 : Nat) : Int) 2 = [x.length + a, x.length + (a + 2), x.length + (a + 4), x.length + (a + 6)] := by
    unfold sliceRange
    have e : (if (2 : Int) > 0 then (if ((x.length + a : Nat) : Int) < ((x.length + 8 : Nat) : Int) then (((x.length + 8 : Nat) : Int) - ((x.length + a : Nat) : Int) + 2 - 1) / 2 else 0) else (if ((x.length + a : Nat) : Int) > ((x.length + 8 : Nat) : Int) then (((x.length + a : Nat) : Int) - ((x.length + 8 : Nat) : Int) - 2 - 1) / (-2) else 0)) = 4 := by
      rw [if_pos (by decide), if_pos (by omega)]
      omega
    rw [e]
    show [_, _, _, _] = _
    simp only [List.cons.injEq, and_true]
    refine ⟨?_, ?_, ?_, ?_⟩ <;> simp <;> omega
  rw [r]
  have g : ∀ i : Nat, (x ++ t)[x.length + i]? = t[i]? := fun i => by
    rw [List.getElem?_append_right (by omega)]
    congr 1
    omega
  simp only [List.filterMap_cons, List.filterMap_nil, g]
abbrev dueW : List Str := ["bits", "registers", "hidden", "alus", "moves", "cells"]
/-- what a machine's text has for its words -/
theorem line_parts {z w0 w1 w2 a8 a7 a6 a5 a4 a3 a2 a1 : Str} {ns : List Str} (hws : Txt.split z spS = [w0, w1, w2] ++ ns ++ [a8, a7, a6, a5, a4, a3, a2, a1]) {o : OwnD} (hO : OwnOk o) :
    z = lineO o ↔ ([w0, w2] ++ [a8, a6, a4, a2] = dueW ∧ w1 = numT o.bits ∧ ns = o.names ∧ a7 = numT o.hidden ∧ a5 = numT o.alus ∧ a3 = numT o.moves ∧ a1 = numT o.cells) := by
  constructor
  · intro e
    rw [e, line_split hO] at hws
    unfold wordsO at hws
    obtain ⟨h1, h2⟩ := List.append_inj' hws rfl
    obtain ⟨h3, h4⟩ := List.append_inj h1 rfl
    simp only [List.cons.injEq, and_true] at h2 h3
    obtain ⟨b0, b1, b2⟩ := h3
    obtain ⟨c8, c7, c6, c5, c4, c3, c2, c1⟩ := h2
    rw [← b0, ← b2, ← c8, ← c6, ← c4, ← c2]
    exact ⟨rfl, b1.symm, h4.symm, c7.symm, c5.symm, c3.symm, c1.symm⟩
  · rintro ⟨h1, h2, h3, h4, h5, h6, h7⟩
    have e : wordsO o = Txt.split z spS := by
      rw [hws]
      unfold wordsO
      simp only [dueW, List.cons_append, List.nil_append, List.cons.injEq, and_true] at h1
      obtain ⟨b0, b1, b2, b3, b4, b5⟩ := h1
      rw [b0, b1, b2, b3, b4, b5, h2, h3, h4, h5, h6, h7]
    have j : Str.join ⟨#[32]⟩ (Txt.split z spS) = z := StrLaws.join_split z spS
    have j2 : lineO o = Str.join ⟨#[32]⟩ (wordsO o) := StrLaws.glued_eq_join ..
    rw [j2, e, j]
theorem line_inj {o o' : OwnD} (h : OwnOk o) (h' : OwnOk o') (e : lineO o = lineO o') : o = o' := by
  obtain ⟨w0, w1, w2, ns, a8, a7, a6, a5, a4, a3, a2, a1, ews⟩ := parts12 (ws := wordsO o) (by have := words_len h; omega)
  have hws := line_split h
  rw [ews] at hws
  obtain ⟨_, e1, e2, e3, e4, e5, e6⟩ := (line_parts hws h).mp rfl
  obtain ⟨_, g1, g2, g3, g4, g5, g6⟩ := (line_parts hws h').mp e
  obtain ⟨r1, r2, r3, r4, r5⟩ := own_rng h
  obtain ⟨q1, q2, q3, q4, q5⟩ := own_rng h'
  have inj : ∀ {n m : Int}, (0 ≤ n ∧ n ≤ 256) → (0 ≤ m ∧ m ≤ 256) → numT n = numT m → n = m := fun {n m} a b c => num_inj a.1 (by omega) c b.1 (by omega)
  cases o
  cases o'
  simp only at *
  rw [inj r1 q1 (e1.symm.trans g1), ← e2, g2, inj r2 q2 (e3.symm.trans g3), inj r3 q3 (e4.symm.trans g4), inj r4 q4 (e5.symm.trans g5), inj r5 q5 (e6.symm.trans g6)]
theorem numI_num {n : Int} (h0 : 0 ≤ n) (h1 : n ≤ 256) : numI (numT n) = n := by
  unfold numI
  rw [numO_num h0 (by omega)]
theorem numI_pos {z : Str} (h : 0 ≤ numI z) : z = numT (numI z) := by
  unfold numI at *
  cases e : numO z with
  | none => rw [e] at h; exact absurd h (by decide)
  | some n => exact (numO_some e).2.2
theorem met_len (xs : List Str) : (metS xs).length ≤ xs.length ∧ ((metS xs).length = xs.length → xs.Nodup) := by
  have le : ∀ (ys acc : List Str), (ys.foldl insS acc).length ≤ acc.length + ys.length := by
    intro ys
    induction ys with
    | nil => intro acc; exact Nat.le_refl _
    | cons y r ih =>
      intro acc
      rw [List.foldl_cons]
      have := ih (insS acc y)
      have e : (insS acc y).length ≤ acc.length + 1 := by
        unfold insS
        split
        · omega
        · rw [List.length_append, List.length_singleton]; omega
      rw [List.length_cons]
      omega
  refine ⟨by have := le xs []; rw [List.length_nil, Nat.zero_add] at this; exact this, fun h => ?_⟩
  have := nd_met xs [] List.nodup_nil (by rw [List.length_nil, Nat.zero_add]; exact h)
  exact this
def spLRead : Sp := fun vs H Q _ => ∃ z : Str, vs = [.str z] ∧ z.length ≤ 9000 ∧ (∀ o, OwnOk o → z = lineO o → ∀ (p : Addr) H', Same H H' → Tp H' (.ref p) (ownD o) → Q (.ref p) H') ∧ ((∀ o, OwnOk o → z ≠ lineO o) → ∀ H', Same H H' → Q .non H')
section
variable {P : Program} {w : World} {K : PySem.W.Frag} {mg : Str → Option Value} {base : Heap}
theorem scLIsName : FnScope NLN ["what"] (defScope sLIsName) := ⟨rfl, rfl, rfl, by decide +kernel, rfl, by decide +kernel, by decide +kernel⟩
theorem scNumL : FnScope NNL ["word"] (defScope sNumL) := ⟨rfl, rfl, rfl, by decide +kernel, rfl, by decide +kernel, by decide +kernel⟩
theorem scRL : FnScope NRL ["line"] (defScope sReadL) := ⟨rfl, rfl, rfl, by decide +kernel, rfl, by decide +kernel, by decide +kernel⟩
theorem ok_lIsName {f : Addr} {fd : FuncData} (F : Fun K "_law_is_name" "_law_is_name" sLIsName f fd) (B : Bl mg) : FnOk P w K mg base CX0 1 f fd ["what"] spLIsName := by
  refine F.ok scLIsName (fun vs H Q E h => ?_) (fun cdv A outer s H vs Q E hr1 h => ?_)
  · obtain ⟨v, k, d, rfl, _⟩ := h
    rfl
  · obtain ⟨v, k, d, rfl, hl, q⟩ := h
    refine ⟨_, pss_cons (ps_if (PW.pt (pw_or (pt_not (pt_val (pe_callB call_isStr (by rfl) B.isi (by decide +kernel) (pa_cons (pv 0) (pa_cons (pe_bltn (v := .ty "str") (by rfl) B.str (by decide +kernel) rfl) pa_nil))))) (pw_or (pt_cmpR op_lt (pe_callB call_len_str (by rfl) B.len PySem.boot_len (pa_cons (pv 0) pa_nil)) pe_int (nomark _)) (pw_or1 (pt_cmpR op_gt (pe_callB call_len_str (by rfl) B.len PySem.boot_len (pa_cons (pv 0) pa_nil)) pe_int (nomark _)))))) (pss_one (ps_ret pe_bl)) pss_nil) (pss_one (ps_ret (pe_cmpR (op_eqNil hr1.units) (pe_lc (own := [("sign", 1)]) (g := gName 1) (te := tVar 1) (by rfl) scLIsName.nd (pi_str (pv 0)) (blkOk_by (own := [("sign", 1)]) (N := NLN) (sc := defScope sLIsName) (by decide +kernel)) (fun _ _ _ _ _ => pg_name (i := 1) scLIsName.nd rfl (Or.inl rfl)) (fun _ _ _ _ _ => pts_one (PW.pt (pw_or (pt_cmpR op_lt_str (pv 1) pe_str (nomark _)) (pw_or1 (pt_cmpR op_gt_str (pv 1) pe_str (nomark _)))))) (fun _ _ _ _ _ => pv 1)) (pe_lst pa_nil) (nomark _)))), ?read⟩
    case read =>
      have no : nameD d = false → ∀ H', Same H H' → Q (.bl false) H' := fun e H' sm => by have := q H' sm; rw [e] at this; exact this
      refine ⟨_, rfl, v, k, d, rfl, hl, _, rfl, iteB (fun h1 => iteT ?_) (fun h1 => ?_)⟩
      · exact no (by cases d <;> first | rfl | cases h1) H fun _ _ e => e
      have h1 : isStrD d = true := by simpa using h1
      cases hl with
      | str x hx =>
        have hs : x.length ≤ sizeLine := Nat.le_trans hx (by decide)
        refine ⟨_, rfl, x, rfl, hs, _, _, rfl, rfl, _, rfl, iteB (fun h2 => iteT ?_) (fun h2 => ?_)⟩
        · refine no ?_ H fun _ _ e => e
          have : (x.length : Int) < 1 := by simpa using h2
          have : ¬ (1 ≤ x.length) := by omega
          simp [nameD, this]
        have h2 : 1 ≤ x.length := by
          have : ¬ ((x.length : Int) < 1) := by simpa using h2
          omega
        refine ⟨_, rfl, x, rfl, hs, _, _, rfl, rfl, _, rfl, iteB (fun h3 => ?_) (fun h3 => ?_)⟩
        · refine no ?_ H fun _ _ e => e
          have : (8 : Int) < x.length := by simpa using h3
          have : ¬ (x.length ≤ 8) := by omega
          simp [nameD, this]
        have h3 : x.length ≤ 8 := by
          have : ¬ ((8 : Int) < x.length) := by simpa using h3
          omega
        have hsz : x.cps.size ≤ 8 := h3
        refine ⟨_, rfl, x, rfl, fun D hD => ?_⟩
        refine lc_str (z := x) (fun i H2 => H2 D = some (.lst (((x.cps.toList.take i).filter badC).map oneV)) ∧ Same H H2) ⟨upd_same, same_new hD _⟩ (fun i c H2 hc z => ?_) (fun H2 z => ?_)
        · have hcl : x.cps.toList[i]? = some c := by rw [Array.getElem?_toList]; exact hc
          have tk : (x.cps.toList.take (i + 1)).filter badC = (x.cps.toList.take i).filter badC ++ (if badC c then [c] else []) := by
            rw [List.take_add_one, hcl, List.filter_append]
            cases hb : badC c <;> simp [hb]
          have yes : badC c = true → ∃ acc, H2 D = some (.lst acc) ∧ acc.length < sizeLine ∧ ((upd H2 D (.lst (acc ++ [oneV c]))) D = some (.lst (((x.cps.toList.take (i + 1)).filter badC).map oneV)) ∧ Same H (upd H2 D (.lst (acc ++ [oneV c])))) := fun hb => by
            refine ⟨_, z.1, ?_, ?_, ?_⟩
            · rw [List.length_map]
              have a1 := List.length_filter_le badC (x.cps.toList.take i)
              have a2 : (x.cps.toList.take i).length ≤ x.cps.toList.length := by rw [List.length_take]; omega
              have a3 : x.cps.toList.length = x.cps.size := Array.length_toList
              exact small1000 (by omega)
            · rw [upd_same, tk, if_pos hb, List.map_append]; rfl
            · intro b u ee
              by_cases hb : b = D
              · subst hb; rw [hD] at ee; cases ee
              · rw [upd_ne hb]; exact z.2 _ _ ee
          refine ⟨rfl, _, rfl, _, _, rfl, rfl, _, rfl, iteB (fun hb => iteT ⟨_, rfl, yes (by unfold badC; rw [hb]; rfl)⟩) (fun hb => ?_)⟩
          refine ⟨_, rfl, _, _, rfl, rfl, _, rfl, iteB (fun hb2 => ⟨_, rfl, yes (by unfold badC; rw [hb, hb2]; rfl)⟩) (fun hb2 => ?_)⟩
          have nb : badC c = false := by unfold badC; rw [hb, hb2]; rfl
          exact ⟨by rw [tk, nb]; simpa using z.1, z.2⟩
        · have z1 := z.1
          rw [← Array.length_toList, List.take_length] at z1
          refine ⟨(by show 0 ≤ sizeLine; decide), fun l hl => ?_⟩
          have sl := same_new hl (.lst [])
          refine ⟨D, l, _, rfl, rfl, SqL.of (sl _ _ z1), SqL.of upd_same, ?_⟩
          rw [good_empty]
          have := q _ (z.2.trans sl)
          have eq : nameD (.str x) = x.cps.toList.all okC := by simp [nameD, h2, h3]
          rw [eq] at this
          exact this
      | _ => cases h1
theorem ok_numL {f : Addr} {fd : FuncData} (F : Fun K "_law_number" "_law_number" sNumL f fd) (B : Bl mg) : FnOk P w K mg base CX0 1 f fd ["word"] spNumL := by
  refine F.ok scNumL (fun vs H Q E h => ?_) (fun cdv A outer s H vs Q E hr1 h => ?_)
  · obtain ⟨z, rfl, _⟩ := h
    rfl
  · obtain ⟨z, rfl, hz, q⟩ := h
    refine ⟨_, pss_cons (ps_if (PW.pt (pw_or (pt_cmpR op_eq (pv 0) pe_str (nomark _)) (pw_or (pt_cmpR op_gt (pe_callB call_len_str (by rfl) B.len PySem.boot_len (pa_cons (pv 0) pa_nil)) pe_int (nomark _)) (pw_or1 (pt_cmpR (op_neS hr1.units) (pe_lc (own := [("sign", 1)]) (g := (gName 1)) (te := (tVar 1)) (by rfl) scNumL.nd (pi_str (pv 0)) (blkOk_by (own := [("sign", 1)]) (N := NNL) (sc := defScope sNumL) (by decide +kernel)) (fun _ _ _ _ _ => (pg_name (i := 1) scNumL.nd rfl (Or.inl rfl))) (fun _ _ _ _ _ => (pts_one (PW.pt (pw_or (pt_cmpR op_lt_str (pv 1) pe_str (nomark _)) (pw_or1 (pt_cmpR op_gt_str (pv 1) pe_str (nomark _))))))) (fun _ _ _ _ _ => (pv 1))) (pe_lst pa_nil) (nomark _)))))) (pss_one (ps_ret (pe_un un_neg pe_int))) pss_nil) (pss_one (ps_ret (pe_ifExp (pt_cmpR op_eq (pv 0) (pe_callTy call_strV (by rfl) B.str (by decide +kernel) (pa_cons (pe_callTy call_int_str (by rfl) B.int (by decide +kernel) (pa_cons (pv 0) pa_nil)) pa_nil)) (nomark _)) (pe_callTy call_int_str (by rfl) B.int (by decide +kernel) (pa_cons (pv 0) pa_nil)) (pe_un un_neg pe_int)))), ?read⟩
    case read =>
      have hs : z.length ≤ sizeLine := Nat.le_trans hz (by decide)
      have no : numO z = none → Q (.int (-1)) H := fun h => by
        have := q H (fun _ _ e => e)
        unfold numI at this
        rw [h] at this
        exact this
      have noS : ∀ {H2 : Hp}, Same H H2 → numO z = none → Q (.int (-1)) H2 := fun {H2} sm h => by
        have := q H2 sm
        unfold numI at this
        rw [h] at this
        exact this
      have nope : ¬ (1 ≤ z.length ∧ z.length ≤ 9 ∧ z.cps.toList.all figC = true) → numO z = none := fun h => by
        unfold numO
        rw [if_neg fun ⟨a, b, c, _⟩ => h ⟨a, b, c⟩]
      refine ⟨_, rfl, rfl, _, rfl, iteB (fun h1 => iteT ⟨_, rfl, no (nope fun ⟨a, _⟩ => ?_)⟩) (fun h1 => ?_)⟩
      · have h1 := of_decide_eq_true h1
        injection h1 with h1
        rw [h1] at a
        exact absurd a (by decide)
      refine ⟨_, rfl, z, rfl, hs, _, _, rfl, rfl, _, rfl, iteB (fun h2 => iteT ⟨_, rfl, no (nope fun ⟨_, b, _⟩ => ?_)⟩) (fun h2 => ?_)⟩
      · have : (9 : Int) < z.length := by simpa using h2
        omega
      have h2 : z.length ≤ 9 := by
        have : ¬ ((9 : Int) < z.length) := by simpa using h2
        omega
      have h1 : 1 ≤ z.length := by
        have h1 := of_decide_eq_false h1
        by_cases e : z.length = 0
        · exfalso
          apply h1
          have : z = "" := str_ext (by
            have : z.cps.toList.length = 0 := (Array.length_toList).trans e
            rw [List.eq_nil_of_length_eq_zero this]
            rfl)
          rw [this]
        · omega
      have hsz : z.cps.size ≤ 9 := h2
      refine ⟨_, rfl, z, rfl, fun D hD => ?_⟩
      refine lc_str (z := z) (fun i H2 => H2 D = some (.lst ((((z.cps.toList.take i).filter badF).map oneS).map V.str)) ∧ Same H H2) ⟨upd_same, same_new hD _⟩ (fun i c H2 hc zz => ?_) (fun H2 zz => ?_)
      · have hcl : z.cps.toList[i]? = some c := by rw [Array.getElem?_toList]; exact hc
        have tk : (z.cps.toList.take (i + 1)).filter badF = (z.cps.toList.take i).filter badF ++ (if badF c then [c] else []) := by
          rw [List.take_add_one, hcl, List.filter_append]
          cases hb : badF c <;> simp [hb]
        have yes : badF c = true → ∃ acc, H2 D = some (.lst acc) ∧ acc.length < sizeLine ∧ ((upd H2 D (.lst (acc ++ [V.str ⟨#[c]⟩]))) D = some (.lst ((((z.cps.toList.take (i + 1)).filter badF).map oneS).map V.str)) ∧ Same H (upd H2 D (.lst (acc ++ [V.str ⟨#[c]⟩])))) := fun hb => by
          refine ⟨_, zz.1, ?_, ?_, ?_⟩
          · rw [List.length_map, List.length_map]
            have a1 := List.length_filter_le badF (z.cps.toList.take i)
            have a2 : (z.cps.toList.take i).length ≤ z.cps.toList.length := by rw [List.length_take]; omega
            have a3 : z.cps.toList.length = z.cps.size := Array.length_toList
            exact small1000 (by omega)
          · rw [upd_same, tk, if_pos hb, List.map_append, List.map_append]; rfl
          · intro b u ee
            by_cases hb : b = D
            · subst hb; rw [hD] at ee; cases ee
            · rw [upd_ne hb]; exact zz.2 _ _ ee
        refine ⟨rfl, _, rfl, _, _, rfl, rfl, _, rfl, iteB (fun hb => iteT ⟨_, rfl, yes (by unfold badF; rw [hb]; rfl)⟩) (fun hb => ?_)⟩
        refine ⟨_, rfl, _, _, rfl, rfl, _, rfl, iteB (fun hb2 => ⟨_, rfl, yes (by unfold badF; rw [hb, hb2]; rfl)⟩) (fun hb2 => ?_)⟩
        have nb : badF c = false := by unfold badF; rw [hb, hb2]; rfl
        exact ⟨by rw [tk, nb]; simpa using zz.1, zz.2⟩
      · have z1 := zz.1
        rw [← Array.length_toList, List.take_length] at z1
        refine ⟨(by show 0 ≤ sizeLine; decide), fun l hl => ?_⟩
        have sl := same_new hl (.lst [])
        have s2 := zz.2.trans sl
        refine ⟨D, l, _, [], rfl, rfl, SqL.of (sl _ _ z1), SqL.of upd_same, _, rfl, iteB (fun h3 => ⟨_, rfl, noS s2 (nope fun ⟨_, _, c⟩ => ?_)⟩) (fun h3 => ?_)⟩
        · rw [(good_fig _).mpr c] at h3
          exact absurd h3 (by simp)
        have h3 : z.cps.toList.all figC = true := (good_fig _).mp (by simpa using h3)
        have dg := figs_iff.mp h3
        have hne : z.cps.toList ≠ [] := fun e => by
          have : z.cps.toList.length = z.length := Array.length_toList
          rw [e] at this
          have : 0 = z.length := this
          omega
        have hi := int_of dg hne h2
        have lt : NumText.digitsVal z.cps.toList < 10 ^ 9 := by
          have := val_lt _ _ rfl dg
          have hl : z.cps.toList.length = z.length := Array.length_toList
          have := Nat.pow_le_pow_right (n := 10) (by decide) (show z.cps.toList.length ≤ 9 by omega)
          omega
        generalize NumText.digitsVal z.cps.toList = m at hi lt
        refine ⟨_, rfl, _, rfl, z, _, rfl, hi, Nat.le_trans h2 (by decide), _, _, rfl, ⟨log9 (by omega) (by omega), rfl⟩, rfl, _, rfl, iteB (fun h4 => ?_) (fun h4 => ?_)⟩
        · have h4 := of_decide_eq_true h4
          injection h4 with h4
          refine ⟨_, rfl, z, _, rfl, hi, Nat.le_trans h2 (by decide), ?_⟩
          have := q _ s2
          unfold numI at this
          rw [numO_iff.mpr ⟨by omega, by omega, h4⟩] at this
          exact this
        · refine ⟨_, rfl, noS s2 ?_⟩
          cases hn : numO z with
          | none => rfl
          | some n =>
            obtain ⟨a, b, c⟩ := numO_some hn
            rw [c, PySem.W.KIN.num_reads a (by omega)] at hi
            have := Option.some.inj hi
            rw [this] at c
            have h4 := of_decide_eq_false h4
            exact absurd (by rw [c]) h4
theorem ok_lRead {f : Addr} {fd : FuncData} (F : Fun K "_law_read" "_law_read" sReadL f fd) (dN : Df K mg "_law_number" sNumL ["word"]) (dI : Df K mg "_law_is_name" sLIsName ["what"]) (B : Bl mg) : FnOk P w K mg base CX0 2 f fd ["line"] spLRead := by
  have GN : FnOk P w K mg base CX0 1 dN.f dN.fd ["word"] spNumL := ok_numL dN.F B
  have GI : FnOk P w K mg base CX0 1 dI.f dI.fd ["what"] spLIsName := ok_lIsName dI.F B
  refine F.ok scRL (fun vs H Q E h => ?_) (fun cdv A outer s H vs Q E hr1 h => ?_)
  · obtain ⟨z, rfl, _⟩ := h
    rfl
  · obtain ⟨z, rfl, hz, q1, q2⟩ := h
    refine ⟨_, pss_cons (ps_set (i := 1) scRL.nd rfl (Or.inl rfl) (pe_split (pv 0) pe_str)) (pss_cons (ps_set (i := 2) scRL.nd rfl (Or.inl rfl) (pe_lst (pa_cons pe_str (pa_cons pe_str (pa_cons pe_str (pa_cons pe_str (pa_cons pe_str (pa_cons pe_str pa_nil)))))))) (pss_cons (ps_if (PW.pt (pw_or (pt_cmpR op_lt (pe_callB call_len_seq (by rfl) B.len PySem.boot_len (pa_cons (pv 1) pa_nil)) pe_int (nomark _)) (pw_or1 (pt_cmpR (op_neS hr1.units) (pe_op op_cat (pe_lst (pa_cons (pe_ix ix_list (pv 1) pe_int (fun _ _ => rfl)) (pa_cons (pe_ix ix_list (pv 1) pe_int (fun _ _ => rfl)) pa_nil))) (pe_step2 (pv 1) (pe_un un_neg pe_int) pe_int)) (pv 2) (nomark _))))) (pss_one (ps_ret pe_non)) pss_nil) (pss_cons (ps_set (i := 3) scRL.nd rfl (Or.inl rfl) (pe_slice sl_list (pv 1) (po_some pe_int) (po_some (pe_un un_neg pe_int)))) (pss_cons (ps_asg (pe_lc (own := [("word", 4)]) (g := (gName 4)) (te := (tCall spNumL [] E0 (tCons (tVar 4) tNil))) (by rfl) scRL.nd (pi_list (pe_op op_cat (pe_lst (pa_cons (pe_ix ix_list (pv 1) pe_int (fun _ _ => rfl)) pa_nil)) (pe_step2 (pv 1) (pe_un un_neg pe_int) pe_int))) (blkOk_by (own := [("word", 4)]) (N := NRL) (sc := defScope sReadL) (by decide +kernel)) (fun _ _ _ _ _ => (pg_name (i := 4) scRL.nd rfl (Or.inl rfl))) (fun _ _ _ _ _ => pts_nil) (fun _ _ _ _ _ => (pe_call GN hr1 rfl dN.m dN.F.kp dN.b .nil pass0 (pa_cons (pv 4) pa_nil)))) (pg_lst (by rfl) (pgs_cons (pg_name (i := 5) scRL.nd rfl (Or.inl rfl)) (pgs_cons (pg_name (i := 6) scRL.nd rfl (Or.inl rfl)) (pgs_cons (pg_name (i := 7) scRL.nd rfl (Or.inl rfl)) (pgs_cons (pg_name (i := 8) scRL.nd rfl (Or.inl rfl)) (pgs_cons (pg_name (i := 9) scRL.nd rfl (Or.inl rfl)) pgs_nil))))))) (pss_cons (ps_if (PW.pt (pw_or (pt_cmpR op_lt (pv 5) pe_int (nomark _)) (pw_or (pt_cmpR op_gt (pv 5) pe_int (nomark _)) (pw_or (pt_cmpR op_gt (pe_callB call_len_seq (by rfl) B.len PySem.boot_len (pa_cons (pv 3) pa_nil)) pe_int (nomark _)) (pw_or1 (pt_cmpR op_lt (pe_callB call_lenSS (by rfl) B.len PySem.boot_len (pa_cons (pe_callTy (call_setSL rfl) (by rfl) B.set (by decide +kernel) (pa_cons (pv 3) pa_nil)) pa_nil)) (pe_callB call_len_seq (by rfl) B.len PySem.boot_len (pa_cons (pv 3) pa_nil)) (nomark _))))))) (pss_one (ps_ret pe_non)) pss_nil) (pss_cons (ps_if (PW.pt (pw_or (pt_not (pt_val (pe_callB (cr_all rfl) (by rfl) B.all (by decide +kernel) (pa_cons (pe_lc (own := [("name", 10)]) (g := (gName 10)) (te := (tCall spLIsName [] E0 (tCons (tVar 10) tNil))) (by rfl) scRL.nd (pi_list (pv 3)) (blkOk_by (own := [("name", 10)]) (N := NRL) (sc := defScope sReadL) (by decide +kernel)) (fun _ _ _ _ _ => (pg_name (i := 10) scRL.nd rfl (Or.inl rfl))) (fun _ _ _ _ _ => pts_nil) (fun _ _ _ _ _ => (pe_call GI hr1 rfl dI.m dI.F.kp dI.b .nil pass0 (pa_cons (pv 10) pa_nil)))) pa_nil)))) (pw_or (pt_cmpR op_lt (pv 6) pe_int (nomark _)) (pw_or1 (pt_cmpR op_gt (pv 6) pe_int (nomark _)))))) (pss_one (ps_ret pe_non)) pss_nil) (pss_cons (ps_if (PW.pt (pw_or (pt_cmpR op_lt (pv 9) pe_int (nomark _)) (pw_or1 (pt_cmpR op_gt (pv 9) (pe_op op_shl pe_int (pv 5)) (nomark _))))) (pss_one (ps_ret pe_non)) pss_nil) (pss_cons (ps_if (PW.pt (pw_or (pt_cmpR op_lt (pv 7) pe_int (nomark _)) (pw_or (pt_cmpR op_gt (pv 7) pe_int (nomark _)) (pw_or (pt_cmpR op_lt (pv 8) pe_int (nomark _)) (pw_or1 (pt_cmpR op_gt (pv 8) pe_int (nomark _))))))) (pss_one (ps_ret pe_non)) pss_nil) (pss_one (ps_ret (pe_tup (pa_cons (pv 5) (pa_cons (pe_callTy call_tuple_of (by rfl) B.tup (by decide +kernel) (pa_cons (pv 3) pa_nil)) (pa_cons (pv 6) (pa_cons (pv 7) (pa_cons (pv 8) (pa_cons (pv 9) pa_nil))))))))))))))))), ?read⟩
    case read =>
      have hzl : z.length + 2 ≤ sizeLine := Nat.le_trans (by omega : z.length + 2 ≤ 9002) (by decide)
      have wb : ∀ x ∈ Txt.split z spS, x.length ≤ 10000 := fun x hx => Nat.le_trans (split_mem hx) (by omega)
      have wl : (Txt.split z spS).length ≤ 9001 := by have := split_sumN z; omega
      generalize hws : Txt.split z spS = ws at wb wl
      refine seq_cut (fun σ' H' => ∃ L : Addr, σ' = [some (.str z), some (.ref L), none, none, none, none, none, none, none, none, none] ∧ H' L = some (.lst (ws.map V.str)) ∧ Same H H') (fun nx imp => ?_) ?_
      · exact ⟨_, rfl, ⟨_, rfl⟩, z, spS, rfl, rfl, rfl, hzl, fun L hL => imp _ _ ⟨L, rfl, by rw [upd_same, hws], same_new hL _⟩⟩
      rintro σ H1 ⟨L, rfl, hL1, s1⟩
      refine seq_cut (fun σ' H' => ∃ U : Addr, σ' = [some (.str z), some (.ref L), some (.ref U), none, none, none, none, none, none, none, none] ∧ H' U = some (.lst (dueW.map V.str)) ∧ H' L = some (.lst (ws.map V.str)) ∧ Same H H') (fun nx imp => ?_) ?_
      · exact ⟨(by show 6 ≤ sizeLine; decide), fun U hU => imp _ _ ⟨U, rfl, upd_same, same_new hU _ _ _ hL1, s1.trans (same_new hU _)⟩⟩
      rintro σ H2 ⟨U, rfl, hU2, hL2, s2⟩
      have small : (¬ 12 ≤ ws.length) → ∀ o, OwnOk o → z ≠ lineO o := fun h o hO e => by
        rw [e, line_split hO] at hws
        have := words_len hO
        rw [hws] at this
        omega
      by_cases h12 : 12 ≤ ws.length
      case neg =>
        refine ⟨_, rfl, L, _, rfl, .inl (SqL.of hL2), _, _, rfl, rfl, _, rfl, iteB (fun _ => iteT (q2 (small h12) _ s2)) (fun h => ?_)⟩
        have := of_decide_eq_false h
        rw [List.length_map] at this
        omega
      obtain ⟨w0, w1, w2, ns, a8, a7, a6, a5, a4, a3, a2, a1, ews⟩ := parts12 (ws := ws) (by omega)
      have nl : ns.length = ws.length - 11 := by
        rw [ews, List.length_append, List.length_append]
        show _ = 3 + ns.length + 8 - 11
        omega
      rw [ews] at hws
      have LP := fun {o : OwnD} (hO : OwnOk o) => line_parts hws hO
      have em : ws.map V.str = [V.str w0, V.str w1, V.str w2] ++ ns.map V.str ++ [V.str a8, V.str a7, V.str a6, V.str a5, V.str a4, V.str a3, V.str a2, V.str a1] := by
        rw [ews, List.map_append, List.map_append]
        rfl
      have wb' : ∀ x ∈ [w0, w1, w2] ++ ns ++ [a8, a7, a6, a5, a4, a3, a2, a1], x.length ≤ 10000 := fun x hx => wb x (ews ▸ hx)
      have at0 : atI (ws.map V.str) 0 = some (.str w0) := by rw [em]; exact at_of (j := 0) rfl rfl
      have at1 : atI (ws.map V.str) 1 = some (.str w1) := by rw [em]; exact at_of (j := 1) rfl rfl
      have at2 : atI (ws.map V.str) 2 = some (.str w2) := by rw [em]; exact at_of (j := 2) rfl rfl
      have st8 : stepV (ws.map V.str) (-8) 2 = [a8, a6, a4, a2].map V.str := by rw [em]; exact step_tail rfl 0 2 rfl (.inr rfl)
      have st7 : stepV (ws.map V.str) (-7) 2 = [a7, a5, a3, a1].map V.str := by rw [em]; exact step_tail rfl 1 1 rfl (.inl rfl)
      have hcut : cutV (ws.map V.str) (some 3) (some (-8)) = ns.map V.str := by rw [em]; exact cut_mid rfl
      -- the words that are fixed
      refine seq_cut (fun σ' H' => σ' = [some (.str z), some (.ref L), some (.ref U), none, none, none, none, none, none, none, none] ∧ H' L = some (.lst (ws.map V.str)) ∧ Same H H' ∧ [w0, w2] ++ [a8, a6, a4, a2] = dueW) (fun nx imp => ?_) ?_
      · refine ⟨_, rfl, L, _, rfl, .inl (SqL.of hL2), _, _, rfl, rfl, _, rfl, iteB (fun h => ?_) (fun _ => ?_)⟩
        · have := of_decide_eq_true h
          rw [List.length_map] at this
          omega
        refine ⟨_, rfl, L, _, _, _, rfl, rfl, SqL.of hL2, at0, _, rfl, L, _, _, _, rfl, rfl, SqL.of hL2, at2, (by show 2 ≤ sizeLine; decide), fun p1 h1 => ?_⟩
        have t1 := same_new h1 (.lst [V.str w0, V.str w2])
        refine ⟨_, rfl, _, rfl, L, _, -8, 2, rfl, rfl, rfl, by decide, SqL.of (t1 _ _ hL2), (by rw [st8]; show 4 ≤ sizeLine; decide), fun p2 h2 => ?_⟩
        rw [st8]
        have t2 := t1.trans (same_new h2 (.lst ([a8, a6, a4, a2].map V.str)))
        refine ⟨p1, p2, _, _, rfl, rfl, same_new h2 _ _ _ upd_same, upd_same, (by show 2 + 4 ≤ sizeLine; decide), fun p3 h3 => ?_⟩
        have t3 := t2.trans (same_new h3 (.lst ([V.str w0, V.str w2] ++ [a8, a6, a4, a2].map V.str)))
        refine ⟨_, rfl, p3, U, [w0, w2] ++ [a8, a6, a4, a2], dueW, rfl, rfl, SqL.of upd_same, SqL.of (t3 _ _ hU2), _, rfl, iteB (fun h => q2 (fun o hO e => ?_) _ (s2.trans t3)) (fun h => imp _ _ ⟨rfl, t3 _ _ hL2, s2.trans t3, by simpa using h⟩)⟩
        rw [((LP hO).mp e).1] at h
        exact absurd h (by simp)
      clear hU2 hL2 s2
      rintro σ H3 ⟨rfl, hL3, s3, hdue⟩
      refine seq_cut (fun σ' H' => ∃ N : Addr, σ' = [some (.str z), some (.ref L), some (.ref U), some (.ref N), none, none, none, none, none, none, none] ∧ H' N = some (.lst (ns.map V.str)) ∧ H' L = some (.lst (ws.map V.str)) ∧ Same H H') (fun nx imp => ?_) ?_
      · refine ⟨_, rfl, _, rfl, _, rfl, _, rfl, L, _, rfl, SqL.of hL3, fun N hN => ?_⟩
        rw [hcut]
        exact imp _ _ ⟨N, rfl, upd_same, same_new hN _ _ _ hL3, s3.trans (same_new hN _)⟩
      rintro σ H4 ⟨N, rfl, hN4, hL4, s4⟩
      -- the numbers
      refine seq_cut (fun σ' H' => ∃ v4, σ' = [some (.str z), some (.ref L), some (.ref U), some (.ref N), v4, some (.int (numI w1)), some (.int (numI a7)), some (.int (numI a5)), some (.int (numI a3)), some (.int (numI a1)), none] ∧ H' N = some (.lst (ns.map V.str)) ∧ Same H H') (fun nx imp => ?_) ?_
      · refine ⟨_, rfl, L, _, _, _, rfl, rfl, SqL.of hL4, at1, (by show 1 ≤ sizeLine; decide), fun p1 h1 => ?_⟩
        have t1 := same_new h1 (.lst [V.str w1])
        refine ⟨_, rfl, _, rfl, L, _, -7, 2, rfl, rfl, rfl, by decide, SqL.of (t1 _ _ hL4), (by rw [st7]; show 4 ≤ sizeLine; decide), fun p2 h2 => ?_⟩
        rw [st7]
        have t2 := t1.trans (same_new h2 (.lst ([a7, a5, a3, a1].map V.str)))
        refine ⟨p1, p2, _, _, rfl, rfl, same_new h2 _ _ _ upd_same, upd_same, (by show 1 + 4 ≤ sizeLine; decide), fun p3 h3 => ?_⟩
        have t3 := t2.trans (same_new h3 (.lst ([V.str w1] ++ [a7, a5, a3, a1].map V.str)))
        refine ⟨p3, rfl, ⟨_, SqL.of upd_same⟩, fun D hD => ?_⟩
        have t4 := t3.trans (same_new hD (.lst []))
        refine lc_list (K := K) (a := p3) (xs := ([w1, a7, a5, a3, a1] : List Str).map V.str) (fun i H5 => H5 D = some (.lst ((([w1, a7, a5, a3, a1] : List Str).take i).map fun x => V.int (numI x))) ∧ H5 p3 = some (.lst (([w1, a7, a5, a3, a1] : List Str).map V.str)) ∧ (∀ b o, H4 b = some o → H5 b = some o)) ⟨upd_same, same_new hD _ _ _ upd_same, t4⟩ (fun i H5 _ zz => SqL.of zz.2.1) (fun i x H5 hx zz => ?_) (fun H5 zz => ?_)
        · obtain ⟨z1, z2, z3⟩ := zz
          rw [List.getElem?_map] at hx
          obtain ⟨y, hy, rfl⟩ := Option.map_eq_some_iff.mp hx
          have hi : i < 5 := (List.getElem?_eq_some_iff.mp hy).1
          have hyl : y.length ≤ 10000 := wb' y (by
            have := List.mem_of_getElem? hy
            simp only [List.mem_cons, List.mem_nil_iff, or_false] at this
            rcases this with rfl | rfl | rfl | rfl | rfl <;> simp)
          refine ⟨rfl, _, rfl, y, rfl, hyl, fun H6 s6 => ?_⟩
          have nDp : p3 ≠ D := ne_of_none upd_same hD
          refine ⟨_, s6 _ _ z1, ?_, ?_, ?_, ?_⟩
          · rw [List.length_map, List.length_take]
            exact small1000 (by omega)
          · rw [upd_same, List.take_add_one, hy, List.map_append]
            rfl
          · rw [upd_ne nDp]
            exact s6 _ _ z2
          · intro b u ee
            rw [upd_ne (ne_of_none ee (Same.free t3 hD))]
            exact s6 _ _ (z3 _ _ ee)
        · obtain ⟨z1, z2, z3⟩ := zz
          exact ⟨D, _, rfl, SqL.of z1, rfl, _, _, rfl, _, _, rfl, _, _, rfl, _, _, rfl, _, _, rfl, rfl, imp _ _ ⟨_, rfl, z3 _ _ hN4, s4.trans z3⟩⟩
      rintro σ H5 ⟨v4, rfl, hN5, s5⟩
      -- what the numbers of a machine are
      have R := fun {o : OwnD} (hO : OwnOk o) => own_rng hO
      have fact : ∀ o, OwnOk o → z = lineO o → numI w1 = o.bits ∧ ns = o.names ∧ numI a7 = o.hidden ∧ numI a5 = o.alus ∧ numI a3 = o.moves ∧ numI a1 = o.cells := fun o hO e => by
        obtain ⟨_, e1, e2, e3, e4, e5, e6⟩ := (LP hO).mp e
        obtain ⟨r1, r2, r3, r4, r5⟩ := own_rng hO
        rw [e1, e3, e4, e5, e6]
        exact ⟨numI_num r1.1 r1.2, e2, numI_num r2.1 r2.2, numI_num r3.1 r3.2, numI_num r4.1 r4.2, numI_num r5.1 r5.2⟩
      have nsl : ns.length ≤ 9001 := by omega
      -- bits, names
      refine seq_cut (fun σ' H' => σ' = [some (.str z), some (.ref L), some (.ref U), some (.ref N), v4, some (.int (numI w1)), some (.int (numI a7)), some (.int (numI a5)), some (.int (numI a3)), some (.int (numI a1)), none] ∧ H' N = some (.lst (ns.map V.str)) ∧ Same H H' ∧ 1 ≤ numI w1 ∧ numI w1 ≤ 8 ∧ ns.length ≤ 6 ∧ ns.Nodup) (fun nx imp => ?_) ?_
      · have hb : ∀ o, OwnOk o → z = lineO o → 1 ≤ numI w1 ∧ numI w1 ≤ 8 ∧ ns.length ≤ 6 ∧ ns.Nodup := fun o hO e => by
          obtain ⟨f1, f2, _⟩ := fact o hO e
          obtain ⟨m, hN, m1, m2⟩ := hO.names
          rw [f1, f2]
          exact ⟨hO.bits.1, hO.bits.2, by have := hN.len; omega, hN.nd⟩
        refine ⟨_, rfl, _, _, rfl, rfl, _, rfl, iteB (fun h => iteT (q2 (fun o hO e => ?_) _ s5)) (fun g1 => ?_)⟩
        · have := of_decide_eq_true h
          have := hb o hO e
          omega
        refine ⟨_, rfl, _, _, rfl, rfl, _, rfl, iteB (fun h => iteT (q2 (fun o hO e => ?_) _ s5)) (fun g2 => ?_)⟩
        · have := of_decide_eq_true h
          have := hb o hO e
          omega
        refine ⟨_, rfl, N, _, rfl, .inl (SqL.of hN5), _, _, rfl, rfl, _, rfl, iteB (fun h => iteT (q2 (fun o hO e => ?_) _ s5)) (fun g3 => ?_)⟩
        · have h := of_decide_eq_true h
          rw [List.length_map] at h
          have := hb o hO e
          omega
        have g1 := of_decide_eq_false g1
        have g2 := of_decide_eq_false g2
        have g3 := of_decide_eq_false g3
        rw [List.length_map] at g3
        obtain ⟨ml, mn⟩ := met_len ns
        refine ⟨_, rfl, N, ns, rfl, SqL.of hN5, by omega, fun p hp => ?_⟩
        have sp := same_new hp (setOS p (metS ns).length)
        refine ⟨p, _, rfl, upd_same, by omega, _, rfl, N, _, rfl, .inl (SqL.of (sp _ _ hN5)), _, _, rfl, rfl, _, rfl, iteB (fun h => q2 (fun o hO e => ?_) _ (s5.trans sp)) (fun g4 => imp _ _ ⟨rfl, sp _ _ hN5, s5.trans sp, by omega, by omega, by omega, mn ?_⟩)⟩
        · have h := of_decide_eq_true h
          rw [List.length_map] at h
          have nd := (hb o hO e).2.2.2
          have e2 : metS ns = ns := met_nd nd fun x _ z => nomatch z
          rw [e2] at h
          omega
        · have g4 := of_decide_eq_false g4
          rw [List.length_map] at g4
          omega
      clear hN5 s5
      rintro σ H5 ⟨rfl, hN5, s5, b1, b2, n6, nnd⟩
      -- the names one by one
      refine seq_cut (fun σ' H' => ∃ v10, σ' = [some (.str z), some (.ref L), some (.ref U), some (.ref N), v4, some (.int (numI w1)), some (.int (numI a7)), some (.int (numI a5)), some (.int (numI a3)), some (.int (numI a1)), v10] ∧ H' N = some (.lst (ns.map V.str)) ∧ Same H H' ∧ (∀ x ∈ ns, IsName x) ∧ 0 ≤ numI a7 ∧ numI a7 ≤ 12) (fun nx imp => ?_) ?_
      · refine ⟨_, rfl, N, rfl, ⟨_, SqL.of hN5⟩, fun D hD => ?_⟩
        refine lc_list (K := K) (a := N) (xs := ns.map V.str) (fun i H6 => H6 D = some (.lst ((ns.take i).map fun x => V.bl (nameD (.str x)))) ∧ H6 N = some (.lst (ns.map V.str)) ∧ Same H5 H6) ⟨upd_same, same_new hD _ _ _ hN5, same_new hD _⟩ (fun i H6 _ zz => SqL.of zz.2.1) (fun i x H6 hx zz => ?_) (fun H6 zz => ?_)
        · obtain ⟨z1, z2, z3⟩ := zz
          rw [List.getElem?_map] at hx
          obtain ⟨y, hy, rfl⟩ := Option.map_eq_some_iff.mp hx
          have hyl : y.length ≤ 10000 := wb' y (List.mem_append_left _ (List.mem_append_right _ (List.mem_of_getElem? hy)))
          refine ⟨rfl, _, rfl, .str y, 0, .str y, rfl, .str y hyl, fun H7 s7 => ?_⟩
          have nDN : N ≠ D := ne_of_none hN5 hD
          refine ⟨_, s7 _ _ z1, ?_, ?_, ?_, ?_⟩
          · rw [List.length_map, List.length_take]
            exact small1000 (by omega)
          · rw [upd_same, List.take_add_one, hy, List.map_append]
            rfl
          · rw [upd_ne nDN]
            exact s7 _ _ z2
          · intro b u ee
            rw [upd_ne (ne_of_none ee hD)]
            exact s7 _ _ (z3 _ _ ee)
        · obtain ⟨z1, z2, z3⟩ := zz
          rw [List.length_map, List.take_length] at z1
          have s6 := s5.trans z3
          have e1 : (ns.map fun x => V.bl (nameD (.str x))) = (ns.map fun x => nameD (.str x)).map V.bl := by rw [List.map_map]; rfl
          rw [e1] at z1
          have hb : ∀ o, OwnOk o → z = lineO o → (∀ x ∈ ns, nameD (.str x) = true) ∧ 0 ≤ numI a7 ∧ numI a7 ≤ 12 := fun o hO e => by
            obtain ⟨f1, f2, f3, _⟩ := fact o hO e
            obtain ⟨m, hN, m1, m2⟩ := hO.names
            rw [f2, f3]
            exact ⟨fun x hx => name_d (hN.all x hx), hO.hidden.1, hO.hidden.2⟩
          refine ⟨D, _, rfl, SqL.of z1, _, rfl, iteB (fun h => iteT (q2 (fun o hO e => ?_) _ s6)) (fun g1 => ?_)⟩
          · have h1 := (hb o hO e).1
            have : (ns.map fun x => nameD (.str x)).all id = true := List.all_eq_true.mpr fun y hy => by
              obtain ⟨x, hx, rfl⟩ := List.mem_map.mp hy
              exact h1 x hx
            rw [this] at h
            cases h
          have g1 : (ns.map fun x => nameD (.str x)).all id = true := by simpa using g1
          refine ⟨_, rfl, _, _, rfl, rfl, _, rfl, iteB (fun h => iteT (q2 (fun o hO e => ?_) _ s6)) (fun g2 => ?_)⟩
          · have := of_decide_eq_true h
            have := hb o hO e
            omega
          refine ⟨_, rfl, _, _, rfl, rfl, _, rfl, iteB (fun h => q2 (fun o hO e => ?_) _ s6) (fun g3 => imp _ _ ⟨_, rfl, z2, s6, fun x hx => ?_, ?_, ?_⟩)⟩
          · have := of_decide_eq_true h
            have := hb o hO e
            omega
          · have := List.all_eq_true.mp g1 _ (List.mem_map.mpr ⟨x, hx, rfl⟩)
            have this : (decide (1 ≤ x.length) && decide (x.length ≤ 8) && x.cps.toList.all okC) = true := this
            simp only [Bool.and_eq_true] at this
            exact IsName.mk (of_decide_eq_true this.1.1) (of_decide_eq_true this.1.2) fun c hc => okC_rng (List.all_eq_true.mp this.2 c hc)
          · have := of_decide_eq_false g2
            omega
          · have := of_decide_eq_false g3
            omega
      clear hN5 s5 H5
      rintro σ H5 ⟨v10, rfl, hN5, s5, nall, h0, h12'⟩
      have hsh : (1 : Int) * 2 ^ (numI w1).toNat = 2 ^ (numI w1).toNat := Int.one_mul _
      refine seq_cut (fun σ' H' => σ' = [some (.str z), some (.ref L), some (.ref U), some (.ref N), v4, some (.int (numI w1)), some (.int (numI a7)), some (.int (numI a5)), some (.int (numI a3)), some (.int (numI a1)), v10] ∧ H' = H5 ∧ 0 ≤ numI a1 ∧ numI a1 ≤ 2 ^ (numI w1).toNat) (fun nx imp => ?_) ?_
      · have hb : ∀ o, OwnOk o → z = lineO o → 0 ≤ numI a1 ∧ numI a1 ≤ 2 ^ (numI w1).toNat := fun o hO e => by
          obtain ⟨f1, _, _, _, _, f6⟩ := fact o hO e
          rw [f1, f6]
          exact hO.cells
        refine ⟨_, rfl, _, _, rfl, rfl, _, rfl, iteB (fun h => iteT (q2 (fun o hO e => ?_) _ s5)) (fun g1 => ?_)⟩
        · have := of_decide_eq_true h
          have := hb o hO e
          omega
        refine ⟨_, rfl, _, rfl, _, _, rfl, rfl, ⟨by omega, by omega, by decide⟩, _, _, rfl, rfl, _, rfl, iteB (fun h => q2 (fun o hO e => ?_) _ s5) (fun g2 => imp _ _ ⟨rfl, rfl, ?_, ?_⟩)⟩
        · have h := of_decide_eq_true h
          rw [hsh] at h
          have := (hb o hO e).2
          omega
        · have := of_decide_eq_false g1
          omega
        · have g2 := of_decide_eq_false g2
          rw [hsh] at g2
          omega
      rintro σ Hx ⟨rfl, ex, c0, c1⟩
      rw [ex]
      clear ex Hx
      refine seq_cut (fun σ' H' => σ' = [some (.str z), some (.ref L), some (.ref U), some (.ref N), v4, some (.int (numI w1)), some (.int (numI a7)), some (.int (numI a5)), some (.int (numI a3)), some (.int (numI a1)), v10] ∧ H' = H5 ∧ 1 ≤ numI a5 ∧ numI a5 ≤ 3 ∧ 1 ≤ numI a3 ∧ numI a3 ≤ 3) (fun nx imp => ?_) ?_
      · have hb : ∀ o, OwnOk o → z = lineO o → 1 ≤ numI a5 ∧ numI a5 ≤ 3 ∧ 1 ≤ numI a3 ∧ numI a3 ≤ 3 := fun o hO e => by
          obtain ⟨_, _, _, f4, f5, _⟩ := fact o hO e
          rw [f4, f5]
          exact ⟨hO.alus.1, hO.alus.2, hO.moves.1, hO.moves.2⟩
        refine ⟨_, rfl, _, _, rfl, rfl, _, rfl, iteB (fun h => iteT (q2 (fun o hO e => ?_) _ s5)) (fun g1 => ?_)⟩
        · have := of_decide_eq_true h
          have := hb o hO e
          omega
        refine ⟨_, rfl, _, _, rfl, rfl, _, rfl, iteB (fun h => iteT (q2 (fun o hO e => ?_) _ s5)) (fun g2 => ?_)⟩
        · have := of_decide_eq_true h
          have := hb o hO e
          omega
        refine ⟨_, rfl, _, _, rfl, rfl, _, rfl, iteB (fun h => iteT (q2 (fun o hO e => ?_) _ s5)) (fun g3 => ?_)⟩
        · have := of_decide_eq_true h
          have := hb o hO e
          omega
        refine ⟨_, rfl, _, _, rfl, rfl, _, rfl, iteB (fun h => q2 (fun o hO e => ?_) _ s5) (fun g4 => imp _ _ ⟨rfl, rfl, ?_⟩)⟩
        · have := of_decide_eq_true h
          have := hb o hO e
          omega
        · have g1 := of_decide_eq_false g1
          have g2 := of_decide_eq_false g2
          have g3 := of_decide_eq_false g3
          have g4 := of_decide_eq_false g4
          omega
      rintro σ Hx ⟨rfl, ex, d1, d2, d3, d4⟩
      rw [ex]
      clear ex Hx
      have hO : OwnOk ⟨numI w1, ns, numI a7, numI a5, numI a3, numI a1⟩ := ⟨⟨b1, b2⟩, ⟨ns.length, ⟨rfl, nnd, nall⟩, by omega, n6⟩, ⟨h0, h12'⟩, ⟨d1, d2⟩, ⟨d3, d4⟩, ⟨c0, c1⟩⟩
      have hz : z = lineO ⟨numI w1, ns, numI a7, numI a5, numI a3, numI a1⟩ := (LP hO).mpr ⟨hdue, numI_pos (by omega), rfl, numI_pos h0, numI_pos (by omega), numI_pos (by omega), numI_pos c0⟩
      refine ⟨_, rfl, _, rfl, N, _, rfl, .inl ⟨SqL.of hN5, fun t ht => ?_⟩⟩
      have st := same_new ht (.tup (ns.map V.str))
      refine ⟨_, rfl, _, rfl, _, rfl, _, rfl, (by show 6 ≤ sizeLine; decide), fun p hp => q1 _ hO hz p _ (s5.trans (st.trans (same_new hp _))) ?_⟩
      exact .tup upd_same (.cons (.int _) (.cons (.tup (same_new hp _ _ _ upd_same) (strs_tp _)) (.cons (.int _) (.cons (.int _) (.cons (.int _) (.cons (.int _) .nil))))))
end
end My
set_option Elab.async false
set_option linter.all false
set_option maxRecDepth 100000
set_option maxHeartbeats 4000000
namespace L2
open PySem
/-- over the pairs of two lists that the body leaves as they are -/
theorem for_zipLL {K : PySem.W.Frag} {a b : Addr} {xs ys : List V} {g : TG} {tb : TS} {D : Ends} {σ : St} {H : Hp} (hlen : xs.length ≤ ys.length) (Pv : Nat → St → Hp → Prop) (h0 : Pv 0 σ H) (hl : ∀ i σ H, i ≤ xs.length → Pv i σ H → SqL K H a xs ∧ SqL K H b ys)
    (hs : ∀ i x y σ H T, xs[i]? = some x → ys[i]? = some y → Pv i σ H → H T = none → g (.ref T) σ (upd H T (.tup [x, y])) fun σ2 H2 => tb { D with nx := Pv (i + 1), ct := Pv (i + 1), bk := D.nx } σ2 H2) (hd : ∀ σ H, Pv xs.length σ H → D.nx σ H) :
    ∃ W : Nat → Nat → St → Hp → Prop, (∃ m, W 0 m σ H) ∧ ∀ i m σ H, W i m σ H →
      ((Itz K a b).stop i H ∧ D.nx σ H) ∨ ((Itz K a b).go i H ∧ ∃ N : St → Hp → Prop, (∀ σ' H', N σ' H' → ∃ m', m' < m ∧ W (i + 1) m' σ' H') ∧ ∀ x H', (Itz K a b).yld i H x H' → g x σ H' fun σ2 H2 => tb { D with nx := N, ct := N, bk := D.nx } σ2 H2) := by
  refine ⟨fun i m σ H => m = xs.length - i ∧ i ≤ xs.length ∧ Pv i σ H, ⟨xs.length, by simp, Nat.zero_le _, h0⟩, ?_⟩
  rintro i m σ H ⟨rfl, hi, p⟩
  obtain ⟨q1, q2⟩ := hl i σ H hi p
  by_cases hlt : i < xs.length
  · have hlt2 : i < ys.length := by omega
    refine .inr ⟨⟨xs, ys, xs[i], ys[i], q1, q2, by simp [hlt], by simp [hlt2]⟩, Pv (i + 1), fun σ' H' p' => ⟨xs.length - (i + 1), by omega, rfl, hlt, p'⟩, fun v H' yy => ?_⟩
    obtain ⟨T, x, y, rfl, hT, rfl, e1, e2⟩ := yy
    exact hs i x y σ H T (e1 xs q1) (e2 ys q2) p hT
  · have e : i = xs.length := by omega
    subst e
    exact .inl ⟨⟨xs, ys, q1, q2, .inl (Nat.le_refl _)⟩, hd σ H p⟩
end L2
namespace My
open PySem L2 TL
structure Dfs (K : PySem.W.Frag) (mg : Str → Option Value) extends DfT K mg where
  pull : Df K mg "_law_pull" sPull ["sack", "many"]
  names : Df K mg "_law_names" sNames ["sack", "many"]
  own : Df K mg "_law_own" sOwn ["sack"]
  same : Df K mg "_law_same" sSame ["found", "due"]
  ch : Df K mg "_law_changed" sChanged ["sack", "line"]
  wo : Df K mg "_law_word_of" sWordOf ["caught"]
  nl : Df K mg "_law_number" sNumL ["word"]
  iname : Df K mg "_law_is_name" sLIsName ["what"]
  rl : Df K mg "_law_read" sReadL ["line"]
  told : Df K mg "_law_told" sToldL ["line"]
  re : Df K mg "read_machine" sReadM ["text"]
abbrev NRg : List Str := ["sack", "own", "numbers", "at", "names", "line", "word", "number", "turn", "due"]
theorem own_narrow {o : OwnD} (hO : OwnOk o) : PyData.depth (ownD o) < 3 ∧ narrow (ownD o) = true := by
  constructor
  · show max 0 (max (PyData.depth (.tuple (o.names.map PyData.str))) (max 0 (max 0 (max 0 (max 0 0))))) + 1 < 3
    have : PyData.depth (.tuple (o.names.map PyData.str)) = 1 := by
      have h : ∀ ns : List Str, PyData.depthAll (ns.map PyData.str) = 0 := fun ns => by
        induction ns with
        | nil => rfl
        | cons x r ih =>
          show max 0 (PyData.depthAll (r.map PyData.str)) = 0
          rw [ih]
          rfl
      show PyData.depthAll (o.names.map PyData.str) + 1 = 1
      rw [h]
    rw [this]
    decide
  · have hl := (words_len hO).2.2
    have h : ∀ ns : List Str, narrowAll (ns.map PyData.str) = true := fun ns => by
      induction ns with
      | nil => rfl
      | cons x r ih =>
        show (true && narrowAll (r.map PyData.str)) = true
        rw [ih]
        rfl
    show (decide (6 ≤ 300) && (true && ((decide ((o.names.map PyData.str).length ≤ 300) && narrowAll (o.names.map PyData.str)) && (true && (true && (true && (true && true))))))) = true
    rw [h, decide_eq_true (p := (o.names.map PyData.str).length ≤ 300) (by rw [List.length_map]; omega)]
    rfl
theorem num_len9 {n : Int} (h0 : 0 ≤ n) (h1 : n < 10 ^ 9) : (numT n).length ≤ 9 := by
  have hl := numO_num h0 h1
  unfold numO at hl
  split at hl
  · rename_i hc
    exact hc.2.1
  · cases hl
section
variable {P : Program} {w : World} {K : PySem.W.Frag} {mg : Str → Option Value} {base : Heap}
theorem scRight : FnScope NRg ["sack"] (defScope sRight) := ⟨rfl, rfl, rfl, by decide +kernel, rfl, by decide +kernel, by decide +kernel⟩
theorem ok_right {T1 T2 T3 : Addr} {f : Addr} {fd : FuncData} (F : Fun K "_law_right" "_law_right" sRight f fd) (R : ErrT P K mg) (D : Dfs K mg) (C : Cs mg) (C2 : Cs2 mg) (gk1 : GenK base mg D.N.fd.code T1) (gk2 : GenK base mg D.R.fd.code T2) (gk3 : GenK base mg D.nr.fd.code T3) (B : Bl mg) : FnOk P w K mg base CX0 8 f fd ["sack"] (spRight [T1, T2, T3]) := by
  have GP : FnOk P w K mg base CX0 7 D.pull.f D.pull.fd ["sack", "many"] spPull := (ok_pull D.pull.F).mono (by decide)
  have GO : FnOk P w K mg base CX0 7 D.own.f D.own.fd ["sack"] spOwn := (ok_own D.own.F D.pull D.names B.range B.min B.tup).mono (by decide)
  have GC : FnOk P w K mg base CX0 7 D.ch.f D.ch.fd ["sack", "line"] spCh := (ok_ch D.ch.F D.pull B).mono (by decide)
  have GL : FnOk P w K mg base CX0 7 D.rl.f D.rl.fd ["line"] spLRead := (ok_lRead D.rl.F D.nl D.iname B).mono (by decide)
  have GT : FnOk P w K mg base CX0 7 D.told.f D.told.fd ["line"] (spTold T1 T2 T3) := ok_to R D.told.F D.wo D.re D.toDfT C C2 gk1 gk2 gk3 B
  have GE : FnOk P w K mg base CX0 7 D.same.f D.same.fd ["found", "due"] (spSame 3) := (ok_same D.same B 3).mono (by decide)
  refine F.ok scRight (fun vs H Q E h => ?_) (fun cdv A outer s H vs Q E hr1 h => ?_)
  · obtain ⟨k, rfl, _⟩ := h
    rfl
  · obtain ⟨k, rfl, S0, hTb, q⟩ := h
    refine ⟨_, pss_cons (ps_set (i := 1) scRight.nd rfl (Or.inl rfl) (pe_call GO hr1 rfl D.own.m D.own.F.kp D.own.b .nil pass0 (pa_cons (pv 0) pa_nil))) (pss_cons (ps_set (i := 2) scRight.nd rfl (Or.inl rfl) (pe_lst (pa_cons (pe_ix ix_tup (pv 1) pe_int (fun _ _ => rfl)) (pa_cons (pe_ix ix_tup (pv 1) pe_int (fun _ _ => rfl)) (pa_cons (pe_ix ix_tup (pv 1) pe_int (fun _ _ => rfl)) (pa_cons (pe_ix ix_tup (pv 1) pe_int (fun _ _ => rfl)) (pa_cons (pe_ix ix_tup (pv 1) pe_int (fun _ _ => rfl)) pa_nil))))))) (pss_cons (ps_if (pt_cmpR op_eq (pe_call GP hr1 rfl D.pull.m D.pull.F.kp D.pull.b .nil pass0 (pa_cons (pv 0) (pa_cons pe_int pa_nil))) pe_int (nomark _)) (pss_cons (ps_set (i := 3) scRight.nd rfl (Or.inl rfl) (pe_call GP hr1 rfl D.pull.m D.pull.F.kp D.pull.b .nil pass0 (pa_cons (pv 0) (pa_cons pe_int pa_nil)))) (pss_one (ps_asg (pe_ix ix_list (pe_lst (pa_cons pe_int (pa_cons pe_int (pa_cons pe_int (pa_cons pe_int (pa_cons pe_int (pa_cons (pe_op op_add (pe_op op_shl pe_int (pe_ix ix_tup (pv 1) pe_int (fun _ _ => rfl))) pe_int) pa_nil))))))) (pe_ix ix_list (pe_lst (pa_cons (pe_call GP hr1 rfl D.pull.m D.pull.F.kp D.pull.b .nil pass0 (pa_cons (pv 0) (pa_cons pe_int pa_nil))) (pa_cons (pe_op op_add (pv 3) (pe_callTy call_int1 (by rfl) B.int (by decide +kernel) (pa_cons (pe_cmpR op_gt (pv 3) pe_int (nomark _)) pa_nil))) pa_nil))) (pe_call GP hr1 rfl D.pull.m D.pull.F.kp D.pull.b .nil pass0 (pa_cons (pv 0) (pa_cons pe_int pa_nil))) (fun _ _ => rfl)) (fun _ _ => rfl)) (pg_sub (pv 2) (pv 3) set_list)))) pss_nil) (pss_cons (ps_set (i := 4) scRight.nd rfl (Or.inl rfl) (pe_callTy call_list_of (by rfl) B.list (by decide +kernel) (pa_cons (pe_ix ix_tup (pv 1) pe_int (fun _ _ => rfl)) pa_nil))) (pss_cons (ps_if (pt_cmpR op_eq (pe_call GP hr1 rfl D.pull.m D.pull.F.kp D.pull.b .nil pass0 (pa_cons (pv 0) (pa_cons pe_int pa_nil))) pe_int (nomark _)) (pss_one (ps_set (i := 4) scRight.nd rfl (Or.inl rfl) (pe_slice sl_list (pe_op op_rep (pv 4) pe_int) po_none (po_some (pe_op op_add pe_int (pe_call GP hr1 rfl D.pull.m D.pull.F.kp D.pull.b .nil pass0 (pa_cons (pv 0) (pa_cons pe_int pa_nil)))))))) pss_nil) (pss_cons (ps_set (i := 5) scRight.nd rfl (Or.inl rfl) (pe_op op_add_str (pe_op op_add_str (pe_op op_add_str pe_str (pe_callTy call_strV (by rfl) B.str (by decide +kernel) (pa_cons (pe_ix ix_list (pv 2) pe_int (fun _ _ => rfl)) pa_nil))) pe_str) (pe_join pe_str (pv 4)))) (pss_cons (ps_for PassesOwn.never rfl (pi_zip (by rfl) B.zip (pa_cons (pe_lst (pa_cons pe_str (pa_cons pe_str (pa_cons pe_str (pa_cons pe_str pa_nil))))) (pa_cons (pe_slice sl_list (pv 2) (po_some pe_int) po_none) pa_nil))) (pg_tup (by rfl) (pgs_cons (pg_name (i := 6) scRight.nd rfl (Or.inl rfl)) (pgs_cons (pg_name (i := 7) scRight.nd rfl (Or.inl rfl)) pgs_nil))) (pss_one (ps_set (i := 5) scRight.nd rfl (Or.inl rfl) (pe_op op_add_str (pe_op op_add_str (pe_op op_add_str (pe_op op_add_str (pv 5) pe_str) (pv 6)) pe_str) (pe_callTy call_strV (by rfl) B.str (by decide +kernel) (pa_cons (pv 7) pa_nil)))))) (pss_cons (ps_for PassesOwn.never rfl (pi_range1 rfl B.range (pa_cons (pe_ix ix_list (pe_lst (pa_cons pe_int (pa_cons pe_int (pa_cons pe_int (pa_cons pe_int pa_nil))))) (pe_call GP hr1 rfl D.pull.m D.pull.F.kp D.pull.b .nil pass0 (pa_cons (pv 0) (pa_cons pe_int pa_nil))) (fun _ _ => rfl)) pa_nil)) (pg_name (i := 8) scRight.nd rfl (Or.inl rfl)) (pss_one (ps_set (i := 5) scRight.nd rfl (Or.inl rfl) (pe_call GC hr1 rfl D.ch.m D.ch.F.kp D.ch.b .nil pass0 (pa_cons (pv 0) (pa_cons (pv 5) pa_nil)))))) (pss_cons (ps_set (i := 9) scRight.nd rfl (Or.inl rfl) (pe_call GL hr1 rfl D.rl.m D.rl.F.kp D.rl.b .nil pass0 (pa_cons (pv 5) pa_nil))) (pss_one (ps_ret (pe_call GE hr1 rfl D.same.m D.same.F.kp D.same.b .nil pass0 (pa_cons (pe_call GT hr1 rfl D.told.m D.told.F.kp D.told.b .nil pass0 (pa_cons (pv 5) pa_nil)) (pa_cons (pe_ifExp (pt_cmp (pc_isN (pv 9))) pe_str (pv 9)) pa_nil))))))))))))), ?read⟩
    case read =>
      have nek : ∀ {H1 : Hp} {m : Nat} {b : Addr}, Sack H1 k m → H1 b = none → b ≠ k := fun S hb => by
        obtain ⟨_, _, _, z, _⟩ := S
        exact (ne_of_none z hb).symm
      have big : ∀ {x : Nat}, x ≤ 100000 → x ≤ sizeLine := fun h => Nat.le_trans h (by decide)
      have la : ∀ a b : Str, (a ++ b).length = a.length + b.length := fun a b => Str.length_append a b
      refine seq_cut (fun σ' H' => ∃ (p : Addr) (o : OwnD), σ' = [some (.ref k), some (.ref p), none, none, none, none, none, none, none, none] ∧ Tp H' (.ref p) (ownD o) ∧ OwnOk o ∧ Sack H' k 120 ∧ SameBut k H H') (fun nx imp => ?_) ?_
      · exact ⟨_, rfl, k, 0, rfl, S0, by decide, fun p o H' _ sb S T hO => imp _ _ ⟨p, o, rfl, T, hO, S, sb⟩⟩
      rintro σ H1 ⟨p, o, rfl, T1', hO, S1, sb1⟩
      obtain ⟨qa, hp1, hq1⟩ := own_inv T1'
      obtain ⟨r1, r2, r3, r4, r5⟩ := own_rng hO
      refine seq_cut (fun σ' H' => ∃ (n : Addr), σ' = [some (.ref k), some (.ref p), some (.ref n), none, none, none, none, none, none, none] ∧ n ≠ k ∧ H1 n = none ∧ H' n = some (.lst ([o.bits, o.hidden, o.alus, o.moves, o.cells].map V.int)) ∧ Same H1 H') (fun nx imp => ?_) ?_
      · exact ⟨_, rfl, p, _, _, _, rfl, rfl, SqT.of hp1, at_of (j := 0) rfl rfl, _, rfl, p, _, _, _, rfl, rfl, SqT.of hp1, at_of (j := 2) rfl rfl, _, rfl, p, _, _, _, rfl, rfl, SqT.of hp1, at_of (j := 3) rfl rfl, _, rfl, p, _, _, _, rfl, rfl, SqT.of hp1, at_of (j := 4) rfl rfl, _, rfl, p, _, _, _, rfl, rfl, SqT.of hp1, at_of (j := 5) rfl rfl, (by show 5 ≤ sizeLine; decide), fun n hn => imp _ _ ⟨n, rfl, nek S1 hn, hn, upd_same, same_new hn _⟩⟩
      rintro σ H2 ⟨n, rfl, nnk, hn1, hn2, s2⟩
      have hp2 := s2 _ _ hp1
      have hq2 := s2 _ _ hq1
      have S2 := S1.same s2
      have bH : ∀ {Ha : Hp}, SameBut k H1 Ha → SameBut k H Ha := fun {Ha} sb => sb1.trans sb
      -- numbers, one of them perhaps another
      refine seq_cut (fun σ' H' => ∃ (v3 : Option V) (ms : List Int), σ' = [some (.ref k), some (.ref p), some (.ref n), v3, none, none, none, none, none, none] ∧ H' n = some (.lst (ms.map V.int)) ∧ ms.length = 5 ∧ (∀ x ∈ ms, 0 ≤ x ∧ x ≤ 257) ∧ Sack H' k 124 ∧ SameBut k H1 H') (fun nx imp => ?_) ?_
      · refine ⟨_, rfl, k, 3, 120, rfl, S2, by decide, by decide, by decide, fun r H3 a3 b3 sb3 S3 => ⟨rfl, _, rfl, iteB (fun _ => ?_) (fun _ => imp _ _ ⟨none, _, rfl, sb3 _ _ hn2 nnk, rfl, ?_, S3.mono (by decide), s2.but.trans sb3⟩)⟩⟩
        · refine seq_cut (fun σ' H' => ∃ a : Nat, σ' = [some (.ref k), some (.ref p), some (.ref n), some (.int (a : Nat)), none, none, none, none, none, none] ∧ a < 5 ∧ H' n = some (.lst ([o.bits, o.hidden, o.alus, o.moves, o.cells].map V.int)) ∧ H' p = some (.tup [.int o.bits, .ref qa, .int o.hidden, .int o.alus, .int o.moves, .int o.cells]) ∧ Sack H' k 122 ∧ SameBut k H1 H') (fun nx2 imp2 => ?_) ?_
          · refine ⟨_, rfl, k, 5, 121, rfl, S3, by decide, by decide, by decide, fun r2 H4 a4 b4 sb4 S4 => imp2 _ _ ⟨r2.toNat, ?_, by omega, sb4 _ _ (sb3 _ _ hn2 nnk) nnk, ?_, S4, s2.but.trans (sb3.trans sb4)⟩⟩
            · rw [Int.toNat_of_nonneg a4]
              rfl
            · have npk : p ≠ k := fun e => by
                obtain ⟨_, _, _, z, _⟩ := S2
                rw [← e, hp2] at z
                cases z
              exact sb4 _ _ (sb3 _ _ hp2 npk) npk
          rintro σ H4 ⟨a, rfl, ha5, hn4, hp4, S4, sb4⟩
          refine ⟨_, rfl, p, _, _, _, rfl, rfl, SqT.of hp4, at_of (j := 0) rfl rfl, _, _, rfl, rfl, ⟨by omega, by have := hO.bits; omega, by decide⟩, _, _, rfl, rfl, (by show 6 ≤ sizeLine; decide), fun d6 h6 => ?_⟩
          have e2 : (1 : Int) * 2 ^ o.bits.toNat = 2 ^ o.bits.toNat := Int.one_mul _
          rw [e2]
          have cp : (0 : Int) ≤ 2 ^ o.bits.toNat ∧ (2 : Int) ^ o.bits.toNat ≤ 256 := by
            have : ∀ m : Nat, m ≤ 8 → (0 : Int) ≤ 2 ^ m ∧ (2 : Int) ^ m ≤ 256 := by decide
            exact this _ (by have := hO.bits; omega)
          generalize (2 : Int) ^ o.bits.toNat = tw at cp h6 ⊢
          have t6 := same_new h6 (.lst [V.int 0, V.int 9, V.int 13, V.int 4, V.int 4, V.int (tw + 1)])
          have n6 : d6 ≠ k := nek S4 h6
          refine ⟨_, rfl, k, 6, 122, rfl, S4.same t6, by decide, by decide, by decide, fun r6 H6 a6 b6 sb6 S6 => ?_⟩
          refine ⟨_, rfl, _, rfl, _, _, rfl, rfl, .inr ⟨_, rfl, _, _, rfl, rfl, (by show 2 ≤ sizeLine; decide), fun d2 h2 => ?_⟩⟩
          have t2 := same_new h2 (.lst [V.int r6, V.int ((a : Int) + if decide ((0 : Int) < a) = true then 1 else 0)])
          have n2 : d2 ≠ k := nek S6 h2
          refine ⟨_, rfl, k, 2, 123, rfl, S6.same t2, by decide, by decide, by decide, fun r7 H7 a7 b7 sb7 S7 => ?_⟩
          obtain ⟨ix, hix, ix0, ix5⟩ : ∃ ix : Int, atI [V.int r6, V.int ((a : Int) + if decide ((0 : Int) < a) = true then 1 else 0)] r7 = some (.int ix) ∧ 0 ≤ ix ∧ ix < 6 := by
            obtain rfl | rfl : r7 = 0 ∨ r7 = 1 := by omega
            · exact ⟨_, rfl, a6, b6⟩
            · refine ⟨_, rfl, ?_, ?_⟩ <;> split <;> omega
          obtain ⟨nv, hnv, nv0, nv1⟩ : ∃ nv : Int, atI [V.int 0, V.int 9, V.int 13, V.int 4, V.int 4, V.int (tw + 1)] ix = some (.int nv) ∧ 0 ≤ nv ∧ nv ≤ 257 := by
            obtain rfl | rfl | rfl | rfl | rfl | rfl : ix = 0 ∨ ix = 1 ∨ ix = 2 ∨ ix = 3 ∨ ix = 4 ∨ ix = 5 := by omega
            · exact ⟨_, rfl, by decide, by decide⟩
            · exact ⟨_, rfl, by decide, by decide⟩
            · exact ⟨_, rfl, by decide, by decide⟩
            · exact ⟨_, rfl, by decide, by decide⟩
            · exact ⟨_, rfl, by decide, by decide⟩
            · exact ⟨_, rfl, by omega, by omega⟩
          have hd6 := sb7 _ _ (t2 _ _ (sb6 _ _ upd_same n6)) n6
          have hn7 := sb7 _ _ (t2 _ _ (sb6 _ _ (t6 _ _ hn4) nnk)) nnk
          have hxn : ixN 5 ((a : Nat) : Int) = some a := by
            unfold ixN
            rw [if_pos (by omega), if_pos (by omega)]
            rfl
          refine ⟨d2, _, _, _, rfl, rfl, SqL.of (sb7 _ _ upd_same n2), hix, d6, _, _, _, rfl, rfl, SqL.of hd6, hnv, _, rfl, _, rfl, n, _, _, a, rfl, rfl, hn7, hxn, imp _ _ ⟨_, ([o.bits, o.hidden, o.alus, o.moves, o.cells].set a nv), rfl, ?_, ?_, ?_, ?_, ?_⟩⟩
          · rw [upd_same, List.map_set]
          · rw [List.length_set]
            rfl
          · intro x hx
            rcases List.mem_or_eq_of_mem_set hx with hx | rfl
            · simp only [List.mem_cons, List.mem_nil_iff, or_false] at hx
              rcases hx with rfl | rfl | rfl | rfl | rfl <;> omega
            · exact ⟨nv0, nv1⟩
          · obtain ⟨z1, z2, z3, z4, z5⟩ := S7
            exact ⟨z1, z2, z3, by rw [upd_ne (Ne.symm nnk)]; exact z4, z5⟩
          · intro b ob e nb
            have nbn : b ≠ n := ne_of_none e hn1
            rw [upd_ne nbn]
            exact sb7 _ _ (t2 _ _ (sb6 _ _ (t6 _ _ (sb4 _ _ e nb)) nb)) nb
        · intro x hx
          simp only [List.mem_cons, List.mem_nil_iff, or_false] at hx
          rcases hx with rfl | rfl | rfl | rfl | rfl <;> omega
      rintro σ H3 ⟨v3, ms, rfl, hn3, hm5, hmb, S3, sb3⟩
      obtain ⟨m0, m1, m2, m3, m4, rfl⟩ : ∃ m0 m1 m2 m3 m4, ms = [m0, m1, m2, m3, m4] := by
        match ms, hm5 with
        | [m0, m1, m2, m3, m4], _ => exact ⟨_, _, _, _, _, rfl⟩
      have npk : p ≠ k := fun e => by
        obtain ⟨_, _, _, z, _⟩ := S2
        rw [← e, hp2] at z
        cases z
      have nqk : qa ≠ k := fun e => by
        obtain ⟨_, _, _, z, _⟩ := S2
        rw [← e, hq2] at z
        cases z
      -- names
      refine seq_cut (fun σ' H' => ∃ (u : Addr), σ' = [some (.ref k), some (.ref p), some (.ref n), v3, some (.ref u), none, none, none, none, none] ∧ u ≠ k ∧ H' u = some (.lst (o.names.map V.str)) ∧ Same H3 H') (fun nx imp => ?_) ?_
      · exact ⟨_, rfl, p, _, _, _, rfl, rfl, SqT.of (sb3 _ _ hp1 npk), at_of (j := 1) rfl rfl, qa, _, rfl, .inr (SqT.of (sb3 _ _ hq1 nqk)), fun u hu => imp _ _ ⟨u, rfl, nek S3 hu, upd_same, same_new hu _⟩⟩
      rintro σ H4 ⟨u, rfl, nuk, hu4, s4⟩
      obtain ⟨mN, hNm, mn1, mn6⟩ := hO.names
      refine seq_cut (fun σ' H' => ∃ (u : Addr) (ns : List Str), σ' = [some (.ref k), some (.ref p), some (.ref n), v3, some (.ref u), none, none, none, none, none] ∧ H' u = some (.lst (ns.map V.str)) ∧ ns.length ≤ 8 ∧ (∀ x ∈ ns, x.length ≤ 8) ∧ H' n = some (.lst ([m0, m1, m2, m3, m4].map V.int)) ∧ Sack H' k 126 ∧ SameBut k H1 H') (fun nx imp => ?_) ?_
      · have nb8 : ∀ x ∈ o.names, x.length ≤ 8 := fun x hx => (hNm.all x hx).len.2
        have hnl : o.names.length = mN := hNm.len
        refine ⟨_, rfl, k, 6, 124, rfl, S3.same s4, by decide, by decide, by decide, fun r H5 a5 b5 sb5 S5 => ⟨rfl, _, rfl, iteB (fun _ => ?_) (fun _ => imp _ _ ⟨u, o.names, rfl, sb5 _ _ hu4 nuk, by omega, nb8, sb5 _ _ (s4 _ _ hn3) nnk, S5.mono (by decide), sb3.trans (s4.but.trans sb5)⟩)⟩⟩
        refine ⟨_, rfl, u, 7, _, rfl, rfl, sb5 _ _ hu4 nuk, by decide, by decide, (by rw [List.length_map]; exact big (by show o.names.length * 7 ≤ _; omega)), fun p7 h7 => ?_⟩
        have t7 := same_new h7 (.lst (List.replicate (7 : Int).toNat (o.names.map V.str)).flatten)
        have n7 : p7 ≠ k := nek S5 h7
        refine ⟨_, rfl, k, 8, 125, rfl, S5.same t7, by decide, by decide, by decide, fun r8 H8 a8 b8 sb8 S8 => ?_⟩
        refine ⟨_, _, rfl, rfl, _, rfl, p7, _, rfl, SqL.of (sb8 _ _ upd_same n7), fun u2 hu2 => ?_⟩
        have em : (List.replicate (7 : Int).toNat (o.names.map V.str)).flatten = ((List.replicate 7 o.names).flatten).map V.str := by
          show (List.replicate 7 (o.names.map V.str)).flatten = _
          rw [List.map_flatten, List.map_replicate]
        rw [em, cutV_str]
        have t8 := same_new hu2 (.lst ((((List.replicate 7 o.names).flatten.drop (HT.sIx (List.replicate 7 o.names).flatten.length 0 none)).take (HT.sIx (List.replicate 7 o.names).flatten.length (List.replicate 7 o.names).flatten.length (some (1 + r8)) - HT.sIx (List.replicate 7 o.names).flatten.length 0 none)).map V.str))
        refine imp _ _ ⟨u2, _, rfl, upd_same, ?_, fun x hx => ?_, t8 _ _ (sb8 _ _ (t7 _ _ (sb5 _ _ (s4 _ _ hn3) nnk)) nnk), S8.same t8, sb3.trans (s4.but.trans (sb5.trans (t7.but.trans (sb8.trans t8.but))))⟩
        · rw [List.length_take]
          have e8 : ((1 : Int) + r8) = ((1 + r8.toNat : Nat) : Int) := by omega
          rw [e8, HT.sIx_nat]
          omega
        · have hx := List.mem_of_mem_drop (List.mem_of_mem_take hx)
          obtain ⟨l, hl, hx⟩ := List.mem_flatten.mp hx
          rw [List.eq_of_mem_replicate hl] at hx
          exact nb8 x hx
      clear hu4 s4 nuk
      rintro σ H5 ⟨u, ns, rfl, hu5, ns8, nsb, hn5, S5, sb5⟩
      -- line
      have h0 := hmb m0 (by simp)
      have nT : ∀ {x : Int}, x ∈ [m0, m1, m2, m3, m4] → (numT x).length ≤ 9 ∧ x.natAbs.log2 < 1920 := fun {x} hx => by
        have := hmb x hx
        exact ⟨num_len9 this.1 (by omega), log9 this.1 (by omega)⟩
      refine seq_cut (fun σ' H' => ∃ z : Str, σ' = [some (.ref k), some (.ref p), some (.ref n), v3, some (.ref u), some (.str z), none, none, none, none] ∧ z.length ≤ 100 ∧ H' = H5) (fun nx imp => ?_) ?_
      · have k1 : (Str.ofString "bits ").length = 5 := by decide +kernel
        have k2 : (Str.ofString " registers ").length = 11 := by decide +kernel
        have hs1 : spS.length = 1 := rfl
        have sm := sum_bound nsb
        have jl := join_len spS ns
        rw [hs1] at jl
        have hsm : 8 * ns.length ≤ 64 := by omega
        have z0 := (nT (x := m0) (by simp)).1
        refine ⟨_, rfl, n, _, _, _, rfl, rfl, SqL.of hn5, at_of (j := 0) rfl rfl, .int m0, numT m0, rfl, ⟨(nT (x := m0) (by simp)).2, rfl⟩, _, _, rfl, rfl, big (by rw [k1]; omega), _, _, rfl, rfl, big (by rw [la, k1, k2]; omega), ⟨_, rfl⟩, _, rfl, spS, u, ns, rfl, rfl, .inl (SqL.of hu5), (by rw [hs1]; omega), _, _, rfl, rfl, big (by rw [la, la, k1, k2]; omega), imp _ _ ⟨_, rfl, ?_, rfl⟩⟩
        rw [la, la, la, k1, k2]
        omega
      rintro σ Hx ⟨z, rfl, hz, ex⟩
      rw [ex]
      clear ex Hx
      refine seq_cut (fun σ' H' => ∃ (v6 v7 : Option V) (z : Str), σ' = [some (.ref k), some (.ref p), some (.ref n), v3, some (.ref u), some (.str z), v6, v7, none, none] ∧ z.length ≤ 200 ∧ Sack H' k 126 ∧ SameBut k H1 H') (fun nx imp => ?_) ?_
      · refine ⟨(by show 4 ≤ sizeLine; decide), fun l3 hl3 => ?_⟩
        have t3 := same_new hl3 (.lst [V.str "hidden", V.str "alus", V.str "moves", V.str "cells"])
        refine ⟨_, rfl, _, rfl, n, _, rfl, SqL.of (t3 _ _ hn5), fun c hc => ?_⟩
        have e4 : cutV ([m0, m1, m2, m3, m4].map V.int) (some 1) none = [m1, m2, m3, m4].map V.int := rfl
        rw [e4]
        have tc := same_new hc (.lst ([m1, m2, m3, m4].map V.int))
        refine ⟨l3, c, _, _, rfl, SqL.of (tc _ _ upd_same), SqL.of upd_same, ?_⟩
        refine for_zipLL (K := K) (a := l3) (b := c) (xs := [V.str "hidden", V.str "alus", V.str "moves", V.str "cells"]) (ys := [m1, m2, m3, m4].map V.int) (Nat.le_refl 4) (fun i σ H' => ∃ (v6 v7 : Option V) (z : Str), σ = [some (.ref k), some (.ref p), some (.ref n), v3, some (.ref u), some (.str z), v6, v7, none, none] ∧ z.length ≤ 100 + 25 * i ∧ H' l3 = some (.lst [V.str "hidden", V.str "alus", V.str "moves", V.str "cells"]) ∧ H' c = some (.lst ([m1, m2, m3, m4].map V.int)) ∧ Same H5 H')
          ⟨none, none, z, rfl, hz, tc _ _ upd_same, upd_same, t3.trans tc⟩ (fun i σ H' _ zz => by obtain ⟨_, _, _, _, _, z1, z2, _⟩ := zz; exact ⟨SqL.of z1, SqL.of z2⟩) ?_ ?_
        · rintro i x y σ H6 T hx hy ⟨v6, v7, z, rfl, hz, z1, z2, s6⟩ hT
          have hi : i < 4 := (List.getElem?_eq_some_iff.mp hx).1
          have sT := same_new hT (.tup [x, y])
          obtain ⟨nm, m, rfl, rfl, hnm, hm⟩ : ∃ (nm : Str) (m : Int), x = V.str nm ∧ y = V.int m ∧ nm.length ≤ 6 ∧ m ∈ [m0, m1, m2, m3, m4] := by
            match i, hi, hx, hy with
            | 0, _, hx, hy => cases hx; cases hy; exact ⟨_, _, rfl, rfl, by decide, by simp⟩
            | 1, _, hx, hy => cases hx; cases hy; exact ⟨_, _, rfl, rfl, by decide, by simp⟩
            | 2, _, hx, hy => cases hx; cases hy; exact ⟨_, _, rfl, rfl, by decide, by simp⟩
            | 3, _, hx, hy => cases hx; cases hy; exact ⟨_, _, rfl, rfl, by decide, by simp⟩
          obtain ⟨nt1, nt2⟩ := nT hm
          have kb : (Str.ofString " ").length = 1 := by decide +kernel
          refine ⟨T, _, rfl, SqT.of upd_same, rfl, _, _, rfl, _, _, rfl, rfl, ?_⟩
          refine ⟨_, rfl, _, _, rfl, rfl, big (by rw [kb]; omega), _, rfl, _, _, rfl, rfl, big (by rw [la, kb]; omega), _, _, rfl, rfl, big (by rw [la, la, kb]; omega), _, rfl, .int m, numT m, rfl, ⟨nt2, rfl⟩, _, _, rfl, rfl, big (by rw [la, la, la, kb]; omega), ⟨_, _, _, rfl, ?_, sT _ _ z1, sT _ _ z2, s6.trans sT⟩⟩
          rw [la, la, la, la, kb]
          omega
        · rintro σ H6 ⟨v6, v7, z, rfl, hz, z1, z2, s6⟩
          exact imp _ _ ⟨v6, v7, z, rfl, hz, S5.same s6, sb5.trans s6.but⟩
      clear hz z hn5 hu5 S5 sb5 H5
      rintro σ H5 ⟨v6, v7, z, rfl, hz, S5, sb5⟩
      refine seq_cut (fun σ' H' => ∃ (v8 : Option V) (z : Str), σ' = [some (.ref k), some (.ref p), some (.ref n), v3, some (.ref u), some (.str z), v6, v7, v8, none] ∧ z.length ≤ 9000 ∧ SameBut k H1 H') (fun nx imp => ?_) ?_
      · refine ⟨(by show 4 ≤ sizeLine; decide), fun d hd => ?_⟩
        have td := same_new hd (.lst [V.int 0, V.int 1, V.int 1, V.int 2])
        have nd : d ≠ k := nek S5 hd
        refine ⟨_, rfl, k, 4, 126, rfl, S5.same td, by decide, by decide, by decide, fun r H6 a6 b6 sb6 S6 => ?_⟩
        obtain ⟨m, hm, hm2⟩ : ∃ m : Nat, atI [V.int 0, V.int 1, V.int 1, V.int 2] r = some (.int (m : Nat)) ∧ m ≤ 2 := by
          obtain rfl | rfl | rfl | rfl : r = 0 ∨ r = 1 ∨ r = 2 ∨ r = 3 := by omega
          · exact ⟨0, rfl, by decide⟩
          · exact ⟨1, rfl, by decide⟩
          · exact ⟨1, rfl, by decide⟩
          · exact ⟨2, rfl, by decide⟩
        refine ⟨d, _, _, _, rfl, rfl, SqL.of (sb6 _ _ upd_same nd), hm, (m : Int), rfl, by omega, by omega, ?_⟩
        refine for_range (lo := 0) (n := (m : Int).toNat) (fun i σ H' => ∃ (v8 : Option V) (z : Str), σ = [some (.ref k), some (.ref p), some (.ref n), v3, some (.ref u), some (.str z), v6, v7, v8, none] ∧ (i = 0 → z.length ≤ 200) ∧ (i = 1 → z.length ≤ 923) ∧ z.length ≤ 9000 ∧ Sack H' k (127 + 5 * i) ∧ SameBut k H1 H') ⟨none, z, rfl, fun _ => hz, fun z => absurd z (by decide), by omega, S6, sb5.trans (td.but.trans sb6)⟩ ?_ ?_
        · rintro i σ H7 hi ⟨v8, z, rfl, z0, z1, z9, S7, sb7⟩
          have hi2 : i < 2 := by omega
          have hzl : z.length ≤ 923 := by
            by_cases e : i = 0
            · have := z0 e; omega
            · exact z1 (by omega)
          exact ⟨_, rfl, _, rfl, k, z, _, rfl, S7, by omega, by omega, fun y H8 hy sb8 S8 => ⟨_, y, rfl, fun e => absurd e (by omega), fun e => by have := z0 (by omega); omega, by omega, S8.mono (by omega), sb7.trans sb8⟩⟩
        · rintro σ H7 ⟨v8, z, rfl, _, _, z9, _, sb7⟩
          exact imp _ _ ⟨v8, z, rfl, z9, sb7⟩
      clear hz z S5 sb5 H5
      rintro σ H5 ⟨v8, z, rfl, hz, sb5⟩
      have hTb5 := hTb.but S0 (sb1.trans sb5)
      have tb : ∀ {U : Addr} {Hb : Hp}, U ∈ [T1, T2, T3] → Same H5 Hb → Tab U Hb := fun {U Hb} hU sm => let ⟨ps, e⟩ := hTb5 U hU; ⟨ps, sm _ _ e⟩
      by_cases hv : ∃ o, OwnOk o ∧ z = lineO o
      · obtain ⟨o', hO', rfl⟩ := hv
        refine seq_cut (fun σ' H' => ∃ d : Addr, σ' = [some (.ref k), some (.ref p), some (.ref n), v3, some (.ref u), some (.str (lineO o')), v6, v7, v8, some (.ref d)] ∧ Tp H' (.ref d) (ownD o') ∧ Same H5 H') (fun nx imp => ?_) ?_
        · refine ⟨_, rfl, lineO o', rfl, hz, fun o2 hO2 e d H6 s6 t6 => ?_, fun h => absurd rfl (h o' hO')⟩
          have eo : o2 = o' := line_inj hO2 hO' e.symm
          rw [eo] at t6
          exact imp _ _ ⟨d, rfl, t6, s6⟩
        rintro σ H6 ⟨d, rfl, t6, s6⟩
        refine ⟨_, rfl, lineO o', rfl, hz, tb (by simp) s6, tb (by simp) s6, tb (by simp) s6, fun o2 hO2 e f H7 s7 t7 => ?_, fun h => absurd rfl (h o' hO')⟩
        have eo : o2 = o' := line_inj hO2 hO' e.symm
        rw [eo] at t7
        obtain ⟨dn, nr⟩ := own_narrow hO'
        exact ⟨_, rfl, _, rfl, iteF ⟨_, rfl, .ref f, .ref d, ownD o', rfl, t7, t6.keep (KeepT.of s7), dn, nr, fun H8 s8 => q _ (sb1.trans (sb5.trans (s6.trans (s7.trans s8)).but))⟩⟩
      · have hno : ∀ o, OwnOk o → z ≠ lineO o := fun o hO e => hv ⟨o, hO, e⟩
        refine seq_cut (fun σ' H' => σ' = [some (.ref k), some (.ref p), some (.ref n), v3, some (.ref u), some (.str z), v6, v7, v8, some .non] ∧ Same H5 H') (fun nx imp => ?_) ?_
        · exact ⟨_, rfl, z, rfl, hz, fun o2 hO2 e => absurd e (hno o2 hO2), fun _ H6 s6 => imp _ _ ⟨rfl, s6⟩⟩
        rintro σ H6 ⟨rfl, s6⟩
        refine ⟨_, rfl, z, rfl, hz, tb (by simp) s6, tb (by simp) s6, tb (by simp) s6, fun o2 hO2 e => absurd e (hno o2 hO2), fun _ H7 s7 => ?_⟩
        exact ⟨_, rfl, _, rfl, iteT ⟨.str "NoText1", .str "NoText1", .str "NoText1", rfl, .str _, .str _, by decide, rfl, fun H8 s8 => q _ (sb1.trans (sb5.trans (s6.trans (s7.trans s8)).but))⟩⟩
end
end My
set_option Elab.async false
set_option linter.all false
set_option maxRecDepth 100000
set_option maxHeartbeats 4000000
namespace My
open PySem L2 TL PyProof.Rows
theorem genK_of {h base : Heap} {mg : Str → Option Value} {fd : FuncData} {ts : List Addr} {c P : Addr} (hcode : h.IsCode c P #[]) (htab : h.TableAt c P #[]) (e : fd.code = .ref c)
    (bmain : ∃ bm ob, mg "__builtins__" = some (.ref bm) ∧ bm ≠ builtinsNs ∧ h.get? bm = some ob ∧ ob.cls = .type "module" ∧ ob.dict = some builtinsNs ∧ ob.data = .plain)
    (tk : TabsOk h ts) (hb : ∀ b o, h.get? b = some o → b ∉ ts → o.cls ≠ .type "list" → base.get? b = some o) : GenK base mg fd.code P := by
  obtain ⟨o, vs, file, tf, flags, tg, inF, text, tt, op, ho, hd, h11, h18, h7, h9, h10, hop, hpd, htr, hne⟩ := hcode
  obtain ⟨⟨oc, vs', hoc, hcls, hdc, h11'⟩, _⟩ := htab
  rw [ho] at hoc
  cases hoc
  rw [hd] at hdc
  cases hdc
  obtain ⟨bm, ob, b1, b2, b3, b4, b5, b6⟩ := bmain
  exact ⟨⟨c, o, vs, file, tf, flags, tg, inF, text, tt, e, hb c o ho (tk.ne ho (.inl (by rw [hcls]; intro z; cases z))) (by rw [hcls]; decide), hcls, hd, h11', h18, h7, h9, h10, hne⟩,
    ⟨bm, ob, b1, b2, hb bm ob b3 (tk.ne b3 (.inl (by rw [b4]; intro z; cases z))) (by rw [b4]; decide), b4, b5, b6⟩⟩
theorem all_mk {l : PySem.W.OpenLaw} {q : Program} {w : World} {K : PySem.W.Frag} {h : Heap} {mg : Str → Option Value} {fa : Addr} (X : K.In h) (G : h.Ns mainGlobals mg) (hfa : mg "law" = some (.ref fa))
    (tab : ∀ nm : Str, (recsOf q).any (fun e => e.name == nm) = true → ∃ a o fd c P, mg nm = some (.ref a) ∧ h.get? a = some o ∧ o.data = .func fd ∧ fd.code = .ref c ∧ h.IsCode c P #[] ∧ h.TableAt c P #[])
    (bmain : ∃ bm ob, mg "__builtins__" = some (.ref bm) ∧ bm ≠ builtinsNs ∧ h.get? bm = some ob ∧ ob.cls = .type "module" ∧ ob.dict = some builtinsNs ∧ ob.data = .plain)
    {f1 f2 f3 f4 f5 f6 f7 f8 f9 f10 f11 f12 f13 f14 f15 f16 f17 f18 f19 f20 f21 f22 f23 f24 : Addr} {od1 an1 od2 an2 od3 an3 od4 an4 od5 an5 od6 an6 od7 an7 od8 an8 od9 an9 od10 an10 od11 an11 od12 an12 od13 an13 od14 an14 od15 an15 od16 an16 od17 an17 od18 an18 od19 an19 od20 an20 od21 an21 od22 an22 od23 an23 od24 an24 : Option Addr} {sl1 sl2 sl3 sl4 sl5 sl6 sl7 sl8 sl9 sl10 sl11 sl12 sl13 sl14 sl15 sl16 sl17 sl18 sl19 sl20 sl21 sl22 sl23 sl24 : Array (Option Value)} {oc1 kV1 dc1 pm1 cd1 ct1 oc2 kV2 dc2 pm2 cd2 ct2 oc3 kV3 dc3 pm3 cd3 ct3 oc4 kV4 dc4 pm4 cd4 ct4 oc5 kV5 dc5 pm5 cd5 ct5 oc6 kV6 dc6 pm6 cd6 ct6 oc7 kV7 dc7 pm7 cd7 ct7 oc8 kV8 dc8 pm8 cd8 ct8 oc9 kV9 dc9 pm9 cd9 ct9 oc10 kV10 dc10 pm10 cd10 ct10 oc11 kV11 dc11 pm11 cd11 ct11 oc12 kV12 dc12 pm12 cd12 ct12 oc13 kV13 dc13 pm13 cd13 ct13 oc14 kV14 dc14 pm14 cd14 ct14 oc15 kV15 dc15 pm15 cd15 ct15 oc16 kV16 dc16 pm16 cd16 ct16 oc17 kV17 dc17 pm17 cd17 ct17 oc18 kV18 dc18 pm18 cd18 ct18 oc19 kV19 dc19 pm19 cd19 ct19 oc20 kV20 dc20 pm20 cd20 ct20 oc21 kV21 dc21 pm21 cd21 ct21 oc22 kV22 dc22 pm22 cd22 ct22 oc23 kV23 dc23 pm23 cd23 ct23 oc24 kV24 dc24 pm24 cd24 ct24 : Value}
    (a1 : PySem.W.nsIn K mainGlobals "is_whole" = some (some (.ref f1))) (l1 : K.lookup f1 = some ⟨oc1, od1, .func (PySem.W.fnOf "is_whole" "is_whole" (defArgs sWhole) (defBody sWhole) (defScope sWhole) .none kV1 dc1 pm1 an1 cd1 ct1), sl1⟩) (c1 : PySem.W.codeIn K cd1 "is_whole" = true)
    (a2 : PySem.W.nsIn K mainGlobals "is_between" = some (some (.ref f2))) (l2 : K.lookup f2 = some ⟨oc2, od2, .func (PySem.W.fnOf "is_between" "is_between" (defArgs sBetween) (defBody sBetween) (defScope sBetween) .none kV2 dc2 pm2 an2 cd2 ct2), sl2⟩) (c2 : PySem.W.codeIn K cd2 "is_between" = true)
    (a3 : PySem.W.nsIn K mainGlobals "is_name" = some (some (.ref f3))) (l3 : K.lookup f3 = some ⟨oc3, od3, .func (PySem.W.fnOf "is_name" "is_name" (defArgs sIsName) (defBody sIsName) (defScope sIsName) .none kV3 dc3 pm3 an3 cd3 ct3), sl3⟩) (c3 : PySem.W.codeIn K cd3 "is_name" = true)
    (a4 : PySem.W.nsIn K mainGlobals "is_tuple_of" = some (some (.ref f4))) (l4 : K.lookup f4 = some ⟨oc4, od4, .func (PySem.W.fnOf "is_tuple_of" "is_tuple_of" (defArgs sTupleOf) (defBody sTupleOf) (defScope sTupleOf) .none kV4 dc4 pm4 an4 cd4 ct4), sl4⟩) (c4 : PySem.W.codeIn K cd4 "is_tuple_of" = true)
    (a5 : PySem.W.nsIn K mainGlobals "word_limit" = some (some (.ref f5))) (l5 : K.lookup f5 = some ⟨oc5, od5, .func (PySem.W.fnOf "word_limit" "word_limit" (defArgs sLimit) (defBody sLimit) (defScope sLimit) .none kV5 dc5 pm5 an5 cd5 ct5), sl5⟩) (c5 : PySem.W.codeIn K cd5 "word_limit" = true)
    (a6 : PySem.W.nsIn K mainGlobals "number_read" = some (some (.ref f6))) (l6 : K.lookup f6 = some ⟨oc6, od6, .func (PySem.W.fnOf "number_read" "number_read" (defArgs sNumRead) (defBody sNumRead) (defScope sNumRead) .none kV6 dc6 pm6 an6 cd6 ct6), sl6⟩) (c6 : PySem.W.codeIn K cd6 "number_read" = true)
    (a7 : PySem.W.nsIn K mainGlobals "is_machine" = some (some (.ref f7))) (l7 : K.lookup f7 = some ⟨oc7, od7, .func (PySem.W.fnOf "is_machine" "is_machine" (defArgs sIsMachine) (defBody sIsMachine) (defScope sIsMachine) .none kV7 dc7 pm7 an7 cd7 ct7), sl7⟩) (c7 : PySem.W.codeIn K cd7 "is_machine" = true)
    (a8 : PySem.W.nsIn K mainGlobals "are_registers" = some (some (.ref f8))) (l8 : K.lookup f8 = some ⟨oc8, od8, .func (PySem.W.fnOf "are_registers" "are_registers" (defArgs sAreRegs) (defBody sAreRegs) (defScope sAreRegs) .none kV8 dc8 pm8 an8 cd8 ct8), sl8⟩) (c8 : PySem.W.codeIn K cd8 "are_registers" = true)
    (a9 : PySem.W.nsIn K mainGlobals "show_machine" = some (some (.ref f9))) (l9 : K.lookup f9 = some ⟨oc9, od9, .func (PySem.W.fnOf "show_machine" "show_machine" (defArgs sShowM) (defBody sShowM) (defScope sShowM) .none kV9 dc9 pm9 an9 cd9 ct9), sl9⟩) (c9 : PySem.W.codeIn K cd9 "show_machine" = true)
    (a10 : PySem.W.nsIn K mainGlobals "read_machine" = some (some (.ref f10))) (l10 : K.lookup f10 = some ⟨oc10, od10, .func (PySem.W.fnOf "read_machine" "read_machine" (defArgs sReadM) (defBody sReadM) (defScope sReadM) .none kV10 dc10 pm10 an10 cd10 ct10), sl10⟩) (c10 : PySem.W.codeIn K cd10 "read_machine" = true)
    (a11 : PySem.W.nsIn K mainGlobals "machine_read" = some (some (.ref f11))) (l11 : K.lookup f11 = some ⟨oc11, od11, .func (PySem.W.fnOf "machine_read" "machine_read" (defArgs sMachRead) (defBody sMachRead) (defScope sMachRead) .none kV11 dc11 pm11 an11 cd11 ct11), sl11⟩) (c11 : PySem.W.codeIn K cd11 "machine_read" = true)
    (a12 : PySem.W.nsIn K mainGlobals "_law_sack" = some (some (.ref f12))) (l12 : K.lookup f12 = some ⟨oc12, od12, .func (PySem.W.fnOf "_law_sack" "_law_sack" (defArgs sSack) (defBody sSack) (defScope sSack) .none kV12 dc12 pm12 an12 cd12 ct12), sl12⟩) (c12 : PySem.W.codeIn K cd12 "_law_sack" = true)
    (a13 : PySem.W.nsIn K mainGlobals "_law_pull" = some (some (.ref f13))) (l13 : K.lookup f13 = some ⟨oc13, od13, .func (PySem.W.fnOf "_law_pull" "_law_pull" (defArgs sPull) (defBody sPull) (defScope sPull) .none kV13 dc13 pm13 an13 cd13 ct13), sl13⟩) (c13 : PySem.W.codeIn K cd13 "_law_pull" = true)
    (a14 : PySem.W.nsIn K mainGlobals "_law_names" = some (some (.ref f14))) (l14 : K.lookup f14 = some ⟨oc14, od14, .func (PySem.W.fnOf "_law_names" "_law_names" (defArgs sNames) (defBody sNames) (defScope sNames) .none kV14 dc14 pm14 an14 cd14 ct14), sl14⟩) (c14 : PySem.W.codeIn K cd14 "_law_names" = true)
    (a15 : PySem.W.nsIn K mainGlobals "_law_own" = some (some (.ref f15))) (l15 : K.lookup f15 = some ⟨oc15, od15, .func (PySem.W.fnOf "_law_own" "_law_own" (defArgs sOwn) (defBody sOwn) (defScope sOwn) .none kV15 dc15 pm15 an15 cd15 ct15), sl15⟩) (c15 : PySem.W.codeIn K cd15 "_law_own" = true)
    (a16 : PySem.W.nsIn K mainGlobals "_law_is_name" = some (some (.ref f16))) (l16 : K.lookup f16 = some ⟨oc16, od16, .func (PySem.W.fnOf "_law_is_name" "_law_is_name" (defArgs sLIsName) (defBody sLIsName) (defScope sLIsName) .none kV16 dc16 pm16 an16 cd16 ct16), sl16⟩) (c16 : PySem.W.codeIn K cd16 "_law_is_name" = true)
    (a17 : PySem.W.nsIn K mainGlobals "_law_same" = some (some (.ref f17))) (l17 : K.lookup f17 = some ⟨oc17, od17, .func (PySem.W.fnOf "_law_same" "_law_same" (defArgs sSame) (defBody sSame) (defScope sSame) .none kV17 dc17 pm17 an17 cd17 ct17), sl17⟩) (c17 : PySem.W.codeIn K cd17 "_law_same" = true)
    (a18 : PySem.W.nsIn K mainGlobals "_law_changed" = some (some (.ref f18))) (l18 : K.lookup f18 = some ⟨oc18, od18, .func (PySem.W.fnOf "_law_changed" "_law_changed" (defArgs sChanged) (defBody sChanged) (defScope sChanged) .none kV18 dc18 pm18 an18 cd18 ct18), sl18⟩) (c18 : PySem.W.codeIn K cd18 "_law_changed" = true)
    (a19 : PySem.W.nsIn K mainGlobals "_law_word_of" = some (some (.ref f19))) (l19 : K.lookup f19 = some ⟨oc19, od19, .func (PySem.W.fnOf "_law_word_of" "_law_word_of" (defArgs sWordOf) (defBody sWordOf) (defScope sWordOf) .none kV19 dc19 pm19 an19 cd19 ct19), sl19⟩) (c19 : PySem.W.codeIn K cd19 "_law_word_of" = true)
    (a20 : PySem.W.nsIn K mainGlobals "_law_number" = some (some (.ref f20))) (l20 : K.lookup f20 = some ⟨oc20, od20, .func (PySem.W.fnOf "_law_number" "_law_number" (defArgs sNumL) (defBody sNumL) (defScope sNumL) .none kV20 dc20 pm20 an20 cd20 ct20), sl20⟩) (c20 : PySem.W.codeIn K cd20 "_law_number" = true)
    (a21 : PySem.W.nsIn K mainGlobals "_law_read" = some (some (.ref f21))) (l21 : K.lookup f21 = some ⟨oc21, od21, .func (PySem.W.fnOf "_law_read" "_law_read" (defArgs sReadL) (defBody sReadL) (defScope sReadL) .none kV21 dc21 pm21 an21 cd21 ct21), sl21⟩) (c21 : PySem.W.codeIn K cd21 "_law_read" = true)
    (a22 : PySem.W.nsIn K mainGlobals "_law_told" = some (some (.ref f22))) (l22 : K.lookup f22 = some ⟨oc22, od22, .func (PySem.W.fnOf "_law_told" "_law_told" (defArgs sToldL) (defBody sToldL) (defScope sToldL) .none kV22 dc22 pm22 an22 cd22 ct22), sl22⟩) (c22 : PySem.W.codeIn K cd22 "_law_told" = true)
    (a23 : PySem.W.nsIn K mainGlobals "_law_right" = some (some (.ref f23))) (l23 : K.lookup f23 = some ⟨oc23, od23, .func (PySem.W.fnOf "_law_right" "_law_right" (defArgs sRight) (defBody sRight) (defScope sRight) .none kV23 dc23 pm23 an23 cd23 ct23), sl23⟩) (c23 : PySem.W.codeIn K cd23 "_law_right" = true)
    (a24 : PySem.W.nsIn K mainGlobals "law" = some (some (.ref f24))) (l24 : K.lookup f24 = some ⟨oc24, od24, .func (PySem.W.fnOf "law" "law" (defArgs sLaw) (defBody sLaw) (defScope sLaw) .none kV24 dc24 pm24 an24 cd24 ct24), sl24⟩) (c24 : PySem.W.codeIn K cd24 "law" = true)
    (t1 : (recsOf q).any (fun e => e.name == "is_name") = true) (t2 : (recsOf q).any (fun e => e.name == "are_registers") = true) (t3 : (recsOf q).any (fun e => e.name == "number_read") = true)
    {gt1 gt2 gt3 gt4 gt5 gt6 : Tok} (gm1 : PySem.W.nsIn K mainGlobals "LETTERS" = some (some (.str "abcdefghijklmnopqrstuvwxyz" gt1))) (gm2 : PySem.W.nsIn K mainGlobals "MOST_LETTERS" = some (some (.int 8 gt2))) (gm3 : PySem.W.nsIn K mainGlobals "MOST_BITS" = some (some (.int 8 gt3))) (gm4 : PySem.W.nsIn K mainGlobals "MOST_REGISTERS" = some (some (.int 6 gt4))) (gm5 : PySem.W.nsIn K mainGlobals "MOST_HIDDEN" = some (some (.int 12 gt5))) (gm6 : PySem.W.nsIn K mainGlobals "MOST_UNITS" = some (some (.int 3 gt6)))
    {gt7 gt8 gt9 gt10 : Tok} (gm7 : PySem.W.nsIn K mainGlobals "FIGURES" = some (some (.str "0123456789" gt7))) (gm8 : PySem.W.nsIn K mainGlobals "MOST_FIGURES" = some (some (.int 9 gt8))) (gm9 : PySem.W.nsIn K mainGlobals "AHEAD_OF_REGISTERS" = some (some (.int 3 gt9))) (gm10 : PySem.W.nsIn K mainGlobals "BEHIND_REGISTERS" = some (some (.int 8 gt10)))
    {xC xl x1 x2 x3 x4 x5 x6 x7 xf xcc xcda : Addr} {xkV xdc xpm xct xccl xcl : Value} {xan xod xcdd xcld : Option Addr} {xosl xccs xcsl : Array (Option Value)} {xvs : Array Value} {xfile : Str} {xtf : Tok} (emxC : PySem.W.nsIn K mainGlobals "NoText" = some (some (.ref xC))) (emxl : PySem.W.nsIn K mainGlobals "LoftError" = some (some (.ref xl))) (emx1 : PySem.W.nsIn K mainGlobals "NoCells" = some (some (.ref x1))) (emx2 : PySem.W.nsIn K mainGlobals "NoLoft" = some (some (.ref x2))) (emx3 : PySem.W.nsIn K mainGlobals "NoName" = some (some (.ref x3))) (emx4 : PySem.W.nsIn K mainGlobals "NoRoom" = some (some (.ref x4))) (emx5 : PySem.W.nsIn K mainGlobals "NoRow" = some (some (.ref x5))) (emx6 : PySem.W.nsIn K mainGlobals "NotStill" = some (some (.ref x6))) (emx7 : PySem.W.nsIn K mainGlobals "TooMany" = some (some (.ref x7))) (emv : PySem.W.nsIn K mainGlobals "ValueError" = some none) (eini : PySem.W.findIn K (.ref xC) "__init__" = some (some (.ref xf))) (elk : K.lookup xf = some ⟨.type "function", xod, .func (fdNoTx xkV xdc xpm xan (.ref xcda) xct xcc), xosl⟩) (ecd : PySem.W.codeIn K (.ref xcda) "NoText.__init__" = true) (elc : K.lookup xcda = some ⟨xccl, xcdd, .fields xvs, xccs⟩) (ehv : xvs[2]? = some (.str xfile xtf)) (ehf : ((l.prog.main.file : Str) == xfile) = true) (ecel : K.lookup xcc = some ⟨xcl, xcld, .cell (some (.ref xC)), xcsl⟩) (esup : PySem.W.ks_superIn K xC xC "__init__" = some (some (.builtin "ValueError.__init__"))) (esa : PySem.W.findIn K (.ref xC) "__setattr__" = some (some (.builtin "object.__setattr__"))) (ena : PySem.W.findIn K (.ref xC) "row" = some none) (eexc : excInA K xC [.type "ValueError", .type "Exception", .type "BaseException", .type "object"] "ValueError.__new__" = true) (ekp : PySem.W.keepIn K (.ref xC) = true) (eve : PySem.W.mroIn K xC (.type "ValueError") = some true) (eself : PySem.W.mroIn K xC (.ref xC) = some true) (ens : PySem.W.nsIn K mainGlobals "super" = some none) (eopq : PySem.W.nsIn K cStatics "thirdparty.any" = some none) (etop : (l.prog.main.scope.names.lookup ("super" : Str)).isSome = false) (eexm : PySem.W.exmOne K (.ref xC) (.ref xl) = some true) (eg1 : PySem.W.findIn K (.ref xC) "__getattribute__" = some (some (.builtin "BaseException.__getattribute__"))) (eg2 : PySem.W.findIn K (.ref xC) "__getattr__" = some none) (eg3 : PySem.W.hasDictIn K xC = true) (eg4 : PySem.W.findIn K (.ref xC) "__class__" = some (some (.builtin "object.__class__"))) (eg5 : PySem.W.mroIn K xC (.type "object") = some true) (eg6 : PySem.W.mroIn K xC (.type "BaseException") = some true) (ekk : PySem.W.kitAny K (.ref xC) [.ref x1, .ref x2, .ref x3, .ref x4, .ref x5, .ref x6, .ref x7] = some false) (evv : PySem.W.kitOne K (.ref xC) (.type "ValueError") = some true)
    (z1 : PySem.W.nsIn K mainGlobals "isinstance" = some none) (z2 : PySem.W.nsIn K mainGlobals "tuple" = some none) (z3 : PySem.W.nsIn K mainGlobals "str" = some none) (z4 : PySem.W.nsIn K mainGlobals "int" = some none) (z5 : PySem.W.nsIn K mainGlobals "len" = some none) (z6 : PySem.W.nsIn K mainGlobals "range" = some none) (z7 : PySem.W.nsIn K mainGlobals "max" = some none) (z8 : PySem.W.nsIn K mainGlobals "min" = some none) (z9 : PySem.W.nsIn K mainGlobals "list" = some none) (z10 : PySem.W.nsIn K mainGlobals "all" = some none) (z11 : PySem.W.nsIn K mainGlobals "zip" = some none) (z12 : PySem.W.nsIn K mainGlobals "bool" = some none) (z13 : PySem.W.nsIn K mainGlobals "enumerate" = some none) (z14 : PySem.W.nsIn K mainGlobals "set" = some none) :
    ∃ (fd : FuncData) (ts : List Addr), TabsOk h ts ∧ (∀ (s : Shared) (v : Value), BindsTo s fd ⟨[v], []⟩ [("script", v)]) ∧ ∀ base : Heap, (kWo K ts).In base → base.Ns mainGlobals mg → (∀ b o, h.get? b = some o → b ∉ ts → o.cls ≠ .type "list" → base.get? b = some o) → FnOk l.prog w (kWo K ts) mg base CX0 9 fa fd ["script"] (spLaw (kWo K ts) ts) := by
  have e := hfa.symm.trans (PySem.W.mg_of X G a24)
  cases e
  obtain ⟨A1, O1, FD1, C1, P1, x1, x2, x3, x4, ic1, it1⟩ := tab _ t1
  have y1 := x1.symm.trans (PySem.W.mg_of X G a3)
  cases y1
  rw [X _ _ l3] at x2
  cases x2
  cases x3
  have ec1 : cd3 = .ref C1 := x4
  clear x1 x4
  obtain ⟨A2, O2, FD2, C2, P2, x1, x2, x3, x4, ic2, it2⟩ := tab _ t2
  have y1 := x1.symm.trans (PySem.W.mg_of X G a8)
  cases y1
  rw [X _ _ l8] at x2
  cases x2
  cases x3
  have ec2 : cd8 = .ref C2 := x4
  clear x1 x4
  obtain ⟨A3, O3, FD3, C3, P3, x1, x2, x3, x4, ic3, it3⟩ := tab _ t3
  have y1 := x1.symm.trans (PySem.W.mg_of X G a6)
  cases y1
  rw [X _ _ l6] at x2
  cases x2
  cases x3
  have ec3 : cd6 = .ref C3 := x4
  clear x1 x4
  have tk : TabsOk h [P1, P2, P3] := by
    intro T hT
    simp only [List.mem_cons, List.mem_nil_iff, or_false] at hT
    rcases hT with rfl | rfl | rfl
    · exact ⟨it1.isCodeTable, it1.2⟩
    · exact ⟨it2.isCodeTable, it2.2⟩
    · exact ⟨it3.isCodeTable, it3.2⟩
  have F1 := fun_mk (st := sWhole) (tk.keep X l1 (.inr fun z => by cases z)) (tk.code X c1) (tk.kp X l1)
  have F2 := fun_mk (st := sBetween) (tk.keep X l2 (.inr fun z => by cases z)) (tk.code X c2) (tk.kp X l2)
  have F3 := fun_mk (st := sIsName) (tk.keep X l3 (.inr fun z => by cases z)) (tk.code X c3) (tk.kp X l3)
  have F4 := fun_mk (st := sTupleOf) (tk.keep X l4 (.inr fun z => by cases z)) (tk.code X c4) (tk.kp X l4)
  have F5 := fun_mk (st := sLimit) (tk.keep X l5 (.inr fun z => by cases z)) (tk.code X c5) (tk.kp X l5)
  have F6 := fun_mk (st := sNumRead) (tk.keep X l6 (.inr fun z => by cases z)) (tk.code X c6) (tk.kp X l6)
  have F7 := fun_mk (st := sIsMachine) (tk.keep X l7 (.inr fun z => by cases z)) (tk.code X c7) (tk.kp X l7)
  have F8 := fun_mk (st := sAreRegs) (tk.keep X l8 (.inr fun z => by cases z)) (tk.code X c8) (tk.kp X l8)
  have F9 := fun_mk (st := sShowM) (tk.keep X l9 (.inr fun z => by cases z)) (tk.code X c9) (tk.kp X l9)
  have F10 := fun_mk (st := sReadM) (tk.keep X l10 (.inr fun z => by cases z)) (tk.code X c10) (tk.kp X l10)
  have F11 := fun_mk (st := sMachRead) (tk.keep X l11 (.inr fun z => by cases z)) (tk.code X c11) (tk.kp X l11)
  have F12 := fun_mk (st := sSack) (tk.keep X l12 (.inr fun z => by cases z)) (tk.code X c12) (tk.kp X l12)
  have F13 := fun_mk (st := sPull) (tk.keep X l13 (.inr fun z => by cases z)) (tk.code X c13) (tk.kp X l13)
  have F14 := fun_mk (st := sNames) (tk.keep X l14 (.inr fun z => by cases z)) (tk.code X c14) (tk.kp X l14)
  have F15 := fun_mk (st := sOwn) (tk.keep X l15 (.inr fun z => by cases z)) (tk.code X c15) (tk.kp X l15)
  have F16 := fun_mk (st := sLIsName) (tk.keep X l16 (.inr fun z => by cases z)) (tk.code X c16) (tk.kp X l16)
  have F17 := fun_mk (st := sSame) (tk.keep X l17 (.inr fun z => by cases z)) (tk.code X c17) (tk.kp X l17)
  have F18 := fun_mk (st := sChanged) (tk.keep X l18 (.inr fun z => by cases z)) (tk.code X c18) (tk.kp X l18)
  have F19 := fun_mk (st := sWordOf) (tk.keep X l19 (.inr fun z => by cases z)) (tk.code X c19) (tk.kp X l19)
  have F20 := fun_mk (st := sNumL) (tk.keep X l20 (.inr fun z => by cases z)) (tk.code X c20) (tk.kp X l20)
  have F21 := fun_mk (st := sReadL) (tk.keep X l21 (.inr fun z => by cases z)) (tk.code X c21) (tk.kp X l21)
  have F22 := fun_mk (st := sToldL) (tk.keep X l22 (.inr fun z => by cases z)) (tk.code X c22) (tk.kp X l22)
  have F23 := fun_mk (st := sRight) (tk.keep X l23 (.inr fun z => by cases z)) (tk.code X c23) (tk.kp X l23)
  have F24 := fun_mk (st := sLaw) (tk.keep X l24 (.inr fun z => by cases z)) (tk.code X c24) (tk.kp X l24)
  have b1 := F1.binds (ps := ["thing"]) fun _ _ _ _ _ _ us hl => match us, hl with | [_], _ => rfl
  let d1 : Df (kWo K [P1, P2, P3]) mg "is_whole" sWhole ["thing"] := ⟨f1, _, F1, b1, PySem.W.mg_of X G a1⟩
  have b2 := F2.binds (ps := ["thing", "low", "high"]) fun _ _ _ _ _ _ us hl => match us, hl with | [_, _, _], _ => rfl
  let d2 : Df (kWo K [P1, P2, P3]) mg "is_between" sBetween ["thing", "low", "high"] := ⟨f2, _, F2, b2, PySem.W.mg_of X G a2⟩
  have b3 := F3.binds (ps := ["thing"]) fun _ _ _ _ _ _ us hl => match us, hl with | [_], _ => rfl
  let d3 : Df (kWo K [P1, P2, P3]) mg "is_name" sIsName ["thing"] := ⟨f3, _, F3, b3, PySem.W.mg_of X G a3⟩
  have b4 := F4.binds (ps := ["thing", "many"]) fun _ _ _ _ _ _ us hl => match us, hl with | [_, _], _ => rfl
  let d4 : Df (kWo K [P1, P2, P3]) mg "is_tuple_of" sTupleOf ["thing", "many"] := ⟨f4, _, F4, b4, PySem.W.mg_of X G a4⟩
  have b5 := F5.binds (ps := ["machine"]) fun _ _ _ _ _ _ us hl => match us, hl with | [_], _ => rfl
  let d5 : Df (kWo K [P1, P2, P3]) mg "word_limit" sLimit ["machine"] := ⟨f5, _, F5, b5, PySem.W.mg_of X G a5⟩
  have b6 := F6.binds (ps := ["word"]) fun _ _ _ _ _ _ us hl => match us, hl with | [_], _ => rfl
  let d6 : Df (kWo K [P1, P2, P3]) mg "number_read" sNumRead ["word"] := ⟨f6, _, F6, b6, PySem.W.mg_of X G a6⟩
  have b7 := F7.binds (ps := ["thing"]) fun _ _ _ _ _ _ us hl => match us, hl with | [_], _ => rfl
  let d7 : Df (kWo K [P1, P2, P3]) mg "is_machine" sIsMachine ["thing"] := ⟨f7, _, F7, b7, PySem.W.mg_of X G a7⟩
  have b8 := F8.binds (ps := ["thing"]) fun _ _ _ _ _ _ us hl => match us, hl with | [_], _ => rfl
  let d8 : Df (kWo K [P1, P2, P3]) mg "are_registers" sAreRegs ["thing"] := ⟨f8, _, F8, b8, PySem.W.mg_of X G a8⟩
  have b9 := F9.binds (ps := ["machine"]) fun _ _ _ _ _ _ us hl => match us, hl with | [_], _ => rfl
  let d9 : Df (kWo K [P1, P2, P3]) mg "show_machine" sShowM ["machine"] := ⟨f9, _, F9, b9, PySem.W.mg_of X G a9⟩
  have b10 := F10.binds (ps := ["text"]) fun _ _ _ _ _ _ us hl => match us, hl with | [_], _ => rfl
  let d10 : Df (kWo K [P1, P2, P3]) mg "read_machine" sReadM ["text"] := ⟨f10, _, F10, b10, PySem.W.mg_of X G a10⟩
  have b11 := F11.binds (ps := ["text"]) fun _ _ _ _ _ _ us hl => match us, hl with | [_], _ => rfl
  let d11 : Df (kWo K [P1, P2, P3]) mg "machine_read" sMachRead ["text"] := ⟨f11, _, F11, b11, PySem.W.mg_of X G a11⟩
  have b12 := F12.binds (ps := ["cell", "k"]) fun _ _ _ _ _ _ us hl => match us, hl with | [_, _], _ => rfl
  let d12 : Df (kWo K [P1, P2, P3]) mg "_law_sack" sSack ["cell", "k"] := ⟨f12, _, F12, b12, PySem.W.mg_of X G a12⟩
  have b13 := F13.binds (ps := ["sack", "many"]) fun _ _ _ _ _ _ us hl => match us, hl with | [_, _], _ => rfl
  let d13 : Df (kWo K [P1, P2, P3]) mg "_law_pull" sPull ["sack", "many"] := ⟨f13, _, F13, b13, PySem.W.mg_of X G a13⟩
  have b14 := F14.binds (ps := ["sack", "many"]) fun _ _ _ _ _ _ us hl => match us, hl with | [_, _], _ => rfl
  let d14 : Df (kWo K [P1, P2, P3]) mg "_law_names" sNames ["sack", "many"] := ⟨f14, _, F14, b14, PySem.W.mg_of X G a14⟩
  have b15 := F15.binds (ps := ["sack"]) fun _ _ _ _ _ _ us hl => match us, hl with | [_], _ => rfl
  let d15 : Df (kWo K [P1, P2, P3]) mg "_law_own" sOwn ["sack"] := ⟨f15, _, F15, b15, PySem.W.mg_of X G a15⟩
  have b16 := F16.binds (ps := ["what"]) fun _ _ _ _ _ _ us hl => match us, hl with | [_], _ => rfl
  let d16 : Df (kWo K [P1, P2, P3]) mg "_law_is_name" sLIsName ["what"] := ⟨f16, _, F16, b16, PySem.W.mg_of X G a16⟩
  have b17 := F17.binds (ps := ["found", "due"]) fun _ _ _ _ _ _ us hl => match us, hl with | [_, _], _ => rfl
  let d17 : Df (kWo K [P1, P2, P3]) mg "_law_same" sSame ["found", "due"] := ⟨f17, _, F17, b17, PySem.W.mg_of X G a17⟩
  have b18 := F18.binds (ps := ["sack", "line"]) fun _ _ _ _ _ _ us hl => match us, hl with | [_, _], _ => rfl
  let d18 : Df (kWo K [P1, P2, P3]) mg "_law_changed" sChanged ["sack", "line"] := ⟨f18, _, F18, b18, PySem.W.mg_of X G a18⟩
  have b19 := F19.binds (ps := ["caught"]) fun _ _ _ _ _ _ us hl => match us, hl with | [_], _ => rfl
  let d19 : Df (kWo K [P1, P2, P3]) mg "_law_word_of" sWordOf ["caught"] := ⟨f19, _, F19, b19, PySem.W.mg_of X G a19⟩
  have b20 := F20.binds (ps := ["word"]) fun _ _ _ _ _ _ us hl => match us, hl with | [_], _ => rfl
  let d20 : Df (kWo K [P1, P2, P3]) mg "_law_number" sNumL ["word"] := ⟨f20, _, F20, b20, PySem.W.mg_of X G a20⟩
  have b21 := F21.binds (ps := ["line"]) fun _ _ _ _ _ _ us hl => match us, hl with | [_], _ => rfl
  let d21 : Df (kWo K [P1, P2, P3]) mg "_law_read" sReadL ["line"] := ⟨f21, _, F21, b21, PySem.W.mg_of X G a21⟩
  have b22 := F22.binds (ps := ["line"]) fun _ _ _ _ _ _ us hl => match us, hl with | [_], _ => rfl
  let d22 : Df (kWo K [P1, P2, P3]) mg "_law_told" sToldL ["line"] := ⟨f22, _, F22, b22, PySem.W.mg_of X G a22⟩
  have b23 := F23.binds (ps := ["sack"]) fun _ _ _ _ _ _ us hl => match us, hl with | [_], _ => rfl
  let d23 : Df (kWo K [P1, P2, P3]) mg "_law_right" sRight ["sack"] := ⟨f23, _, F23, b23, PySem.W.mg_of X G a23⟩
  have C : Cs mg := ⟨⟨_, PySem.W.mg_of X G gm1⟩, ⟨_, PySem.W.mg_of X G gm2⟩, ⟨_, PySem.W.mg_of X G gm3⟩, ⟨_, PySem.W.mg_of X G gm4⟩, ⟨_, PySem.W.mg_of X G gm5⟩, ⟨_, PySem.W.mg_of X G gm6⟩⟩
  have C2 : Cs2 mg := ⟨⟨_, PySem.W.mg_of X G gm7⟩, ⟨_, PySem.W.mg_of X G gm8⟩, ⟨_, PySem.W.mg_of X G gm9⟩, ⟨_, PySem.W.mg_of X G gm10⟩⟩
  obtain ⟨R, _⟩ := errT_mk (P := l.prog) tk X G emxC emxl emx1 emx2 emx3 emx4 emx5 emx6 emx7 emv eini elk ecd elc ehv ehf ecel esup esa ena eexc ekp eve eself ens eopq etop eexm eg1 eg2 eg3 eg4 eg5 eg6 ekk evv
  have B : Bl mg := ⟨PySem.W.mg_none_of X G z1, PySem.W.mg_none_of X G z2, PySem.W.mg_none_of X G z3, PySem.W.mg_none_of X G z4, PySem.W.mg_none_of X G z5, PySem.W.mg_none_of X G z6, PySem.W.mg_none_of X G z7, PySem.W.mg_none_of X G z8, PySem.W.mg_none_of X G z9, PySem.W.mg_none_of X G z10, PySem.W.mg_none_of X G z11, PySem.W.mg_none_of X G z12, PySem.W.mg_none_of X G z13, PySem.W.mg_none_of X G z14⟩
  let DM : DfM (kWo K [P1, P2, P3]) mg := ⟨d4, d1, d2, d5, d3, d8⟩
  let DT : DfT (kWo K [P1, P2, P3]) mg := ⟨DM, d6, d11, d7, d9⟩
  let D : Dfs (kWo K [P1, P2, P3]) mg := ⟨DT, d13, d14, d15, d17, d18, d19, d20, d16, d21, d22, d10⟩
  refine ⟨PySem.W.fnOf "law" "law" (defArgs sLaw) (defBody sLaw) (defScope sLaw) .none kV24 dc24 pm24 an24 cd24 ct24, [P1, P2, P3], tk, fun s v => .of_eq rfl, fun base _ _ hb => ?_⟩
  have gk1 : GenK base mg d3.fd.code P1 := genK_of ic1 it1 ec1 bmain tk hb
  have gk2 : GenK base mg d8.fd.code P2 := genK_of ic2 it2 ec2 bmain tk hb
  have gk3 : GenK base mg d6.fd.code P3 := genK_of ic3 it3 ec3 bmain tk hb
  exact ok_law F24 d12 d23 (ok_right F23 R D C C2 gk1 gk2 gk3 B) B
end My
namespace My
open PySem PySem.Spec PyProof.Rows PySem.W PySem.Calls L2
theorem walk {l : PySem.W.OpenLaw} {q : Program} {loose : List Str} {XP : (Str → Option Value) → Heap → Prop} {YP : World → Heap → Prop} {d : DefRec} {K : Params → PySem.W.Frag} (hn : l.most = some 63) (hdf : d.params.defaults = [])
    (hY : ∀ (w : World) (h : Heap), YP w h → (K w.params).In h)
    (F : ∀ (w : World) (mg : Str → Option Value) (fa : Addr) (h : Heap), (K w.params).In h → h.Ns mainGlobals mg → mg d.name = some (.ref fa) →
      (∀ nm : Str, (recsOf q).any (fun e => e.name == nm) = true → ∃ a o fd c P, mg nm = some (.ref a) ∧ h.get? a = some o ∧ o.data = .func fd ∧ fd.code = .ref c ∧ h.IsCode c P #[] ∧ h.TableAt c P #[]) →
      (∃ bm ob, mg "__builtins__" = some (.ref bm) ∧ bm ≠ builtinsNs ∧ h.get? bm = some ob ∧ ob.cls = .type "module" ∧ ob.dict = some builtinsNs ∧ ob.data = .plain) →
      ∃ (fd : FuncData) (ts : List Addr), TabsOk h ts ∧ (∀ (s : Shared) (u : Value), BindsTo s fd ⟨[u], []⟩ [("script", u)]) ∧ ∀ base : Heap, (kWo (K w.params) ts).In base → base.Ns mainGlobals mg → (∀ b o, h.get? b = some o → b ∉ ts → o.cls ≠ .type "list" → base.get? b = some o) → FnOk l.prog w (kWo (K w.params) ts) mg base CX0 9 fa fd ["script"] (spLaw (kWo (K w.params) ts) ts)) :
    PySem.W.WalkO q loose XP YP l.row.toRowW d [] (fun f vs => PySem.call f vs) := by
  intro w s₀ s₁ mg mb G Y fa o pm cd doc dV kV ho hd hcd hD hmg hg args vals as hpre hlay hrd hwl hlo
  obtain rfl : dV = .none := Dflts.none hD hdf
  obtain rfl : kV = .none := Dflts.noKw hD
  obtain ⟨a, vs, ns, rfl, rfl, hobj, hints, hlen⟩ := Att.script_of hn hpre hwl
  have KX := hY w _ Y
  obtain ⟨fd, ts, tk, hb, hF⟩ := F w mg fa _ KX G.T.g hmg (fun nm hnm => by
    obtain ⟨e, he, en⟩ := List.any_eq_true.mp hnm
    have := G.T.tab e he
    rw [eq_of_beq en] at this
    exact this) G.T.bmain
  refine enter_call (codeAny_mono (law_callG KX tk G.T.g G.T.b G.T.builtins G.T.nolimit hg hobj hints (Nat.le_trans hlen (by decide)) ⟨rfl, by decide, by decide⟩ (fun base h1 h2 h3 => hF base h1 h2 fun b o e hn hc => h3 b o e hn (fun z => by
    subst z
    rw [hobj] at e
    cases e
    exact hc rfl)) hb (fun H hT hS => ⟨a, ns, rfl, hS, hlen, hT, fun H' sm => ⟨rfl, sm⟩⟩) fun H e s' z => z) fun r s' hq => ?_)
  obtain ⟨rfl, h2, h3, h4⟩ := hq
  exact ⟨.inl ⟨.bool true, .bool true, [], rfl, fun _ => rfl, .bool true, Att.post_true l _, fun _ => ⟨List.Pairwise.nil, fun _ hm => (nomatch hm)⟩⟩, h2, h3, h4⟩
end My
open PySem PySem.W PyProof.Rows
set_option Elab.async false
set_option maxRecDepth 100000 in
set_option maxHeartbeats 0 in
theorem PySem.Challenge.cw_steploft_k15_texts_of_no_machine_holds : PySem.Challenge.rw_steploft_k15_texts_of_no_machine.Holds := by
  w_on; o_law; k_head; (case hw => w_witness2)
  k_fill
  refine My.walk (l := PySem.Challenge.rw_steploft_k15_texts_of_no_machine) rfl rfl (fun w h Y => PySem.W.kIn_of Y) ?F
  case F =>
    intro w mg fa h KX G hmg tab bmain
    refine' My.all_mk KX G hmg tab bmain ?a1 ?l1 ?c1 ?a2 ?l2 ?c2 ?a3 ?l3 ?c3 ?a4 ?l4 ?c4 ?a5 ?l5 ?c5 ?a6 ?l6 ?c6 ?a7 ?l7 ?c7 ?a8 ?l8 ?c8 ?a9 ?l9 ?c9 ?a10 ?l10 ?c10 ?a11 ?l11 ?c11 ?a12 ?l12 ?c12 ?a13 ?l13 ?c13 ?a14 ?l14 ?c14 ?a15 ?l15 ?c15 ?a16 ?l16 ?c16 ?a17 ?l17 ?c17 ?a18 ?l18 ?c18 ?a19 ?l19 ?c19 ?a20 ?l20 ?c20 ?a21 ?l21 ?c21 ?a22 ?l22 ?c22 ?a23 ?l23 ?c23 ?a24 ?l24 ?c24 ?t1 ?t2 ?t3 ?gm1 ?gm2 ?gm3 ?gm4 ?gm5 ?gm6 ?gm7 ?gm8 ?gm9 ?gm10 ?emxC ?emxl ?emx1 ?emx2 ?emx3 ?emx4 ?emx5 ?emx6 ?emx7 ?emv ?eini ?elk ?ecd ?elc ?ehv ?ehf ?ecel ?esup ?esa ?ena ?eexc ?ekp ?eve ?eself ?ens ?eopq ?etop ?eexm ?eg1 ?eg2 ?eg3 ?eg4 ?eg5 ?eg6 ?ekk ?evv ?z1 ?z2 ?z3 ?z4 ?z5 ?z6 ?z7 ?z8 ?z9 ?z10 ?z11 ?z12 ?z13 ?z14
    (case a1 => k_is); (case l1 => k_is); (case c1 => k_is)
    (case a2 => k_is); (case l2 => k_is); (case c2 => k_is)
    (case a3 => k_is); (case l3 => k_is); (case c3 => k_is)
    (case a4 => k_is); (case l4 => k_is); (case c4 => k_is)
    (case a5 => k_is); (case l5 => k_is); (case c5 => k_is)
    (case a6 => k_is); (case l6 => k_is); (case c6 => k_is)
    (case a7 => k_is); (case l7 => k_is); (case c7 => k_is)
    (case a8 => k_is); (case l8 => k_is); (case c8 => k_is)
    (case a9 => k_is); (case l9 => k_is); (case c9 => k_is)
    (case a10 => k_is); (case l10 => k_is); (case c10 => k_is)
    (case a11 => k_is); (case l11 => k_is); (case c11 => k_is)
    (case a12 => k_is); (case l12 => k_is); (case c12 => k_is)
    (case a13 => k_is); (case l13 => k_is); (case c13 => k_is)
    (case a14 => k_is); (case l14 => k_is); (case c14 => k_is)
    (case a15 => k_is); (case l15 => k_is); (case c15 => k_is)
    (case a16 => k_is); (case l16 => k_is); (case c16 => k_is)
    (case a17 => k_is); (case l17 => k_is); (case c17 => k_is)
    (case a18 => k_is); (case l18 => k_is); (case c18 => k_is)
    (case a19 => k_is); (case l19 => k_is); (case c19 => k_is)
    (case a20 => k_is); (case l20 => k_is); (case c20 => k_is)
    (case a21 => k_is); (case l21 => k_is); (case c21 => k_is)
    (case a22 => k_is); (case l22 => k_is); (case c22 => k_is)
    (case a23 => k_is); (case l23 => k_is); (case c23 => k_is)
    (case a24 => k_is); (case l24 => k_is); (case c24 => k_is)
    (case t1 => decide +kernel); (case t2 => decide +kernel); (case t3 => decide +kernel)
    (case gm1 => k_is)
    (case gm2 => k_is)
    (case gm3 => k_is)
    (case gm4 => k_is)
    (case gm5 => k_is)
    (case gm6 => k_is)
    (case gm7 => k_is)
    (case gm8 => k_is)
    (case gm9 => k_is)
    (case gm10 => k_is)
    (case emxC => k_is)
    (case emxl => k_is)
    (case emx1 => k_is)
    (case emx2 => k_is)
    (case emx3 => k_is)
    (case emx4 => k_is)
    (case emx5 => k_is)
    (case emx6 => k_is)
    (case emx7 => k_is)
    (case emv => k_is)
    (case eini => k_is)
    (case elk => k_is)
    (case ecd => k_is)
    (case elc => k_is)
    (case ehv => exact rfl)
    (case ehf => first | exact rfl | decide +kernel)
    (case ecel => k_is)
    (case esup => ks_is)
    (case esa => k_is)
    (case ena => k_is)
    (case eexc => kernel_rfl)
    (case ekp => k_is)
    (case eve => k_is)
    (case eself => k_is)
    (case ens => k_is)
    (case eopq => k_is)
    (case etop => first | exact rfl | decide +kernel)
    (case eexm => kts_exm)
    (case eg1 => k_is)
    (case eg2 => k_is)
    (case eg3 => k_is)
    (case eg4 => k_is)
    (case eg5 => k_is)
    (case eg6 => k_is)
    (case ekk => kit_is)
    (case evv => kit_is)
    (case z1 => k_is); (case z2 => k_is); (case z3 => k_is); (case z4 => k_is); (case z5 => k_is); (case z6 => k_is); (case z7 => k_is); (case z8 => k_is); (case z9 => k_is); (case z10 => k_is); (case z11 => k_is); (case z12 => k_is); (case z13 => k_is); (case z14 => k_is)
