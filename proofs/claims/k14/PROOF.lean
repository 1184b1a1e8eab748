import PyProof.Rows.All
import Wide.All
import OpenK.AllK
import Wide.FinOn
import PyProof.EqAt
import PyProof.EqKinds
import PyProof.TupleCall
import KE.BitLaws
import KE.KMinKey
import KE.KSortTup
import PyProof.ExcInit
import PyProof.ExcClass3
import PyProof.ExcBaseAll.ValueError
import OpenK.KOwn
import PyProof.InstStore
import PyProof.InstStoreFacts
import PyProof.NsDelKeeps
import PyProof.ExcAttrAll.ValueError
import KE.KIsAll
import PyProof.TupleOfStr
import PyProof.ListRange
import PySem.Challenge.RW_crestkeys_k14_seams_and_edges
set_option Elab.async false
set_option linter.all false
set_option maxRecDepth 100000
namespace L2
open PySem PySem.Spec PyProof.Rows
abbrev Key := Sum Int Str
def keyIs : Key → Value → Bool
  | .inl k, v => Value.isInt k v
  | .inr x, v => Value.isStrOf x v
def keyH (w : World) : Key → Int
  | .inl k => hashInt k
  | .inr x => hashStr w x
theorem keyIs_shape : ∀ {k : Key} {v : Value}, keyIs k v = true → (∃ i t, k = Sum.inl i ∧ v = Value.int i t) ∨ (∃ x t, k = Sum.inr x ∧ v = Value.str x t)
  | .inl i, v, h => by
    obtain ⟨t, e⟩ := Value.isInt_shape (k := i) (v := v) h
    exact .inl ⟨i, t, rfl, e⟩
  | .inr x, v, h => by
    obtain ⟨t, e⟩ := Value.isStrOf_shape (x := x) (v := v) h
    exact .inr ⟨x, t, rfl, e⟩
theorem key_ll (a b : Int) : decide ((Sum.inl a : Key) = Sum.inl b) = (a == b) := by
  by_cases e : a = b
  · subst e; simp
  · have h : ¬ (Sum.inl a : Key) = Sum.inl b := fun q => e (Sum.inl.inj q)
    rw [decide_eq_false h]
    exact (beq_eq_false_iff_ne.mpr e).symm
theorem key_rr (a b : Str) : decide ((Sum.inr a : Key) = Sum.inr b) = decide (a = b) := by
  by_cases e : a = b
  · subst e; simp
  · have h : ¬ (Sum.inr a : Key) = Sum.inr b := fun q => e (Sum.inr.inj q)
    rw [decide_eq_false h, decide_eq_false e]
theorem key_lr (a : Int) (b : Str) : decide ((Sum.inl a : Key) = Sum.inr b) = false := decide_eq_false (fun q => nomatch q)
theorem key_rl (a : Str) (b : Int) : decide ((Sum.inr a : Key) = Sum.inl b) = false := decide_eq_false (fun q => nomatch q)
def mixKind (prog : Program) (w : World) : PySem.KeyKind prog w Key where
  is := keyIs
  hash := keyH w
  inj := fun v a b ha hb => by
    rcases keyIs_shape ha with ⟨i, t, rfl, rfl⟩ | ⟨x, t, rfl, rfl⟩
    · rcases keyIs_shape hb with ⟨j, u, rfl, e⟩ | ⟨y, u, rfl, e⟩
      · injection e with e1 _; rw [e1]
      · exact nomatch e
    · rcases keyIs_shape hb with ⟨j, u, rfl, e⟩ | ⟨y, u, rfl, e⟩
      · exact nomatch e
      · injection e with e1 _; rw [e1]
  byValue := fun k v h => by
    rcases keyIs_shape h with ⟨i, t, rfl, rfl⟩ | ⟨x, t, rfl, rfl⟩ <;> rfl
  pyHash := fun hv h => by
    rcases keyIs_shape hv with ⟨i, t, rfl, rfl⟩ | ⟨x, t, rfl, rfl⟩
    · exact wpAny_pyHash_int h
    · exact wpAny_pyHash_str h
  eqBool := fun hu hv h => by
    rcases keyIs_shape hu with ⟨i, t, rfl, rfl⟩ | ⟨x, t, rfl, rfl⟩
    · rcases keyIs_shape hv with ⟨j, u, rfl, rfl⟩ | ⟨y, u, rfl, rfl⟩
      · rw [key_ll] at h; exact wpAny_eqBool_int h
      · rw [key_lr] at h; exact SeqAt.EqAt.int_str i t y u _ _ _ _ h
    · rcases keyIs_shape hv with ⟨j, u, rfl, rfl⟩ | ⟨y, u, rfl, rfl⟩
      · rw [key_rl] at h; exact SeqAt.EqAt.str_int x t j u _ _ _ _ h
      · rw [key_rr] at h; exact wpAny_eqBool_str h
  «strs» := fun k x t v h => by
    rcases keyIs_shape h with ⟨i, u, rfl, e⟩ | ⟨y, u, rfl, e⟩
    · exact nomatch e
    · injection e with e1 _
      subst e1
      cases v <;> rfl
end L2
namespace L2
open PySem PySem.Spec PyProof.Rows
inductive V where
  | non | bl (b : Bool) | int (i : Int) | str (x : Str) | byt (b : Array UInt8) | flt (b : UInt64) | ref (a : Addr) | ty (n : String)
  deriving DecidableEq
def RelV : V → Value → Prop
  | .non, u => u = Value.none
  | .bl b, u => u = Value.bool b
  | .int i, u => ∃ t, u = Value.int i t
  | .str x, u => ∃ t, u = Value.str x t
  | .byt b, u => ∃ t, u = Value.bytes b t
  | .flt b, u => ∃ t, u = Value.float b t
  | .ref a, u => u = Value.ref a
  | .ty n, u => u = Value.type n
abbrev Vals : List V → List Value → Prop := Paired RelV
theorem Vals.length {xs : List V} {us : List Value} (r : Vals xs us) : xs.length = us.length := Paired.length r
theorem Vals.get : ∀ {xs : List V} {us : List Value} {i : Nat} {x : V}, Vals xs us → xs[i]? = some x → ∃ u, us[i]? = some u ∧ RelV x u
  | _, _, _, _, .nil, e => by simp at e
  | _, _, 0, _, .cons r _, e => by simp at e; subst e; exact ⟨_, rfl, r⟩
  | _, _, i + 1, x, .cons _ t, e => by
    obtain ⟨u, h1, h2⟩ := Vals.get (i := i) (x := x) t (by simpa using e)
    exact ⟨u, by simpa using h1, h2⟩
theorem Vals.set {x : V} {u : Value} (r : RelV x u) : ∀ {xs : List V} {us : List Value} (i : Nat), Vals xs us → Vals (xs.set i x) (us.set i u)
  | _, _, _, .nil => .nil
  | _, _, 0, .cons _ t => .cons r t
  | _, _, i + 1, .cons q t => .cons q (Vals.set r i t)
theorem Vals.append : ∀ {xs ys : List V} {us ws : List Value}, Vals xs us → Vals ys ws → Vals (xs ++ ys) (us ++ ws)
  | _, _, _, _, .nil, s => s
  | _, _, _, _, .cons r t, s => .cons r (Vals.append t s)
theorem Vals.take : ∀ {xs : List V} {us : List Value} (n : Nat), Vals xs us → Vals (xs.take n) (us.take n)
  | _, _, 0, _ => .nil
  | _, _, _ + 1, .nil => .nil
  | _, _, n + 1, .cons r t => .cons r (Vals.take n t)
theorem Vals.drop : ∀ {xs : List V} {us : List Value} (n : Nat), Vals xs us → Vals (xs.drop n) (us.drop n)
  | _, _, 0, r => r
  | _, _, _ + 1, .nil => .nil
  | _, _, n + 1, .cons _ t => Vals.drop n t
def RelO : Option V → Option Value → Prop
  | some v, some u => RelV v u
  | none, none => True
  | _, _ => False
def KV {κ : Type} : List (κ × V) → List (κ × Value) → Prop := Paired fun (p : κ × V) (q : κ × Value) => p.1 = q.1 ∧ RelV p.2 q.2
def IsTupN (h : Heap) (a : Addr) (items : Array Value) : Prop := ∃ o, h.get? a = some o ∧ (o.cls, o.dict) = (Value.type "tuple", (none : Option Addr)) ∧ ∃ n, o.data = .seq items n
theorem IsTupN.t {h : Heap} {a : Addr} {items : Array Value} (x : IsTupN h a items) : IsTup h a items := by
  obtain ⟨o, h1, h2, h3⟩ := x
  exact ⟨o, h1, congrArg Prod.fst h2, h3⟩
theorem IsTupN.new (h : Heap) (vs : List Value) : IsTupN (h.push { cls := .type "tuple", data := .seq vs.toArray }) h.objs.size vs.toArray := ⟨_, Heap.get?_push_size h rfl, rfl, _, rfl⟩
def kV : Key → V
  | .inl i => .int i
  | .inr x => .str x
inductive HO where
  /-- a list -/
  | lst (xs : List V)
  /-- a tuple (never changes) -/
  | tup (xs : List V)
  /-- a dict whose keys are ints and texts; one whose keys are tuples of ints and texts (the empty one is both) -/
  | dK (kvs : List (Key × V)) | dT (kvs : List (List Key × V))
  /-- a set of ints: its members, its size -/
  | set (S : Int → Bool) (n : Nat)
  /-- an instance of the class at C, its dict at dx, its attributes -/
  | ins (C dx : Addr) (fs : List (Str × V))
  /-- the dict of the instance at x -/
  | own (x : Addr)
  /-- the dict of an exception -/
  | xd (fs : List (Str × V))
  /-- a bound method, f of x -/
  | met (f x : Addr)
  /-- a range object lo, lo + 1, .. below hi -/
  | rng (lo hi : Int)
  /-- a thing that is known to the object (the script; a dict while a loop walks it): read, never written while it is so -/
  | frz (o : Obj) (u : HO)
  /-- a code object's table -/
  | tbl (ps : Array Value)
  /-- any other thing, by what is true of its one object (a def of one's own: SetO a S n := HO.ext fun h => ..) -/
  | ext (φ : Heap → Prop)
abbrev Hp := Addr → Option HO
def upd (H : Hp) (a : Addr) (o : HO) : Hp := fun b => if b = a then some o else H b
theorem upd_same {H : Hp} {a : Addr} {o : HO} : upd H a o a = some o := by unfold upd; rw [if_pos rfl]
theorem upd_ne {H : Hp} {a b : Addr} {o : HO} (h : b ≠ a) : upd H a o b = H b := by unfold upd; rw [if_neg h]
theorem ne_of_none {H : Hp} {a b : Addr} {o : HO} (h : H a = some o) (h' : H b = none) : a ≠ b := by
  intro e; subst e; rw [h] at h'; cases h'
section
variable (P : Program) (w : World)
def ObjOk (H : Hp) (h : Heap) (a : Addr) : HO → Prop
  | .lst xs => xs.length ≤ sizeLine ∧ ∃ (its : List Value) (n : Nat), Vals xs its ∧ h.get? a = some { cls := .type "list", data := .seq its.toArray n }
  | .tup xs => xs.length ≤ sizeLine ∧ ∃ its : List Value, Vals xs its ∧ IsTupN h a its.toArray
  | .dK kvs => kvs.length ≤ sizeLine ∧ (a == sysModules) = false ∧ ∃ vs, KV kvs vs ∧ h.DictOf (mixKind P w) a vs
  | .dT kvs => kvs.length ≤ sizeLine ∧ (a == sysModules) = false ∧ ∃ xs : List (List Key × Addr × Value),
      Paired (fun (p : List Key × V) (q : List Key × Addr × Value) => p.1 = q.1 ∧ H q.2.1 = some (.tup (p.1.map kV)) ∧ RelV p.2 q.2.2) kvs xs ∧
      ∃ o es ep, h.get? a = some o ∧ o.ExactDict ∧ o.data = .dict es ep ∧ es.toList = xs.map (entryOfKey (tupleKind (mixKind P w))) ∧ (xs.map (·.1)).Nodup
  | .set S n => h.SetOf (intKind P w) a S n
  | .ins C dx fs => H dx = some (.own a) ∧ fs.length ≤ 1000 ∧ dx ≠ a ∧ h.get? a = some (PySem.W.instObj C dx) ∧
      ∃ mA, h.Ns1 dx mA ∧ (∀ f, RelO (fs.lookup f) (mA f)) ∧ PySem.Within mA (fs.map (·.1))
  | .own _ => ∃ o, h.get? a = some o
  | .xd fs => ∃ mA, h.Ns1 a mA ∧ ∀ f, RelO (fs.lookup f) (mA f)
  | .rng lo hi => ∃ t u v, h.get? a = some { cls := .type "range", data := .fields #[.int lo t, .int hi u, .int 1 v] }
  | .frz o u => h.get? a = some o ∧ ObjOk H h a u
  | .tbl ps => h.get? a = some { cls := .none, data := .fields ps }
  | .met f x => h.get? a = some (PySem.W.methodObj (.ref f) (.ref x))
  | .ext φ => φ h ∧ (∃ o, h.get? a = some o) ∧ ∀ h1 h2 : Heap, φ h1 → (∀ o, h1.get? a = some o → h2.get? a = some o) → φ h2
def HOk (H : Hp) (h : Heap) : Prop := ∀ a o, H a = some o → ObjOk P w H h a o
end
section
variable {P : Program} {w : World} {H H' : Hp} {h h' : Heap} {a : Addr} {o : HO}
theorem ObjOk.lt (x : ObjOk P w H h a o) : a < h.objs.size := by
  cases o with
  | lst xs => obtain ⟨_, _, _, _, e⟩ := x; exact Heap.lt_size e
  | tup xs => obtain ⟨_, _, _, p⟩ := x; exact p.t.lt
  | dK kvs => obtain ⟨_, _, _, _, o, _, _, e, _⟩ := x; exact Heap.lt_size e
  | dT kvs => obtain ⟨_, _, _, _, o, _, _, e, _⟩ := x; exact Heap.lt_size e
  | set S n => obtain ⟨o, _, _, _, e, _⟩ := x; exact Heap.lt_size e
  | ins C dx fs => obtain ⟨_, _, _, e, _⟩ := x; exact Heap.lt_size e
  | own y => obtain ⟨_, e⟩ := x; exact Heap.lt_size e
  | xd fs => obtain ⟨_, ⟨_, _, _, e, _⟩, _⟩ := x; exact Heap.lt_size e
  | rng lo hi => obtain ⟨_, _, _, e⟩ := x; exact Heap.lt_size e
  | frz ob u => obtain ⟨e, _⟩ := x; exact Heap.lt_size e
  | tbl ps => exact Heap.lt_size (show h.get? a = some _ from x)
  | met f y => exact Heap.lt_size (show h.get? a = some _ from x)
  | ext φ => obtain ⟨_, ⟨_, e⟩, _⟩ := x; exact Heap.lt_size e
theorem Paired.mapP {α β : Type} {F G : α → β → Prop} : ∀ {l₁ : List α} {l₂ : List β}, Paired F l₁ l₂ → (∀ a b, F a b → G a b) → Paired G l₁ l₂
  | _, _, .nil, _ => .nil
  | _, _, .cons r t, f => .cons (f _ _ r) (Paired.mapP t f)
theorem ObjOk.stay (x : ObjOk P w H h a o) (k : ∀ b u, (b = a ∨ H b = some (.own a)) → h.get? b = some u → h'.get? b = some u)
    (ho : ∀ b, H b = some (.own a) → H' b = some (.own a)) (ht : ∀ b xs, H b = some (.tup xs) → H' b = some (.tup xs)) : ObjOk P w H' h' a o := by
  induction o with
  | lst xs => obtain ⟨z, its, n, r, e⟩ := x; exact ⟨z, its, n, r, k _ _ (.inl rfl) e⟩
  | tup xs => obtain ⟨z, its, r, ob, e, c⟩ := x; exact ⟨z, its, r, ob, k _ _ (.inl rfl) e, c⟩
  | dK kvs => obtain ⟨z, y, vs, r, ob, es, ep, e, c⟩ := x; exact ⟨z, y, vs, r, ob, es, ep, k _ _ (.inl rfl) e, c⟩
  | dT kvs =>
    obtain ⟨z, y, xs, r, ob, es, ep, e, c⟩ := x
    exact ⟨z, y, xs, Paired.mapP r fun p q z => ⟨z.1, ht _ _ z.2.1, z.2.2⟩, ob, es, ep, k _ _ (.inl rfl) e, c⟩
  | set S n => obtain ⟨ob, es, ep, t, e, c⟩ := x; exact ⟨ob, es, ep, t, k _ _ (.inl rfl) e, c⟩
  | ins C dx fs =>
    obtain ⟨d, z, ne, e, mA, ⟨od, es, ep, e2, c⟩, r⟩ := x
    exact ⟨ho _ d, z, ne, k _ _ (.inl rfl) e, mA, ⟨od, es, ep, k _ _ (.inr d) e2, c⟩, r⟩
  | own y => obtain ⟨ob, e⟩ := x; exact ⟨ob, k _ _ (.inl rfl) e⟩
  | xd fs => obtain ⟨mA, ⟨od, es, ep, e, c⟩, r⟩ := x; exact ⟨mA, ⟨od, es, ep, k _ _ (.inl rfl) e, c⟩, r⟩
  | rng lo hi => obtain ⟨t, u, v, e⟩ := x; exact ⟨t, u, v, k _ _ (.inl rfl) e⟩
  | frz ob u ih => obtain ⟨e, q⟩ := x; exact ⟨k _ _ (.inl rfl) e, ih q⟩
  | tbl ps =>
    have e : h.get? a = some { cls := .none, data := .fields ps } := x
    show h'.get? a = some { cls := .none, data := .fields ps }
    exact k a _ (.inl rfl) e
  | met f y =>
    have e : h.get? a = some (PySem.W.methodObj (.ref f) (.ref y)) := x
    show h'.get? a = some (PySem.W.methodObj (.ref f) (.ref y))
    exact k a _ (.inl rfl) e
  | ext φ => obtain ⟨p, ⟨o, e⟩, st⟩ := x; exact ⟨st _ _ p fun o q => k _ _ (.inl rfl) q, ⟨o, k _ _ (.inl rfl) e⟩, st⟩
theorem HOk.lt (x : HOk P w H h) (e : H a = some o) : a < h.objs.size := (x a o e).lt
theorem HOk.fresh (x : HOk P w H h) (e : h.objs.size ≤ a) : H a = none := by
  cases q : H a with
  | none => rfl
  | some u => exact absurd (Nat.lt_of_lt_of_le (x.lt q) e) (Nat.lt_irrefl _)
theorem HOk.kept (x : HOk P w H h) (k : ∀ b u, h.get? b = some u → h'.get? b = some u) : HOk P w H h' := fun a o e =>
  (x a o e).stay (fun b u _ q => k b u q) (fun _ q => q) fun _ _ q => q
theorem HOk.laid (x : HOk P w H h) (k : ∀ b u, h.get? b = some u → h'.get? b = some u) (hp : h.objs.size ≤ a) (new : ObjOk P w (upd H a o) h' a o) : HOk P w (upd H a o) h' := fun b u e => by
  have hn := x.fresh hp
  by_cases hb : b = a
  · subst hb; rw [upd_same] at e; cases e; exact new
  · rw [upd_ne hb] at e
    exact (x b u e).stay (fun c v _ q => k c v q) (fun c q => by rw [upd_ne (ne_of_none q hn)]; exact q) fun c xs q => by rw [upd_ne (ne_of_none q hn)]; exact q
end
def Rd (H : Hp) (a : Addr) (u : HO) : Prop := H a = some u ∨ ∃ o, H a = some (.frz o u)
theorem Rd.of {H : Hp} {a : Addr} {u : HO} (h : H a = some u) : Rd H a u := .inl h
theorem Rd.ok {P : Program} {w : World} {H : Hp} {h : Heap} {a : Addr} {u : HO} (r : Rd H a u) (x : HOk P w H h) : ObjOk P w H h a u := by
  rcases r with r | ⟨o, r⟩
  · exact x a u r
  · obtain ⟨_, q⟩ := x a _ r
    exact q
def Mut : Option HO → Prop
  | some (.lst _) => True
  | some (.dK _) => True
  | some (.dT _) => True
  | some (.set _ _) => True
  | some (.ins _ _ _) => True
  | some (.ext _) => True
  | _ => False
section
variable {P : Program} {w : World} {H : Hp} {h h' : Heap} {x e : Addr} {o' : HO}
theorem HOk.write (ok : HOk P w H h) (mu : Mut (H x)) (he : e = x ∨ H e = some (.own x)) (k : ∀ b u, b ≠ e → h.get? b = some u → h'.get? b = some u) (heo : ∃ u, h'.get? e = some u)
    (new : ObjOk P w (upd H x o') h' x o') : HOk P w (upd H x o') h' := fun b u q => by
  have nown : ∀ c y, H c = some (.own y) → c ≠ x := fun c y r z => by subst z; rw [r] at mu; exact mu
  have ntup : ∀ c xs, H c = some (.tup xs) → c ≠ x := fun c xs r z => by subst z; rw [r] at mu; exact mu
  by_cases hb : b = x
  · subst hb; rw [upd_same] at q; cases q; exact new
  · rw [upd_ne hb] at q
    by_cases hbe : b = e
    · have q' : H b = some (.own x) := by
        rcases he with z | z
        · exact absurd (hbe.trans z) hb
        · rw [hbe]; exact z
      rw [q] at q'; cases q'
      obtain ⟨v, hv⟩ := heo
      exact ⟨v, by rw [hbe]; exact hv⟩
    · refine (ok b u q).stay (fun c v hc r => k c v ?_ r) (fun c r => by rw [upd_ne (nown c b r)]; exact r) fun c xs r => by rw [upd_ne (ntup c xs r)]; exact r
      rcases hc with rfl | hc
      · exact hbe
      · rintro rfl
        rcases he with z | z
        · exact nown c b hc z
        · rw [hc] at z; cases z; exact hb rfl
end
structure Un (fs ex : List Addr) (H H' : Hp) (h h' : Heap) : Prop where
  keep : ∀ b o, h.get? b = some o → H b = none → b ∉ fs → b ∉ ex → h'.get? b = some o
  slot : ∀ b o, h.get? b = some o → H b = none → b ∈ fs → b ∉ ex → ∃ sl, h'.get? b = some { o with slots := sl }
  free : ∀ b o, h.get? b = some o → H b = none → b ∉ ex → H' b = none
  there : ∀ b o, h.get? b = some o → b ∉ ex → ∃ o', h'.get? b = some o'
  tups : ∀ b xs, H b = some (.tup xs) → H' b = some (.tup xs)
  frzs : ∀ b o u, H b = some (.frz o u) → H' b = some (.frz o u)
  tbls : ∀ b ps, H b = some (.tbl ps) → ∃ more, H' b = some (.tbl (ps ++ more))
section
variable {fs fs' ex ex' : List Addr} {H H1 H2 : Hp} {h h1 h2 h' : Heap} {a x e : Addr} {o : HO}
theorem Un.any (u : Un fs ex H H1 h h1) {b : Addr} {ob : Obj} (q : h.get? b = some ob) (n : H b = none) (hx : b ∉ ex) : ∃ sl, h1.get? b = some { ob with slots := sl } := by
  by_cases hb : b ∈ fs
  · exact u.slot b ob q n hb hx
  · exact ⟨ob.slots, u.keep b ob q n hb hx⟩
theorem Un.trans (a : Un fs ex H H1 h h1) (b : Un fs ex H1 H2 h1 h2) : Un fs ex H H2 h h2 where
  keep := fun c ob q n hc hx => b.keep c ob (a.keep c ob q n hc hx) (a.free c ob q n hx) hc hx
  slot := fun c ob q n hc hx => by
    obtain ⟨sl, e1⟩ := a.slot c ob q n hc hx
    obtain ⟨sl', e2⟩ := b.slot c _ e1 (a.free c ob q n hx) hc hx
    exact ⟨sl', e2⟩
  free := fun c ob q n hx => by
    obtain ⟨o', e1⟩ := a.there c ob q hx
    exact b.free c o' e1 (a.free c ob q n hx) hx
  there := fun c ob q hx => by
    obtain ⟨o', e1⟩ := a.there c ob q hx
    exact b.there c o' e1 hx
  tups := fun c xs q => b.tups c xs (a.tups c xs q)
  frzs := fun c ob xs q => b.frzs c ob xs (a.frzs c ob xs q)
  tbls := fun c ps q => by
    obtain ⟨m1, e1⟩ := a.tbls c ps q
    obtain ⟨m2, e2⟩ := b.tbls c _ e1
    exact ⟨m1 ++ m2, by rw [e2, Array.append_assoc]⟩
theorem Un.kept (k : ∀ b u, h.get? b = some u → h'.get? b = some u) : Un fs ex H H h h' :=
  ⟨fun b ob q _ _ _ => k b ob q, fun b ob q _ _ _ => ⟨ob.slots, k b ob q⟩, fun _ _ _ n _ => n, fun b ob q _ => ⟨ob, k b ob q⟩, fun _ _ q => q, fun _ _ _ q => q, fun _ ps q => ⟨#[], by rw [q]; simp⟩⟩
theorem Un.refl : Un fs ex H H h h := Un.kept fun _ _ q => q
theorem Un.laid (k : ∀ b u, h.get? b = some u → h'.get? b = some u) (hp : h.objs.size ≤ a) (hn : H a = none) : Un fs ex H (upd H a o) h h' where
  keep := fun b u q _ _ _ => k b u q
  slot := fun b u q _ _ _ => ⟨u.slots, k b u q⟩
  free := fun b u q n _ => by rw [upd_ne (Nat.ne_of_lt (Nat.lt_of_lt_of_le (Heap.lt_size q) hp))]; exact n
  there := fun b u q _ => ⟨u, k b u q⟩
  tups := fun b xs q => by rw [upd_ne (ne_of_none q hn)]; exact q
  frzs := fun b u xs q => by rw [upd_ne (ne_of_none q hn)]; exact q
  tbls := fun b ps q => ⟨#[], by rw [upd_ne (ne_of_none q hn), q]; simp⟩
theorem Un.write (mu : Mut (H x)) (he : e = x ∨ H e = some (.own x)) (k : ∀ b u, b ≠ e → h.get? b = some u → h'.get? b = some u) (heo : ∃ u, h'.get? e = some u) : Un fs ex H (upd H x o) h h' := by
  have hx : ∀ b, H b = none → b ≠ x := fun b n z => by subst z; rw [n] at mu; exact mu
  have hb : ∀ b, H b = none → b ≠ e := fun b n z => by
    subst z
    rcases he with r | r
    · exact hx b n r
    · rw [n] at r; cases r
  have hm : ∀ b u, H b = some u → ¬ Mut (some u) → b ≠ x := fun b u q nm z => by subst z; rw [q] at mu; exact nm mu
  refine ⟨fun b u q n _ _ => k b u (hb b n) q, fun b u q n _ _ => ⟨u.slots, k b u (hb b n) q⟩, fun b u q n _ => by rw [upd_ne (hx b n)]; exact n, fun b u q _ => ?_,
    fun b xs q => by rw [upd_ne (hm b _ q fun z => z)]; exact q, fun b u xs q => by rw [upd_ne (hm b _ q fun z => z)]; exact q, fun b ps q => ⟨#[], by rw [upd_ne (hm b _ q fun z => z), q]; simp⟩⟩
  by_cases hbe : b = e
  · subst hbe; exact heo
  · exact ⟨u, k b u hbe q⟩
theorem Un.mono (u : Un fs ex H H1 h h1) (hs : ∀ b ∈ fs, b ∈ fs') (hx : ∀ b ∈ ex, b ∈ ex') : Un fs' ex' H H1 h h1 :=
  ⟨fun b ob q n hb he => u.keep b ob q n (fun z => hb (hs b z)) fun z => he (hx b z), fun _ _ q n _ he => u.any q n fun z => he (hx _ z), fun b ob q n he => u.free b ob q n fun z => he (hx b z), fun b ob q he => u.there b ob q fun z => he (hx b z), u.tups, u.frzs, u.tbls⟩
end
def trk (h : Heap) (H : Hp) : List Addr := (List.range h.objs.size).filter fun a => (H a).isSome
def hidT (h : Heap) (H : Hp) : Heap := PySem.W.hideAll h (trk h H)
theorem hidT_size (h : Heap) (H : Hp) : (hidT h H).objs.size = h.objs.size := PySem.W.hideAll_size _ _
theorem hidT_get {h : Heap} {H : Hp} {b : Addr} {o : Obj} (e : h.get? b = some o) (n : H b = none) : (hidT h H).get? b = some o :=
  PySem.W.hideAll_get _ e fun hm => by
    have q : (H b).isSome = true := (List.mem_filter.mp hm).2
    rw [n] at q; simp at q
theorem of_hidT {h : Heap} {H : Hp} {b : Addr} {o : Obj} (e : (hidT h H).get? b = some o) : h.get? b = some o ∧ H b = none := by
  have e' : h.get? b = some o := PySem.W.of_hideAll (trk h H) e
  refine ⟨e', ?_⟩
  cases q : H b with
  | none => rfl
  | some x =>
    have hm : b ∈ trk h H := List.mem_filter.mpr ⟨List.mem_range.mpr (Heap.lt_size e'), by simp [q]⟩
    have z : (hidT h H).get? b = none := PySem.W.hideAll_none (trk h H) hm
    rw [z] at e; cases e
def allNews (g h : Heap) (L : Addr) : List (Addr × Obj) := (List.range h.objs.size).filterMap fun a => if a = L ∨ (g.get? a).isSome = true then none else (h.get? a).map fun o => (a, o)
def rest (g h : Heap) (L d : Addr) : List (Addr × Obj) := (allNews g h L).filter fun p => decide (p.1 ≠ d)
end L2
namespace L2
open PySem PySem.Spec PyProof.Rows
structure Mod (K : PySem.W.Frag) (mg : Str → Option Value) (base : Heap) : Prop where
  kin : K.In base
  glob : base.Ns mainGlobals mg
  blt : ∃ mb, base.Ns builtinsNs mb ∧ ∀ x : Str, x ≠ "__name__" → mb x = bootBuiltins x
  nolimit : base.NoLimit
structure Cx where
  prog : Program
  w : World
  K : PySem.W.Frag
  mg : Str → Option Value
  base : Heap
  A : Around
  N : List Str
  s_0 : Shared
  H_0 : Hp
  env : Env
  outer : List Env
  stack : List Env
  ex : List Addr
  fn : Str → Bool
  calm : Bool
  hush : Bool
  pn : List (Addr × Obj)
  xe : Value → Shared → Prop
def frs (l : List Env) : List Addr := l.filterMap (·.frame)
abbrev Cx.fs (X : Cx) : List Addr := frs X.outer
def Vis (sc : Scope) (x : Str) : Prop := sc.names.lookup x = some .local ∨ sc.names.lookup x = some .cell ∨ sc.names.lookup x = some .free
def Loc (sc : Scope) (x : Str) : Prop := sc.names.lookup x = some .local ∨ sc.names.lookup x = some .cell
def Look (env : Env) (h : Heap) (m : Str → Option Value) (x : Str) (u : Value) : Prop :=
  (env.kindOf x = some .local ∧ m x = some u) ∨ ((env.kindOf x = some .cell ∨ env.kindOf x = some .free) ∧ ∃ c, env.cells.lookup x = some c ∧ h.IsCell c (some u))
def Hush (A : Around) (H : Hp) : Prop := A.handled = none ∨ ∃ e oe vs, A.handled = some (.ref e) ∧ H e = some (.frz oe (.own 0)) ∧ oe.data = .fields vs ∧ vs[2]? = some .none
structure Cx.Ok (X : Cx) : Prop where
  mod : Mod X.K X.mg X.base
  kind : X.env.scope.kind = .function
  glob : X.env.globals = mainGlobals
  blt : X.env.builtins = builtinsNs
  above : X.s_0.heap.objs.size ≤ X.env.locals
  inj : ∀ x y c, X.env.cells.lookup x = some c → X.env.cells.lookup y = some c → x = y
  has : ∀ x, (X.env.kindOf x = some .cell ∨ X.env.kindOf x = some .free) → ∃ c, X.env.cells.lookup x = some c
  cab : ∀ x c, X.fn x = true → X.env.cells.lookup x = some c → X.s_0.heap.objs.size ≤ c
  hd : X.calm = true → X.A.handled = none
  hh : X.hush = true → Hush X.A X.H_0
  frames : X.A.frames = some X.stack
  stk : X.stack = X.outer ∨ (X.stack = X.env :: X.outer ∧ X.env.frame = some X.env.locals)
  exf : ∀ b ∈ X.ex, b ≠ X.env.locals ∧ ∀ x c, X.env.cells.lookup x = some c → c ≠ b
  bs : ∀ b o, X.base.get? b = some o → X.s_0.heap.get? b = some o ∧ X.H_0 b = none
  bsz : X.base.objs.size ≤ X.s_0.heap.objs.size
  noex : ∀ b o, X.base.get? b = some o → b ∉ X.ex
  exfs : ∀ b ∈ X.ex, b ∉ X.fs
  funs : X.s_0.heap.FunFrames X.base X.outer
  frf : ∀ b ∈ X.fs, X.H_0 b = none
structure Inv (X : Cx) (pins : List (Addr × Obj)) (σ : List (Option V)) (H : Hp) (s : Shared) : Prop where
  ok : X.Ok
  os : s.os = X.s_0.os
  bare : AllBare s.gens
  base : Un X.fs X.ex X.H_0 H X.s_0.heap s.heap
  loc : ∃ m, s.heap.Ns X.env.locals m ∧ ∀ (i : Nat) (x : Str) (v : V), X.N[i]? = some x → σ[i]? = some (some v) → Vis X.env.scope x → ∃ u, RelV v u ∧ Look X.env s.heap m x u
  cell : ∀ x c, X.env.cells.lookup x = some c → ∃ v, s.heap.IsCell c v
  free : H X.env.locals = none
  freeC : ∀ x c, X.env.cells.lookup x = some c → H c = none
  pin : ∀ p ∈ X.pn ++ pins, s.heap.get? p.1 = some p.2 ∧ H p.1 = none ∧ p.1 ≠ X.env.locals ∧ p.1 ∉ X.fs ∧ ∀ v, p.2.data ≠ .cell v
  hok : HOk X.prog X.w H s.heap
  len : σ.length = X.N.length
section
variable {X : Cx} {pins : List (Addr × Obj)} {σ : List (Option V)} {H H' : Hp} {s : Shared} {h' : Heap}
theorem Inv.hush (I : Inv X pins σ H s) (h : X.hush = true) : Hush X.A H :=
  (I.ok.hh h).elim .inl fun ⟨e, oe, vs, a, b, c, d⟩ => .inr ⟨e, oe, vs, a, I.base.frzs _ _ _ b, c, d⟩
theorem Cx.Ok.nofr (ok : X.Ok) {b : Addr} {o : Obj} (e : X.base.get? b = some o) : b ∉ X.fs := fun hb => by
  have := (ok.funs.mem hb).1
  rw [e] at this; cases this
theorem Inv.bs (I : Inv X pins σ H s) : ∀ b o, X.base.get? b = some o → s.heap.get? b = some o ∧ H b = none := fun b o e =>
  ⟨I.base.keep b o (I.ok.bs b o e).1 (I.ok.bs b o e).2 (I.ok.nofr e) (I.ok.noex b o e), I.base.free b o (I.ok.bs b o e).1 (I.ok.bs b o e).2 (I.ok.noex b o e)⟩
theorem Inv.bk (I : Inv X pins σ H s) : ∀ b o, X.base.get? b = some o → s.heap.get? b = some o := fun b o e => (I.bs b o e).1
theorem Inv.mod (I : Inv X pins σ H s) : Mod X.K X.mg X.base := I.ok.mod
theorem Inv.kIn (I : Inv X pins σ H s) : X.K.In s.heap := I.ok.mod.kin.keeps I.bk
theorem Inv.nolimit (I : Inv X pins σ H s) : s.heap.NoLimit := I.ok.mod.nolimit.keeps I.bk
theorem Inv.fr (I : Inv X pins σ H s) : ∃ m, Fr X.base X.env.locals s.heap m :=
  let ⟨m, hn, _⟩ := I.loc
  ⟨m, hn, I.bk, Nat.le_trans I.ok.bsz I.ok.above⟩
theorem Inv.lt (I : Inv X pins σ H s) : X.env.locals < s.heap.objs.size := let ⟨_, hn, _⟩ := I.loc; hn.lt
theorem Inv.sz (I : Inv X pins σ H s) : X.s_0.heap.objs.size ≤ s.heap.objs.size := Nat.le_trans I.ok.above (Nat.le_of_lt I.lt)
theorem Inv.nofs (I : Inv X pins σ H s) {a : Addr} (h : s.heap.objs.size ≤ a) : a ∉ X.fs := fun hb => by
  obtain ⟨_, o, ho, _⟩ := I.ok.funs.mem hb
  exact absurd (Nat.lt_of_lt_of_le (Heap.lt_size ho) (Nat.le_trans I.sz h)) (Nat.lt_irrefl _)
theorem Inv.cne (I : Inv X pins σ H s) : ∀ x c, X.env.cells.lookup x = some c → c ≠ X.env.locals := fun x c e z => by
  obtain ⟨v, o, ho, hd⟩ := I.cell x c e
  obtain ⟨m, ⟨o', es, ep, ho', hd', _⟩, _⟩ := I.loc
  rw [z, ho'] at ho; cases ho; rw [hd'] at hd; cases hd
theorem Inv.funs (I : Inv X pins σ H s) : s.heap.FunFrames X.base X.outer := by
  have all : ∀ (l : List Env), (∀ b ∈ frs l, b ∈ X.fs) → X.s_0.heap.FunFrames X.base l → s.heap.FunFrames X.base l := by
    intro l
    induction l with
    | nil => intro _ _; trivial
    | cons env r ih =>
      intro hs hl
      obtain ⟨hk, ⟨L, o, hf, hn, ho, hd⟩, hr⟩ := hl
      have hL : L ∈ X.fs := hs L (by unfold frs; rw [List.filterMap_cons, hf]; exact List.mem_cons_self)
      obtain ⟨sl, e⟩ := I.base.slot L o ho (I.ok.frf L hL) hL fun z => I.ok.exfs L z hL
      exact ⟨hk, ⟨L, _, hf, hn, e, hd⟩, ih (fun b hb => hs b (by unfold frs; rw [List.filterMap_cons, hf]; exact List.mem_cons_of_mem _ hb)) hr⟩
  exact all X.outer (fun _ hb => hb) I.ok.funs
theorem Inv.stack (I : Inv X pins σ H s) : s.heap.FunFrames X.base X.stack := by
  rcases I.ok.stk with e | ⟨e, hf⟩
  · rw [e]; exact I.funs
  · rw [e]
    obtain ⟨m, hn, _⟩ := I.loc
    refine .cons (by rw [I.ok.kind]; decide) hf hn ?_ I.funs
    exact Heap.get?_none_of_le (Nat.le_trans I.ok.bsz I.ok.above)
theorem Inv.stkSub (I : Inv X pins σ H s) : ∀ b ∈ frs X.stack, b ∈ X.env.locals :: X.fs := fun b hb => by
  rcases I.ok.stk with e | ⟨e, hf⟩
  · rw [e] at hb; exact List.mem_cons_of_mem _ hb
  · rw [e] at hb
    unfold frs at hb
    rw [List.filterMap_cons, hf] at hb
    exact hb
theorem Inv.stkFree (I : Inv X pins σ H s) : ∀ b ∈ frs X.stack, H b = none := fun b hb => by
  rcases List.mem_cons.mp (I.stkSub b hb) with e | hb
  · rw [e]; exact I.free
  · obtain ⟨_, o, ho, _⟩ := I.ok.funs.mem hb
    exact I.base.free b o ho (I.ok.frf b hb) fun z => I.ok.exfs b z hb
theorem Inv.step {g' : Array GenState} {t' : Nat} {d' : Drawn} {ch : List Addr} (I : Inv X pins σ H s)
    (hch : ∀ b ∈ ch, (b ∈ X.ex ∨ X.s_0.heap.objs.size ≤ b) ∧ b ≠ X.env.locals ∧ (∀ x c, X.env.cells.lookup x = some c → c ≠ b) ∧ ∀ p ∈ X.pn ++ pins, p.1 ≠ b)
    (keep : ∀ b o, b ≠ X.env.locals → b ∉ X.fs → b ∉ ch → s.heap.get? b = some o → H b = none → h'.get? b = some o)
    (slot : ∀ b o, b ≠ X.env.locals → b ∈ X.fs → b ∉ ch → s.heap.get? b = some o → H b = none → ∃ sl, h'.get? b = some { o with slots := sl }) (free : ∀ b o, b ∉ ch → s.heap.get? b = some o → H b = none → H' b = none)
    (there : ∀ b o, b ∉ ch → s.heap.get? b = some o → ∃ o', h'.get? b = some o')
    (tups : ∀ b xs, H b = some (.tup xs) → H' b = some (.tup xs)) (frzs : ∀ b o u, H b = some (.frz o u) → H' b = some (.frz o u)) (tbls : ∀ b ps, H b = some (.tbl ps) → ∃ more, H' b = some (.tbl (ps ++ more)))
    (ns : ∀ m, s.heap.Ns X.env.locals m → h'.Ns X.env.locals m) (hok : HOk X.prog X.w H' h') (hg : AllBare g') :
    Inv X pins σ H' { s with heap := h', gens := g', drawn := d', toks := t' } := by
  have neL : ∀ b o, X.s_0.heap.get? b = some o → b ≠ X.env.locals := fun b o e => Nat.ne_of_lt (Nat.lt_of_lt_of_le (Heap.lt_size e) I.ok.above)
  have neC : ∀ b o, X.s_0.heap.get? b = some o → b ∉ X.ex → b ∉ ch := fun b o e hx hb => by
    rcases (hch b hb).1 with z | z
    · exact hx z
    · exact absurd (Nat.lt_of_lt_of_le (Heap.lt_size e) z) (Nat.lt_irrefl _)
  have cellK : ∀ x c, X.env.cells.lookup x = some c → ∀ v, s.heap.IsCell c v → h'.IsCell c v := fun x c e v ⟨o, ho, hd⟩ => by
    have nch : c ∉ ch := fun z => (hch c z).2.2.1 x c e rfl
    by_cases hc : c ∈ X.fs
    · obtain ⟨sl, q⟩ := slot c o (I.cne x c e) hc nch ho (I.freeC x c e)
      exact ⟨_, q, hd⟩
    · exact ⟨o, keep c o (I.cne x c e) hc nch ho (I.freeC x c e), hd⟩
  refine ⟨I.ok, I.os, hg, ⟨fun b o e n hb hx => ?_, fun b o e n hb hx => ?_, fun b o e n hx => ?_, fun b o e hx => ?_, fun b xs e => tups b xs (I.base.tups b xs e), fun b o xs e => frzs b o xs (I.base.frzs b o xs e), fun b ps e => ?_⟩, ?_, fun x c e => ?_, ?_, fun x c e => ?_, fun p hp => ?_, hok, I.len⟩
  · exact keep b o (neL b o e) hb (neC b o e hx) (I.base.keep b o e n hb hx) (I.base.free b o e n hx)
  · obtain ⟨sl, e1⟩ := I.base.slot b o e n hb hx
    obtain ⟨sl', e2⟩ := slot b _ (neL b o e) hb (neC b o e hx) e1 (I.base.free b o e n hx)
    exact ⟨sl', e2⟩
  · obtain ⟨o', e1⟩ := I.base.there b o e hx
    exact free b o' (neC b o e hx) e1 (I.base.free b o e n hx)
  · obtain ⟨o', e1⟩ := I.base.there b o e hx
    exact there b o' (neC b o e hx) e1
  · obtain ⟨m1, e1⟩ := I.base.tbls b ps e
    obtain ⟨m2, e2⟩ := tbls b _ e1
    exact ⟨m1 ++ m2, by rw [e2, Array.append_assoc]⟩
  · obtain ⟨m, hn, hl⟩ := I.loc
    refine ⟨m, ns m hn, fun i x v e1 e2 e3 => ?_⟩
    obtain ⟨u, r, l⟩ := hl i x v e1 e2 e3
    refine ⟨u, r, ?_⟩
    rcases l with l | ⟨k, c, e, z⟩
    · exact .inl l
    · exact .inr ⟨k, c, e, cellK x c e _ z⟩
  · obtain ⟨v, z⟩ := I.cell x c e
    exact ⟨v, cellK x c e v z⟩
  · obtain ⟨m, ⟨o, _, _, ho, _⟩, _⟩ := I.loc
    exact free _ o (fun z => (hch _ z).2.1 rfl) ho I.free
  · obtain ⟨v, o, ho, hd⟩ := I.cell x c e
    exact free c o (fun z => (hch c z).2.2.1 x c e rfl) ho (I.freeC x c e)
  · obtain ⟨e, n, ne, nf, d⟩ := I.pin p hp
    have nch : p.1 ∉ ch := fun z => (hch p.1 z).2.2.2 p hp rfl
    exact ⟨keep p.1 p.2 ne nf nch e n, free p.1 p.2 nch e n, ne, nf, d⟩
theorem Inv.un {t' : Nat} (I : Inv X pins σ H s) (u : Un X.fs [] H H' s.heap h') (hok : HOk X.prog X.w H' h') : Inv X pins σ H' { s with heap := h', toks := t' } := by
  obtain ⟨m, ⟨o, es, ep, ho, r⟩, _⟩ := id I.loc
  obtain ⟨sl, hL⟩ := u.any ho I.free (by simp)
  exact I.step (g' := s.gens) (d' := s.drawn) (ch := []) (fun _ z => nomatch z) (fun b o _ hb _ e n => u.keep b o e n hb (by simp)) (fun b o _ hb _ e n => u.slot b o e n hb (by simp)) (fun b o _ e n => u.free b o e n (by simp)) (fun b o _ e => u.there b o e (by simp)) u.tups u.frzs u.tbls (fun m' hm => by
    obtain ⟨o', es', ep', ho', r'⟩ := hm
    rw [ho] at ho'; cases ho'
    exact ⟨_, es', ep', hL, r'⟩) hok I.bare
theorem Inv.call {g' : Array GenState} {t' : Nat} {d' : Drawn} {ch : List Addr} (I : Inv X pins σ H s) (u : Un (frs X.stack) ch H H' s.heap h') (hok : HOk X.prog X.w H' h') (hg : AllBare g')
    (hch : ∀ b ∈ ch, (b ∈ X.ex ∨ X.s_0.heap.objs.size ≤ b) ∧ b ≠ X.env.locals ∧ (∀ x c, X.env.cells.lookup x = some c → c ≠ b) ∧ ∀ p ∈ X.pn ++ pins, p.1 ≠ b) :
    Inv X pins σ H' { s with heap := h', gens := g', drawn := d', toks := t' } := by
  obtain ⟨m, ⟨o, es, ep, ho, r⟩, _⟩ := id I.loc
  obtain ⟨sl, hL⟩ := u.any ho I.free fun z => (hch _ z).2.1 rfl
  exact I.step (ch := ch) hch (fun b o hL hb hc e n => u.keep b o e n (fun z => (List.mem_cons.mp (I.stkSub b z)).elim hL hb) hc) (fun b o _ _ hc e n => u.any e n hc) (fun b o hc e n => u.free b o e n hc) (fun b o hc e => u.there b o e hc) u.tups u.frzs u.tbls (fun m' hm => by
    obtain ⟨o', es', ep', ho', r'⟩ := hm
    rw [ho] at ho'; cases ho'
    exact ⟨_, es', ep', hL, r'⟩) hok hg
theorem Inv.turned {t' : Nat} {it : Addr} (I : Inv X pins σ H s) (k : ∀ b o, b ≠ it → s.heap.get? b = some o → h'.get? b = some o) (hn : H it = none) (hL : it ≠ X.env.locals)
    (h1 : it ∈ X.ex ∨ X.s_0.heap.objs.size ≤ it) (h2 : ∀ x c, X.env.cells.lookup x = some c → c ≠ it) (h3 : ∀ p ∈ X.pn ++ pins, p.1 ≠ it) : Inv X pins σ H { s with heap := h', toks := t' } := by
  have nit : ∀ b u, H b = some u → b ≠ it := fun b u e z => by rw [z, hn] at e; cases e
  refine I.step (g' := s.gens) (d' := s.drawn) (ch := [it]) (fun b hb => ?_) (fun b o _ _ hc e _ => k b o (fun z => hc (by simp [z])) e) (fun b o _ _ hc e _ => ⟨o.slots, k b o (fun z => hc (by simp [z])) e⟩) (fun _ _ _ _ n => n)
    (fun b o hc e => ⟨o, k b o (fun z => hc (by simp [z])) e⟩) (fun _ _ e => e) (fun _ _ _ e => e) (fun b ps e => ⟨#[], by rw [e]; simp⟩) (fun m hm => ?_) (fun b u e => ?_) I.bare
  · have e : b = it := by simpa using hb
    subst e
    exact ⟨h1, hL, h2, h3⟩
  · obtain ⟨o, es, ep, ho, r⟩ := hm
    exact ⟨o, es, ep, k _ o (Ne.symm hL) ho, r⟩
  · refine (I.hok b u e).stay (fun c v hc q => k c v ?_ q) (fun _ q => q) fun _ _ q => q
    rcases hc with z | z
    · rw [z]; exact nit b u e
    · exact nit c _ z
theorem Inv.tok (I : Inv X pins σ H s) (t : Nat) : Inv X pins σ H { s with toks := t } := I.un (h' := s.heap) (t' := t) Un.refl I.hok
theorem Inv.kept {t' : Nat} (I : Inv X pins σ H s) (k : ∀ b u, s.heap.get? b = some u → h'.get? b = some u) : Inv X pins σ H { s with heap := h', toks := t' } := I.un (Un.kept k) (I.hok.kept k)
theorem Inv.laid {a : Addr} {o : HO} {t' : Nat} (I : Inv X pins σ H s) (k : ∀ b u, s.heap.get? b = some u → h'.get? b = some u) (hp : s.heap.objs.size ≤ a) (new : ObjOk X.prog X.w (upd H a o) h' a o) :
    Inv X pins σ (upd H a o) { s with heap := h', toks := t' } := I.un (Un.laid k hp (I.hok.fresh hp)) (I.hok.laid k hp new)
theorem Inv.write {x e : Addr} {o : HO} {t' : Nat} (I : Inv X pins σ H s) (mu : Mut (H x)) (he : e = x ∨ H e = some (.own x)) (k : ∀ b u, b ≠ e → s.heap.get? b = some u → h'.get? b = some u) (heo : ∃ u, h'.get? e = some u)
    (new : ObjOk X.prog X.w (upd H x o) h' x o) : Inv X pins σ (upd H x o) { s with heap := h', toks := t' } := I.un (Un.write mu he k heo) (I.hok.write mu he k heo new)
theorem Inv.weak {σ' : List (Option V)} (I : Inv X pins σ H s) (hl : σ'.length = σ.length) (w : ∀ (i : Nat) v, σ'[i]? = some (some v) → σ[i]? = some (some v)) : Inv X pins σ' H s :=
  ⟨I.ok, I.os, I.bare, I.base, let ⟨m, hn, hl'⟩ := I.loc; ⟨m, hn, fun i x v e1 e2 e3 => hl' i x v e1 (w i v e2) e3⟩, I.cell, I.free, I.freeC, I.pin, I.hok, hl.trans I.len⟩
theorem Inv.pins_of {pins' : List (Addr × Obj)} (I : Inv X pins σ H s) (h : ∀ p ∈ pins', s.heap.get? p.1 = some p.2 ∧ H p.1 = none ∧ p.1 ≠ X.env.locals ∧ p.1 ∉ X.fs ∧ ∀ v, p.2.data ≠ .cell v) : Inv X pins' σ H s :=
  ⟨I.ok, I.os, I.bare, I.base, I.loc, I.cell, I.free, I.freeC, fun p hp => (List.mem_append.mp hp).elim (fun z => I.pin p (List.mem_append_left _ z)) (h p), I.hok, I.len⟩
theorem nodup_ix {N : List Str} (hN : N.Nodup) {i j : Nat} {x : Str} (a : N[i]? = some x) (b : N[j]? = some x) : i = j := by
  obtain ⟨h1, e1⟩ := List.getElem?_eq_some_iff.mp a
  obtain ⟨h2, e2⟩ := List.getElem?_eq_some_iff.mp b
  exact (List.getElem_inj hN).mp (e1.trans e2.symm)
theorem store_ok2 {M : Model} {A : Around} {E : Value → Shared → Prop} {i : Nat} {x : Str} {v : V} {u : Value} {Q : Unit → Shared → Prop} (I : Inv X pins σ H s) (hN : X.N.Nodup) (hi : X.N[i]? = some x) (hx : Loc X.env.scope x) (r : RelV v u)
    (h : ∀ s', Inv X pins (σ.set i (some v)) H s' → (∃ a, Heap.SameBut a s.heap s'.heap ∧ (a = X.env.locals ∨ X.env.cells.lookup x = some a)) → Q () s') (hf : X.fn x = true ∨ X.env.scope.names.lookup x = some .local := by first | exact .inl rfl | exact .inr rfl | assumption) : wpAny M A (storeName X.env x u) Q E s := by
  obtain ⟨m, hn, hl⟩ := id I.loc
  have hcls : (X.env.scope.kind == .class || (X.env.scope.kind == .module && X.env.locals != X.env.globals)) = false := by rw [I.ok.kind]; rfl
  have hiσ : i < σ.length := by rw [I.len]; exact (List.getElem?_eq_some_iff.mp hi).1
  have cne := I.cne
  have tracked : ∀ {a : Addr} {h' : Heap}, (∃ o, s.heap.get? a = some o ∧ H a = none) → Heap.SameBut a s.heap h' → HOk X.prog X.w H h' := fun {a h'} ha hs b ob e => by
    obtain ⟨_, _, hfree⟩ := ha
    refine (I.hok b ob e).stay (fun c w' hc q => (hs.2 c ?_).trans q) (fun _ q => q) fun _ _ q => q
    rintro rfl
    rcases hc with rfl | hc
    · rw [hfree] at e; cases e
    · rw [hfree] at hc; cases hc
  rcases hx with hk | hk
  · refine wpAny_storeName_local hk hn (fun h' hn' hs => ?_) hcls
    obtain ⟨oL, _, _, hoL, _⟩ := id hn
    refine h _ ⟨I.ok, I.os, I.bare, ⟨fun b o e n hb hx => ?_, fun b o e n hb hx => ?_, I.base.free, fun b o e hx => ?_, I.base.tups, I.base.frzs, I.base.tbls⟩, ⟨_, hn', fun j y v' e1 e2 e3 => ?_⟩, fun y c e => ?_, I.free, I.freeC, fun p hp => ?_, tracked ⟨oL, hoL, I.free⟩ hs, by simpa using I.len⟩ ⟨_, hs, .inl rfl⟩
    · exact (hs.2 b (Nat.ne_of_lt (Nat.lt_of_lt_of_le (Heap.lt_size e) I.ok.above))).trans (I.base.keep b o e n hb hx)
    · obtain ⟨sl, e1⟩ := I.base.slot b o e n hb hx
      exact ⟨sl, (hs.2 b (Nat.ne_of_lt (Nat.lt_of_lt_of_le (Heap.lt_size e) I.ok.above))).trans e1⟩
    · obtain ⟨o', e1⟩ := I.base.there b o e hx
      exact ⟨o', (hs.2 b (Nat.ne_of_lt (Nat.lt_of_lt_of_le (Heap.lt_size e) I.ok.above))).trans e1⟩
    · by_cases hj : j = i
      · subst hj
        rw [hi] at e1; cases e1
        rw [List.getElem?_set_self hiσ] at e2
        cases e2
        exact ⟨u, r, .inl ⟨hk, by simp⟩⟩
      · rw [List.getElem?_set_ne (Ne.symm hj)] at e2
        obtain ⟨u', r', q⟩ := hl j y v' e1 e2 e3
        refine ⟨u', r', ?_⟩
        rcases q with ⟨k, e⟩ | ⟨k, c, e, z⟩
        · refine .inl ⟨k, ?_⟩
          have : y ≠ x := fun e => hj (nodup_ix hN e1 (e ▸ hi))
          simp [this, e]
        · exact .inr ⟨k, c, e, z.sameBut hs (cne y c e)⟩
    · obtain ⟨w', z⟩ := I.cell y c e
      exact ⟨w', z.sameBut hs (cne y c e)⟩
    · obtain ⟨e, n, ne, nf, d⟩ := I.pin p hp
      exact ⟨(hs.2 p.1 ne).trans e, n, ne, nf, d⟩
  · have hfn : X.fn x = true := by
      rcases hf with z | z
      · exact z
      · rw [z] at hk; cases hk
    obtain ⟨c, hc⟩ := I.ok.has x (.inl hk)
    obtain ⟨w', z⟩ := I.cell x c hc
    refine wpAny_storeName_cell I.ok.kind hk hc z (fun h' hc' hs => ?_)
    obtain ⟨oc, hoc, hocd⟩ := id z
    refine h { s with heap := h' } ⟨I.ok, I.os, I.bare, ⟨fun b o e n hb hx => ?_, fun b o e n hb hx => ?_, I.base.free, fun b o e hx => ?_, I.base.tups, I.base.frzs, I.base.tbls⟩, ⟨m, hn.sameBut hs (Ne.symm (cne x c hc)), fun j y v' e1 e2 e3 => ?_⟩, fun y c' e => ?_, I.free, I.freeC, fun p hp => ?_, tracked ⟨oc, hoc, I.freeC x c hc⟩ hs, by simpa using I.len⟩ ⟨c, hs, .inr hc⟩
    · exact (hs.2 b (Nat.ne_of_lt (Nat.lt_of_lt_of_le (Heap.lt_size e) (I.ok.cab x c hfn hc)))).trans (I.base.keep b o e n hb hx)
    · obtain ⟨sl, e1⟩ := I.base.slot b o e n hb hx
      exact ⟨sl, (hs.2 b (Nat.ne_of_lt (Nat.lt_of_lt_of_le (Heap.lt_size e) (I.ok.cab x c hfn hc)))).trans e1⟩
    · obtain ⟨o', e1⟩ := I.base.there b o e hx
      exact ⟨o', (hs.2 b (Nat.ne_of_lt (Nat.lt_of_lt_of_le (Heap.lt_size e) (I.ok.cab x c hfn hc)))).trans e1⟩
    · by_cases hj : j = i
      · subst hj
        rw [hi] at e1; cases e1
        rw [List.getElem?_set_self hiσ] at e2
        cases e2
        exact ⟨u, r, .inr ⟨.inl hk, c, hc, hc'⟩⟩
      · rw [List.getElem?_set_ne (Ne.symm hj)] at e2
        obtain ⟨u', r', q⟩ := hl j y v' e1 e2 e3
        refine ⟨u', r', ?_⟩
        rcases q with q | ⟨k, c', e, z'⟩
        · exact .inl q
        · refine .inr ⟨k, c', e, z'.sameBut hs ?_⟩
          rintro rfl
          exact hj (nodup_ix hN e1 (I.ok.inj _ _ _ e hc ▸ hi))
    · by_cases hcc : c' = c
      · subst hcc; exact ⟨_, hc'⟩
      · obtain ⟨w2, z2⟩ := I.cell y c' e
        exact ⟨w2, z2.sameBut hs hcc⟩
    · obtain ⟨e, n, ne, nf, d⟩ := I.pin p hp
      refine ⟨(hs.2 p.1 ?_).trans e, n, ne, nf, d⟩
      intro q
      rw [q, hoc] at e
      have q' : oc = p.2 := Option.some.inj e
      exact d w' (by rw [← q']; exact hocd)
theorem store_ok {M : Model} {A : Around} {E : Value → Shared → Prop} {i : Nat} {x : Str} {v : V} {u : Value} {Q : Unit → Shared → Prop} (I : Inv X pins σ H s) (hN : X.N.Nodup) (hi : X.N[i]? = some x) (hx : Loc X.env.scope x) (r : RelV v u)
    (h : ∀ s', Inv X pins (σ.set i (some v)) H s' → Q () s') (hf : X.fn x = true ∨ X.env.scope.names.lookup x = some .local := by first | exact .inl rfl | exact .inr rfl | assumption) : wpAny M A (storeName X.env x u) Q E s :=
  store_ok2 I hN hi hx r (fun s' I' _ => h s' I') hf
theorem Inv.call' {s' : Shared} {ch : List Addr} (I : Inv X pins σ H s) (ho : s'.os = s.os) (u : Un (frs X.stack) ch H H' s.heap s'.heap) (hok : HOk X.prog X.w H' s'.heap) (hg : AllBare s'.gens)
    (hch : ∀ b ∈ ch, (b ∈ X.ex ∨ X.s_0.heap.objs.size ≤ b) ∧ b ≠ X.env.locals ∧ (∀ x c, X.env.cells.lookup x = some c → c ≠ b) ∧ ∀ p ∈ X.pn ++ pins, p.1 ≠ b) : Inv X pins σ H' s' := by
  obtain ⟨h', g', d', t', o'⟩ := s'
  have e : o' = s.os := ho
  subst e
  exact I.call (g' := g') (t' := t') (d' := d') u hok hg hch
end
abbrev XK := Value → Option Addr → Hp → Prop
abbrev St := List (Option V)
abbrev VK := V → Hp → Prop
abbrev TE := St → Hp → VK → Prop
abbrev TT := St → Hp → (Bool → Hp → Prop) → Prop
abbrev TA := St → Hp → (List V → Hp → Prop) → Prop
structure Ends where
  nx : St → Hp → Prop
  rt : VK
  bk : St → Hp → Prop := fun _ _ => False
  ct : St → Hp → Prop := fun _ _ => False
abbrev TS := Ends → St → Hp → Prop
def EP (X : Cx) (pins : List (Addr × Obj)) (σ : St) (Q : VK) (u : Value) (s' : Shared) : Prop := ∃ v H', Inv X pins σ H' s' ∧ RelV v u ∧ Q v H'
def TP (X : Cx) (pins : List (Addr × Obj)) (σ : St) (Q : Bool → Hp → Prop) (b : Bool) (s' : Shared) : Prop := ∃ H', Inv X pins σ H' s' ∧ Q b H'
def AP (X : Cx) (pins : List (Addr × Obj)) (σ : St) (Q : List V → Hp → Prop) (us : List Value) (s' : Shared) : Prop := ∃ vs H', Inv X pins σ H' s' ∧ Vals vs us ∧ Q vs H'
def SP (X : Cx) (pins : List (Addr × Obj)) (D : Ends) (f : Flow) (s' : Shared) : Prop :=
  match f with
  | .next => ∃ σ' H', Inv X pins σ' H' s' ∧ D.nx σ' H'
  | .brk => ∃ σ' H', Inv X pins σ' H' s' ∧ D.bk σ' H'
  | .cont => ∃ σ' H', Inv X pins σ' H' s' ∧ D.ct σ' H'
  | .ret u => ∃ v σ' H', Inv X pins σ' H' s' ∧ RelV v u ∧ D.rt v H'
def PE (X : Cx) (e : Expr) (t : TE) : Prop :=
  ∀ (pins : List (Addr × Obj)) (s : Shared) (σ : St) (H : Hp) (Q : VK), Inv X pins σ H s → t σ H Q → wpAny (model X.prog X.w) X.A (eval e X.env) (EP X pins σ Q) X.xe s
def PT (X : Cx) (e : Expr) (t : TT) : Prop :=
  ∀ (pins : List (Addr × Obj)) (s : Shared) (σ : St) (H : Hp) (Q : Bool → Hp → Prop), Inv X pins σ H s → t σ H Q → wpAny (model X.prog X.w) X.A (isTrue e X.env (eval e X.env)) (TP X pins σ Q) X.xe s
def PW (X : Cx) (e : Expr) (t : TT) : Prop :=
  ∀ (whole : Sem Value) (pins : List (Addr × Obj)) (s : Shared) (σ : St) (H : Hp) (Q : Bool → Hp → Prop), Inv X pins σ H s → t σ H Q → wpAny (model X.prog X.w) X.A (isTrue e X.env whole) (TP X pins σ Q) X.xe s
theorem PW.pt {X : Cx} {e : Expr} {t : TT} (h : PW X e t) : PT X e t := h _
def PA (X : Cx) (es : List Expr) (t : TA) : Prop :=
  ∀ (pos : Pos) (pins : List (Addr × Obj)) (s : Shared) (σ : St) (H : Hp) (Q : List V → Hp → Prop), Inv X pins σ H s → t σ H Q → wpAny (model X.prog X.w) X.A (spliced (backTo pos (starEach es X.env))) (AP X pins σ Q) X.xe s
def PS (X : Cx) (st : Stmt) (t : TS) : Prop :=
  ∀ (pins : List (Addr × Obj)) (s : Shared) (σ : St) (H : Hp) (D : Ends), Inv X pins σ H s → t D σ H → wpAny (model X.prog X.w) X.A (exec st X.env) (SP X pins D) X.xe s
def PSs (X : Cx) (st : List Stmt) (t : TS) : Prop :=
  ∀ (pins : List (Addr × Obj)) (s : Shared) (σ : St) (H : Hp) (D : Ends), Inv X pins σ H s → t D σ H → wpAny (model X.prog X.w) X.A (execs st X.env) (SP X pins D) X.xe s
theorem thn {α : Type} {t : Sem α} {Q Q' : α → Shared → Prop} {M : Model} {A : Around} {E : Value → Shared → Prop} {s : Shared} (h : wpAny M A t Q E s) (hQ : ∀ a s, Q a s → Q' a s) : wpAny M A t Q' E s := wpAny_mono h hQ fun _ _ x => x
end L2
namespace L2
open PySem PySem.Spec PyProof.Rows
section
variable {X : Cx}
theorem bin {a b : Expr} {ta tb : TE} (ha : PE X a ta) (hb : PE X b tb) {pins : List (Addr × Obj)} {s : Shared} {σ : St} {H : Hp} {R : V → V → Hp → Prop} (I : Inv X pins σ H s) (h : ta σ H fun x H1 => tb σ H1 fun y H2 => R x y H2)
    {α : Type} {Q : α → Shared → Prop} {f : Value → Value → Sem α}
    (hf : ∀ v u s2 x y H2, Inv X pins σ H2 s2 → RelV x v → RelV y u → R x y H2 → wpAny (model X.prog X.w) X.A (f v u) Q X.xe s2) :
    wpAny (model X.prog X.w) X.A (eval a X.env) (fun v s₁ => wpAny (model X.prog X.w) X.A (eval b X.env) (fun u s₂ => wpAny (model X.prog X.w) X.A (f v u) Q X.xe s₂) X.xe s₁) X.xe s := by
  refine thn (ha pins s σ H _ I h) fun v s1 ⟨x, H1, I1, r1, q1⟩ => ?_
  refine thn (hb pins s1 σ H1 _ I1 q1) fun u s2 ⟨y, H2, I2, r2, q2⟩ => ?_
  exact hf v u s2 x y H2 I2 r1 r2 q2
def tVar (i : Nat) : TE := fun σ H Q => ∃ v, σ[i]? = some (some v) ∧ Q v H
def tC (v : V) : TE := fun _ H Q => Q v H
theorem pe_var {i : Nat} {x : Str} {pos : Pos} (hN : X.N[i]? = some x) (hv : Vis X.env.scope x) (hd : (x == ("__debug__" : Str)) = false := by decide) (hcd : (x == ("__classdict__" : Str)) = false := by decide) : PE X (.Name x pos) (tVar i) := by
  intro pins s σ H Q I h
  obtain ⟨v, e, h⟩ := h
  obtain ⟨m, hn, hl⟩ := I.loc
  obtain ⟨u, r, l⟩ := hl i x v hN e hv
  have fin : EP X pins σ Q u s := ⟨v, H, I, r, h⟩
  rcases l with ⟨hk, hm⟩ | ⟨hk, c, hc, hcell⟩
  · exact wpAny_Name (wpAny_loadName_local I.ok.kind hk hn hm fin) hd
  · rcases hk with hk | hk
    · exact wpAny_Name (wpAny_loadName_cell I.ok.kind hk hc hcell fin) hd
    · exact wpAny_Name (wpAny_loadName_free I.ok.kind hk hc hcell fin hcd) hd
theorem pe_int {i j pos} : PE X (.Constant (.int i) j pos) (tC (.int i)) := fun _ _ _ H _ I h => wpAny_Constant_int ⟨.int i, H, I.tok _, ⟨_, rfl⟩, h⟩
theorem pe_bl {b j pos} : PE X (.Constant (.bool b) j pos) (tC (.bl b)) := fun _ _ _ H _ I h => Constant_bool ⟨.bl b, H, I, rfl, h⟩
theorem pe_str {x j pos} : PE X (.Constant (.str x) j pos) (tC (.str x)) := fun _ _ _ H _ I h => Calls.Constant_str ⟨.str x, H, I.tok _, ⟨_, rfl⟩, h⟩
def Gl (X : Cx) (x : Str) : Prop := X.env.kindOf x = some .globalImplicit
theorem ld_glob {E : Value → Shared → Prop} {pins : List (Addr × Obj)} {s : Shared} {σ : St} {H : Hp} {x : Str} {u : Value} {pos : Pos} {Q : Value → Shared → Prop} (I : Inv X pins σ H s) (hg : Gl X x) (hm : X.mg x = some u) (h : Q u s)
    (hd : (x == ("__debug__" : Str)) = false := by decide) : wpAny (model X.prog X.w) X.A (eval (.Name x pos) X.env) Q E s :=
  Calls.Name_function_global I.ok.kind hg (Calls.loadGlobal_global (by rw [I.ok.glob]; exact I.mod.glob.keeps I.bk) hm h) hd
theorem ld_blt {E : Value → Shared → Prop} {pins : List (Addr × Obj)} {s : Shared} {σ : St} {H : Hp} {x : Str} {u : Value} {pos : Pos} {Q : Value → Shared → Prop} (I : Inv X pins σ H s) (hg : Gl X x) (hm : X.mg x = none) (hv : bootBuiltins x = some u) (h : Q u s)
    (hn : x ≠ "__name__" := by decide) (hd : (x == ("__debug__" : Str)) = false := by decide) : wpAny (model X.prog X.w) X.A (eval (.Name x pos) X.env) Q E s := by
  obtain ⟨mb, h1, h2⟩ := I.mod.blt
  exact Calls.Name_function_global I.ok.kind hg (Calls.loadGlobal_builtin (by rw [I.ok.glob]; exact I.mod.glob.keeps I.bk) hm (by rw [I.ok.blt]; exact h1.keeps I.bk) ((h2 x hn).trans hv) h) hd
theorem pe_glob {x : Str} {v : V} {u : Value} {pos : Pos} (hg : Gl X x) (hm : X.mg x = some u) (r : RelV v u) (hd : (x == ("__debug__" : Str)) = false := by decide) : PE X (.Name x pos) (tC v) :=
  fun _ _ _ H _ I h => ld_glob I hg hm ⟨v, H, I, r, h⟩ hd
theorem pe_bltn {x : Str} {v : V} {u : Value} {pos : Pos} (hg : Gl X x) (hm : X.mg x = none) (hv : bootBuiltins x = some u) (r : RelV v u) (hn : x ≠ "__name__" := by decide) (hd : (x == ("__debug__" : Str)) = false := by decide) : PE X (.Name x pos) (tC v) :=
  fun _ _ _ H _ I h => ld_blt I hg hm hv ⟨v, H, I, r, h⟩ hn hd
variable {a b : Expr} {ta tb : TE} {pos : Pos}
def PC (X : Cx) (op : CmpOp) (a b : Expr) (t : TE) : Prop :=
  ∀ (pins : List (Addr × Obj)) (s : Shared) (σ : St) (H : Hp) (Q : VK), Inv X pins σ H s → t σ H Q →
    wpAny (model X.prog X.w) X.A (eval a X.env) (fun v s₁ => wpAny (model X.prog X.w) X.A (eval b X.env) (fun u s₂ => wpAny (model X.prog X.w) X.A (compareOp op v u) (EP X pins σ Q) X.xe s₂) X.xe s₁) X.xe s
theorem nobehind (b : Expr) {op : CmpOp} (h : op ≠ .In) (h2 : op ≠ .NotIn) : behindInMarks op b = false := by
  have e1 : (op == CmpOp.In) = false := by cases op <;> first | rfl | exact absurd rfl h
  have e2 : (op == CmpOp.NotIn) = false := by cases op <;> first | rfl | exact absurd rfl h2
  cases b <;> simp [behindInMarks, e1, e2]
def tB (t : TE) : TT := fun σ H Q => t σ H fun x H1 => ∃ c, x = .bl c ∧ Q c H1
theorem pt_cmp {op : CmpOp} {t : TE} (h : PC X op a b t) (h1 : behindInMarks op b = false := by first | exact nobehind _ (by decide) (by decide) | rfl) : PT X (.Compare a [op] [b] pos) (tB t) := by
  intro pins s σ H Q I hw
  refine wpAny_isTrue_Compare1 (thn (h pins s σ H _ I hw) fun v s1 h1 => thn h1 fun u s2 h2 => thn h2 fun c s3 ⟨x, H1, I1, r1, q1⟩ => ?_) h1
  obtain ⟨d, rfl, q⟩ := q1
  cases r1
  exact wpAny_truthy_bool ⟨H1, I1, q⟩
theorem pt_val {e : Expr} {t : TE} (h : PE X e t) (he : ∀ whole, isTrue e X.env whole = (do let v ← whole; standAt e.pos; holding [v] (truthy v)) := by intro _; rfl) : PT X e (tB t) := by
  intro pins s σ H Q I hw
  refine isTrue_plain (thn (h pins s σ H _ I hw) fun v s1 ⟨x, H1, I1, r1, q1⟩ => ?_) (he _)
  obtain ⟨d, rfl, q⟩ := q1
  cases r1
  exact wpAny_truthy_bool ⟨H1, I1, q⟩
variable {tA tB' : TT} {rest : List Expr}
def tAnd (t u : TT) : TT := fun σ H Q => t σ H fun c H1 => if c = true then u σ H1 Q else Q false H1
def tNot (t : TT) : TT := fun σ H Q => t σ H fun c H1 => Q (!c) H1
theorem pw_and1 (ha : PT X a tA) : PW X (.BoolOp .And [a] pos) tA := by
  intro wh pins s σ H Q I h
  refine isTrue_and (thn (ha pins s σ H Q I h) fun c s1 e => ?_)
  cases c with
  | true => exact isTrue_and_nil e
  | false => exact e
theorem pw_and (ha : PT X a tA) (hb : PW X (.BoolOp .And (b :: rest) pos) tB') : PW X (.BoolOp .And (a :: b :: rest) pos) (tAnd tA tB') := by
  intro wh pins s σ H Q I h
  refine isTrue_and (thn (ha pins s σ H _ I h) fun c s1 ⟨H1, I1, q1⟩ => ?_)
  cases c with
  | true => exact hb wh pins s1 σ H1 Q I1 q1
  | false => exact ⟨H1, I1, q1⟩
theorem pt_not (ha : PT X a tA) : PT X (.UnaryOp .Not a pos) (tNot tA) := by
  intro pins s σ H Q I h
  exact isTrue_not (ha pins s σ H (fun c H1 => Q (!c) H1) I h)
def tAndV (ta tb : TE) : TE := fun σ H Q => ta σ H fun x H1 => ∃ c, x = .bl c ∧ if c = true then tb σ H1 Q else Q (.bl false) H1
theorem pe_one {op} {t : TE} (h : PE X a t) : PE X (.BoolOp op [a] pos) t := fun pins s σ H Q I hw => BoolOp_one (h pins s σ H Q I hw)
theorem pe_and (ha : PE X a ta) (hb : PE X (.BoolOp .And (b :: rest) pos) tb) : PE X (.BoolOp .And (a :: b :: rest) pos) (tAndV ta tb) := by
  intro pins s σ H Q I h
  refine BoolOp_and (thn (ha pins s σ H _ I h) fun v s1 ⟨x, H1, I1, r1, q1⟩ => ?_)
  obtain ⟨c, rfl, q1⟩ := q1
  cases r1
  refine wpAny_truthy_bool ?_
  cases c with
  | true => exact hb pins s1 σ H1 Q I1 q1
  | false => exact ⟨.bl false, H1, I1, rfl, q1⟩
def tIf (t : TT) (ta tb : TE) : TE := fun σ H Q => t σ H fun c H1 => if c = true then ta σ H1 Q else tb σ H1 Q
theorem pe_ifExp {c : Expr} (hc : PT X c tA) (ha : PE X a ta) (hb : PE X b tb) : PE X (.IfExp c a b pos) (tIf tA ta tb) := by
  intro pins s σ H Q I h
  refine wpAny_IfExp (thn (hc pins s σ H _ I h) fun d s1 ⟨H1, I1, q1⟩ => ?_)
  cases d with
  | true => exact ha pins s1 σ H1 Q I1 q1
  | false => exact hb pins s1 σ H1 Q I1 q1
end
end L2
namespace L2
open PySem PySem.Spec PyProof.Rows
def SqL (K : PySem.W.Frag) (H : Hp) (a : Addr) (xs : List V) : Prop :=
  Rd H a (.lst xs) ∨
    ∃ (o : Obj) (its : Array Value) (n : Nat), K.lookup a = some o ∧ o.cls = .type "list" ∧ o.dict = none ∧ o.data = .seq its n ∧ its.size ≤ sizeLine ∧ Vals xs its.toList
def SqT (K : PySem.W.Frag) (H : Hp) (a : Addr) (xs : List V) : Prop :=
  Rd H a (.tup xs) ∨
    ∃ (o : Obj) (its : Array Value) (n : Nat), K.lookup a = some o ∧ (o.cls, o.dict) = (Value.type "tuple", (none : Option Addr)) ∧ o.data = .seq its n ∧ its.size ≤ sizeLine ∧ Vals xs its.toList
def absV : Value → Option V
  | .none => some .non
  | .bool b => some (.bl b)
  | .int i _ => some (.int i)
  | .str x _ => some (.str x)
  | .bytes b _ => some (.byt b)
  | .float b _ => some (.flt b)
  | .ref a => some (.ref a)
  | .type n => some (.ty n)
  | _ => none
theorem RelV.abs {x : V} {u : Value} (r : RelV x u) : absV u = some x := by
  cases x with
  | non => cases r; rfl
  | bl _ => cases r; rfl
  | int _ => obtain ⟨t, rfl⟩ := r; rfl
  | str _ => obtain ⟨t, rfl⟩ := r; rfl
  | byt _ => obtain ⟨t, rfl⟩ := r; rfl
  | flt _ => obtain ⟨t, rfl⟩ := r; rfl
  | ref _ => cases r; rfl
  | ty _ => cases r; rfl
theorem RelV.inj {x y : V} {u : Value} (r : RelV x u) (q : RelV y u) : x = y := Option.some.inj (r.abs.symm.trans q.abs)
theorem Vals.inj : ∀ {xs ys : List V} {us : List Value}, Vals xs us → Vals ys us → xs = ys
  | _, _, _, .nil, .nil => rfl
  | _, _, _, .cons r t, .cons r' t' => by rw [r.inj r', Vals.inj t t']
section
variable {X : Cx} {pins : List (Addr × Obj)} {σ : St} {H : Hp} {s : Shared} {a : Addr} {xs ys : List V}
theorem SqL.of {K : PySem.W.Frag} (h : H a = some (.lst xs)) : SqL K H a xs := .inl (.inl h)
theorem SqT.of {K : PySem.W.Frag} (h : H a = some (.tup xs)) : SqT K H a xs := .inl (.inl h)
theorem Inv.list (I : Inv X pins σ H s) (h : SqL X.K H a xs) : ∃ its : List Value, Vals xs its ∧ PlainL s.heap a its.toArray ∧ xs.length ≤ sizeLine := by
  rcases h with h | ⟨o, its, n, hk, hc, hd, hs, hz, r⟩
  · obtain ⟨z, its, n, r, e⟩ := h.ok I.hok
    exact ⟨its, r, ⟨_, n, e, rfl, rfl, rfl⟩, z⟩
  · refine ⟨its.toList, r, ⟨o, n, I.kIn a o hk, hc, hd, by simpa using hs⟩, ?_⟩
    have e := r.length
    simp only [Array.length_toList] at e
    omega
theorem Inv.tuple (I : Inv X pins σ H s) (h : SqT X.K H a xs) : ∃ its : List Value, Vals xs its ∧ IsTup s.heap a its.toArray ∧ xs.length ≤ sizeLine := by
  rcases h with h | ⟨o, its, n, hk, hc, hs, hz, r⟩
  · obtain ⟨z, its, r, p⟩ := h.ok I.hok
    exact ⟨its, r, p.t, z⟩
  · refine ⟨its.toList, r, ⟨o, I.kIn a o hk, congrArg Prod.fst hc, n, by simpa using hs⟩, ?_⟩
    have e := r.length
    simp only [Array.length_toList] at e
    omega
theorem Inv.list_inj (I : Inv X pins σ H s) (h : SqL X.K H a xs) (h' : SqL X.K H a ys) : xs = ys := by
  obtain ⟨its, r, ⟨o, n, e, _, _, d⟩, _⟩ := I.list h
  obtain ⟨its', r', ⟨o', n', e', _, _, d'⟩, _⟩ := I.list h'
  rw [e] at e'; cases e'
  rw [d] at d'
  injection d' with d1 _
  have : its = its' := by simpa using congrArg Array.toList d1
  subst this
  exact r.inj r'
theorem Inv.tuple_inj (I : Inv X pins σ H s) (h : SqT X.K H a xs) (h' : SqT X.K H a ys) : xs = ys := by
  obtain ⟨its, r, ⟨o, e, _, n, d⟩, _⟩ := I.tuple h
  obtain ⟨its', r', ⟨o', e', _, n', d'⟩, _⟩ := I.tuple h'
  rw [e] at e'; cases e'
  rw [d] at d'
  injection d' with d1 _
  have : its = its' := by simpa using congrArg Array.toList d1
  subst this
  exact r.inj r'
end
abbrev Cx.wish (X : Cx) (E : Value → Shared → Prop) : Cx := { X with xe := E }
abbrev Cx.nox (X : Cx) : Cx := X.wish fun _ _ => False
theorem Cx.Ok.wish {X : Cx} (ok : X.Ok) (E : Value → Shared → Prop) : (X.wish E).Ok :=
  ⟨ok.mod, ok.kind, ok.glob, ok.blt, ok.above, ok.inj, ok.has, ok.cab, ok.hd, ok.hh, ok.frames, ok.stk, ok.exf, ok.bs, ok.bsz, ok.noex, ok.exfs, ok.funs, ok.frf⟩
theorem Cx.Ok.unwish {X : Cx} {E : Value → Shared → Prop} (ok : (X.wish E).Ok) : X.Ok :=
  ⟨ok.mod, ok.kind, ok.glob, ok.blt, ok.above, ok.inj, ok.has, ok.cab, ok.hd, ok.hh, ok.frames, ok.stk, ok.exf, ok.bs, ok.bsz, ok.noex, ok.exfs, ok.funs, ok.frf⟩
section
variable {X : Cx} {pins : List (Addr × Obj)} {σ : St} {H : Hp} {s : Shared} {E : Value → Shared → Prop}
theorem Inv.wish (I : Inv X pins σ H s) (E : Value → Shared → Prop) : Inv (X.wish E) pins σ H s := ⟨I.ok.wish E, I.os, I.bare, I.base, I.loc, I.cell, I.free, I.freeC, I.pin, I.hok, I.len⟩
theorem Inv.unwish (I : Inv (X.wish E) pins σ H s) : Inv X pins σ H s := ⟨I.ok.unwish, I.os, I.bare, I.base, I.loc, I.cell, I.free, I.freeC, I.pin, I.hok, I.len⟩
theorem SP.unwish {D : Ends} {f : Flow} {s' : Shared} (h : SP (X.wish E) pins D f s') : SP X pins D f s' := by
  cases f with
  | next => obtain ⟨σ', H', I, q⟩ := h; exact ⟨σ', H', I.unwish, q⟩
  | brk => obtain ⟨σ', H', I, q⟩ := h; exact ⟨σ', H', I.unwish, q⟩
  | cont => obtain ⟨σ', H', I, q⟩ := h; exact ⟨σ', H', I.unwish, q⟩
  | ret u => obtain ⟨v, σ', H', I, r, q⟩ := h; exact ⟨v, σ', H', I.unwish, r, q⟩
theorem PE.nox {e : Expr} {t : TE} (h : PE X.nox e t) : PE X e t := fun pins s σ H Q I hw =>
  wpAny_mono (h pins s σ H Q (I.wish _) hw) (fun _ _ ⟨v, H', I', r, q⟩ => ⟨v, H', I'.unwish, r, q⟩) fun _ _ z => False.elim z
theorem PT.nox {e : Expr} {t : TT} (h : PT X.nox e t) : PT X e t := fun pins s σ H Q I hw =>
  wpAny_mono (h pins s σ H Q (I.wish _) hw) (fun _ _ ⟨H', I', q⟩ => ⟨H', I'.unwish, q⟩) fun _ _ z => False.elim z
theorem PSs.nox {st : List Stmt} {t : TS} (h : PSs X.nox st t) : PSs X st t := fun pins s σ H D I hw =>
  wpAny_mono (h pins s σ H D (I.wish _) hw) (fun _ _ q => q.unwish) fun _ _ z => False.elim z
end
section
variable {X : Cx} {st : Stmt} {rest : List Stmt} {t u : TS} {e : Expr} {te : TE} {pos : Pos}
def tNext : TS := fun D σ H => D.nx σ H
def tSeq (t u : TS) : TS := fun D σ H => t { D with nx := u D } σ H
theorem pss_nil : PSs X [] tNext := fun _ _ σ H _ I h => wpAny_execs_nil ⟨σ, H, I, h⟩
theorem pss_cons (h1 : PS X st t) (h2 : PSs X rest u) : PSs X (st :: rest) (tSeq t u) := by
  intro pins s σ H D I h
  refine wpAny_execs_cons (thn (h1 pins s σ H { D with nx := u D } I h) fun f s1 q => ?_)
  cases f with
  | next =>
    obtain ⟨σ', H', I', q⟩ := q
    exact h2 pins s1 σ' H' D I' q
  | ret v => exact q
  | brk => exact q
  | cont => exact q
theorem pss_one (h1 : PS X st t) : PSs X [st] t := by
  intro pins s σ H D I h
  refine wpAny_execs_cons (thn (h1 pins s σ H D I h) fun f s1 q => ?_)
  cases f with
  | next => exact wpAny_execs_nil q
  | ret v => exact q
  | brk => exact q
  | cont => exact q
theorem Inv.quiet {pins : List (Addr × Obj)} {σ : St} {H : Hp} {s : Shared} (I : Inv X pins σ H s) : interactive X.env = false := by simp [interactive, I.ok.kind]
def tDrop (te : TE) : TS := fun D σ H => te σ H fun _ H1 => D.nx σ H1
theorem ps_expr (he : PE X e te) (hs : swapsWith e none pos.line X.env = pure false := by rfl) : PS X (.Expr e pos) (tDrop te) := by
  intro pins s σ H D I h
  exact wpAny_Expr_any (thn (he pins s σ H _ I h) fun v s1 ⟨x, H1, I1, r1, q1⟩ => ⟨σ, H1, I1, q1⟩) I.quiet hs
def tRet (te : TE) : TS := fun D σ H => te σ H D.rt
theorem ps_ret (he : PE X e te) : PS X (.Return (some e) pos) (tRet te) := by
  intro pins s σ H D I h
  exact wpAny_Return_some (thn (he pins s σ H _ I h) fun v s1 ⟨x, H1, I1, r1, q1⟩ => ⟨x, σ, H1, I1, r1, q1⟩)
def tIfS (c : TT) (t u : TS) : TS := fun D σ H => c σ H fun b H1 => if b = true then t D σ H1 else u D σ H1
theorem ps_if {c : Expr} {a b : List Stmt} {tc : TT} (hc : PT X c tc) (ha : PSs X a t) (hb : PSs X b u) : PS X (.If c a b pos) (tIfS tc t u) := by
  intro pins s σ H D I h
  refine wpAny_If (thn (hc pins s σ H _ I h) fun d s1 ⟨H1, I1, q1⟩ => ?_)
  cases d with
  | true => exact ha pins s1 σ H1 D I1 q1
  | false => exact hb pins s1 σ H1 D I1 q1
end
abbrev TG := V → St → Hp → (St → Hp → Prop) → Prop
abbrev TGs := List V → St → Hp → (St → Hp → Prop) → Prop
def PG (X : Cx) (target : Expr) (t : TG) : Prop :=
  ∀ (pins : List (Addr × Obj)) (s : Shared) (σ : St) (H : Hp) (v : V) (u : Value) (Q : St → Hp → Prop), Inv X pins σ H s → RelV v u → t v σ H Q →
    wpAny (model X.prog X.w) X.A (assign target X.env u) (fun _ s' => ∃ σ' H', Inv X pins σ' H' s' ∧ Q σ' H') X.xe s
def PGs (X : Cx) (ts : List Expr) (t : TGs) : Prop :=
  ∀ (pins : List (Addr × Obj)) (s : Shared) (σ : St) (H : Hp) (vs : List V) (us : List Value) (Q : St → Hp → Prop), Inv X pins σ H s → Vals vs us → t vs σ H Q →
    wpAny (model X.prog X.w) X.A (assignInOrder ((assignEach ts X.env).map (·.2)) us) (fun _ s' => ∃ σ' H', Inv X pins σ' H' s' ∧ Q σ' H') X.xe s
abbrev TSet := V → V → V → Hp → (Hp → Prop) → Prop
def PSet (X : Cx) (t : TSet) : Prop :=
  ∀ (pins : List (Addr × Obj)) (s : Shared) (σ : St) (H : Hp) (o i v : V) (ov iv u : Value) (Q : Hp → Prop), Inv X pins σ H s → RelV o ov → RelV i iv → RelV v u → t o i v H Q →
    wpAny (model X.prog X.w) X.A (setItem ov iv u) (fun _ s' => ∃ H', Inv X pins σ H' s' ∧ Q H') X.xe s
section
variable {X : Cx} {pos : Pos}
def gName (i : Nat) : TG := fun v σ H Q => Q (σ.set i (some v)) H
theorem pg_name {i : Nat} {x : Str} (hN : X.N.Nodup) (hi : X.N[i]? = some x) (hx : Loc X.env.scope x) (hf : X.fn x = true ∨ X.env.scope.names.lookup x = some .local := by first | exact .inl rfl | exact .inr rfl | assumption) : PG X (.Name x pos) (gName i) := by
  intro pins s σ H v u Q I r h
  exact wpAny_assign_Name (store_ok I hN hi hx r (fun s' I' => ⟨_, H, I', h⟩) hf)
def gNil : TGs := fun vs σ H Q => vs = [] ∧ Q σ H
def gCons (t : TG) (u : TGs) : TGs := fun vs σ H Q => ∃ v r, vs = v :: r ∧ t v σ H fun σ' H' => u r σ' H' Q
theorem pgs_nil : PGs X [] gNil := by
  intro pins s σ H vs us Q I r h
  obtain ⟨e, h⟩ := h
  subst e
  cases r
  exact assignInOrder_nil ⟨σ, H, I, h⟩
theorem pgs_cons {e : Expr} {es : List Expr} {t : TG} {u : TGs} (h1 : PG X e t) (h2 : PGs X es u)
    (hs : (assignEach (e :: es) X.env).map (·.2) = assign e X.env :: (assignEach es X.env).map (·.2) := by rfl) : PGs X (e :: es) (gCons t u) := by
  intro pins s σ H vs us Q I r h
  obtain ⟨v, vr, e1, h⟩ := h
  subst e1
  cases r with
  | cons r rr =>
    rw [hs]
    refine assignInOrder_cons (thn (h1 pins s σ H _ _ _ I r h) fun _ s1 ⟨σ1, H1, I1, q1⟩ => ?_)
    exact h2 pins s1 σ1 H1 _ _ Q I1 rr q1
def gTup (K : PySem.W.Frag) (n : Nat) (t : TGs) : TG := fun v σ H Q => ∃ a xs, v = .ref a ∧ SqT K H a xs ∧ xs.length = n ∧ t xs σ H Q
theorem pg_tup {es : List Expr} {k : Nat} {t : TGs} {n : Nat} (hc : X.calm = true) (h : PGs X es t)
    (hn : (assignEach es X.env).length = n := by rfl) (hst : (assignEach es X.env).findIdx? (·.1) = none := by rfl) : PG X (.Tuple es k pos) (gTup X.K n t) := by
  intro pins s σ H v u Q I r hw
  obtain ⟨a, xs, e1, hq, hl, hw⟩ := hw
  subst e1
  cases r
  obtain ⟨its, rv, ht, hz⟩ := I.tuple hq
  refine assign_Tuple_tuple (I.ok.hd hc) ht (by simp [hn, ← hl, rv.length]) hst fun h' hx => ?_
  have I1 : Inv X pins σ H { s with heap := h' } := I.kept (t' := s.toks) fun b o e => hx b o (Nat.ne_of_lt (Heap.lt_size e)) e
  exact h pins _ σ H xs _ Q I1 (by simpa using rv) hw
def gSub (to ti : TE) (t : TSet) : TG := fun v σ H Q => to σ H fun o H1 => ti σ H1 fun i H2 => t o i v H2 fun H3 => Q σ H3
theorem pg_sub {o i : Expr} {to ti : TE} {t : TSet} (ho : PE X o to) (hi : PE X i ti) (hs : PSet X t)
    (ha : ∀ v, assign (.Subscript o i pos) X.env v = (do
      let ov ← holding [v] (eval o X.env)
      let iv ← holding [v, ov] (eval i X.env)
      standAt pos
      holding [v, ov, iv] (setItem ov iv v)
      release [v, ov, iv] []) := by intro _; rfl) : PG X (.Subscript o i pos) (gSub to ti t) := by
  intro pins s σ H v u Q I r h
  rw [ha]
  refine wpAny_bind (wpAny_holding (thn (ho pins s σ H _ I h) fun ov s1 ⟨x, H1, I1, r1, q1⟩ => ?_))
  refine wpAny_bind (wpAny_holding (thn (hi pins s1 σ H1 _ I1 q1) fun iv s2 ⟨y, H2, I2, r2, q2⟩ => ?_))
  refine wpAny_bind (wpAny_standAt (wpAny_bind (wpAny_holding (thn (hs pins s2 σ H2 x y v ov iv u _ I2 r1 r2 r q2) fun _ s3 ⟨H3, I3, q3⟩ => ?_))))
  exact wpAny_release ⟨σ, H3, I3, q3⟩
def tAsg (te : TE) (g : TG) : TS := fun D σ H => te σ H fun x H1 => g x σ H1 D.nx
theorem ps_asg {tg e : Expr} {te : TE} {g : TG} (he : PE X e te) (hg : PG X tg g) (hs : swapsWithSole [tg] e pos.line X.env = pure false := by rfl) (hw : swappedStores [tg] e X.env = pure none := by rfl)
    (h1 : (assignEach [tg] X.env).map (·.2) = [assign tg X.env] := by rfl) : PS X (.Assign [tg] e pos) (tAsg te g) := by
  intro pins s σ H D I h
  refine wpAny_Assign_stores (thn (he pins s σ H _ I h) fun v s1 ⟨x, H1, I1, r1, q1⟩ => ?_) hs hw
  rw [h1]
  exact thn (hg pins s1 σ H1 x v _ I1 r1 q1) fun _ s2 q => q
theorem ps_set {i : Nat} {x : Str} {e : Expr} {te : TE} {pos' : Pos} (hN : X.N.Nodup) (hi : X.N[i]? = some x) (hx : Loc X.env.scope x) (he : PE X e te) (hs : swapsWith e (some (.Name x pos')) pos.line X.env = pure false := by rfl) (hf : X.fn x = true ∨ X.env.scope.names.lookup x = some .local := by first | exact .inl rfl | exact .inr rfl | assumption) :
    PS X (.Assign [.Name x pos'] e pos) (tAsg te (gName i)) := by
  intro pins s σ H D I h
  refine wpAny_Assign_Name (thn (he pins s σ H _ I h) fun v s1 ⟨y, H1, I1, r1, q1⟩ => ?_) hs
  exact store_ok I1 hN hi hx r1 (fun s2 I2 => ⟨_, H1, I2, q1⟩) hf
end
section
variable {X : Cx} {pos : Pos}
def tWhile (c : TT) (tb : TS) : TS := fun D σ H => ∃ W : Nat → St → Hp → Prop, (∃ m, W m σ H) ∧ ∀ m σ H, W m σ H →
  c σ H fun b H1 => if b = true then ∃ N : St → Hp → Prop, (∀ σ' H', N σ' H' → ∃ m', m' < m ∧ W m' σ' H') ∧ tb { D with nx := N, ct := N, bk := D.nx } σ H1 else D.nx σ H1
theorem ps_while {c : Expr} {body : List Stmt} {tc : TT} {tb : TS} (hp : PassesOwn (model X.prog X.w) X.A X.env X.xe) (hc : PT X c tc) (hb : PSs X body tb) : PS X (.While c body [] pos) (tWhile tc tb) := by
  intro pins s σ H D I h
  obtain ⟨W, ⟨m0, w0⟩, turn⟩ := h
  refine wpAny_While (codeAny_whileLoop (fun n s' => ∃ σ' H', Inv X pins σ' H' s' ∧ W n σ' H') ?_ m0 ⟨σ, H, I, w0⟩)
  rintro n s1 ⟨σ1, H1, I1, w1⟩
  refine wpAny_passesOwn hp (thn (hc pins s1 σ1 H1 _ I1 (turn n σ1 H1 w1)) fun b s2 ⟨H2, I2, q2⟩ => ?_)
  cases b with
  | true =>
    obtain ⟨N, hN, q2⟩ := q2
    rw [if_pos rfl]
    refine wpAny_passesOwn hp (thn (hb pins s2 σ1 H2 _ I2 q2) fun f s3 q3 => ?_)
    cases f with
    | next =>
      obtain ⟨σ3, H3, I3, n3⟩ := q3
      obtain ⟨m', hm, w3⟩ := hN σ3 H3 n3
      exact ⟨m', hm, σ3, H3, I3, w3⟩
    | cont =>
      obtain ⟨σ3, H3, I3, n3⟩ := q3
      obtain ⟨m', hm, w3⟩ := hN σ3 H3 n3
      exact ⟨m', hm, σ3, H3, I3, w3⟩
    | brk => exact q3
    | ret v => exact q3
  | false =>
    rw [if_neg Bool.false_ne_true]
    exact wpAny_execs_nil ⟨σ1, H2, I2, q2⟩
end
structure It where
  go : Nat → Hp → Prop
  yld : Nat → Hp → V → Hp → Prop
  stop : Nat → Hp → Prop
def FpOk (X : Cx) (pins : List (Addr × Obj)) (H : Hp) (b : Addr) : Prop :=
  H b = none ∧ b ≠ X.env.locals ∧ b ∉ X.fs ∧ (b ∈ X.ex ∨ X.s_0.heap.objs.size ≤ b) ∧ (∀ x c, X.env.cells.lookup x = some c → c ≠ b) ∧ ∀ p ∈ X.pn ++ pins, p.1 ≠ b
theorem Inv.fpOk {X : Cx} {pins : List (Addr × Obj)} {σ : St} {H H' : Hp} {s : Shared} {b : Addr} (I : Inv X pins σ H s) (hb : s.heap.objs.size ≤ b) (hn : H' b = none) : FpOk X pins H' b := by
  refine ⟨hn, Nat.ne_of_gt (Nat.lt_of_lt_of_le I.lt hb), I.nofs hb, .inr (Nat.le_trans I.sz hb), fun x c e z => ?_, fun p hp z => ?_⟩
  · obtain ⟨v, q⟩ := I.cell x c e
    exact absurd (Nat.lt_of_lt_of_le q.lt (by rw [z]; exact hb)) (Nat.lt_irrefl _)
  · exact absurd (Nat.lt_of_lt_of_le (Heap.lt_size (I.pin p hp).1) (by rw [z]; exact hb)) (Nat.lt_irrefl _)
structure TurnC (C : Cx → Prop) (P : Program) (w : World) (K : PySem.W.Frag) (tg : Expr) (J : It) (fp : List Addr) (it : Addr) (tn : Nat → Heap → Prop) : Prop where
  mem : it ∈ fp
  obj : ∀ i h, tn i h → ∀ b ∈ fp, ∃ o, h.get? b = some o ∧ ∀ v, o.data ≠ .cell v
  keep : ∀ i h h', tn i h → (∀ b ∈ fp, ∀ o, h.get? b = some o → h'.get? b = some o) → tn i h'
  item : ∀ (X : Cx), X.prog = P → X.w = w → X.K = K → C X → ∀ (i : Nat) (pins : List (Addr × Obj)) (s : Shared) (σ : St) (H : Hp) (E : Value → Shared → Prop), Inv X pins σ H s → (∀ b ∈ fp, FpOk X pins H b) → tn i s.heap → J.go i H →
    wpAny (model P w) X.A (pyNext (.ref it)) (fun r s1 => ∃ u, r = some u ∧
      wpAny (model P w) X.A (letOwnedTupleGo tg (.ref it) u) (fun _ s2 => ∃ x H', Inv X pins σ H' s2 ∧ RelV x u ∧ J.yld i H x H' ∧ tn (i + 1) s2.heap ∧ ∀ b ∈ fp, H' b = none) E s1) E s
  done : ∀ (X : Cx), X.prog = P → X.w = w → X.K = K → C X → ∀ (i : Nat) (pins : List (Addr × Obj)) (s : Shared) (σ : St) (H : Hp) (E : Value → Shared → Prop), Inv X pins σ H s → (∀ b ∈ fp, FpOk X pins H b) → tn i s.heap → J.stop i H →
    wpAny (model P w) X.A (pyNext (.ref it)) (fun r s1 => r = none ∧ Inv X pins σ H s1) E s
  self : ∀ (A : Around) (i : Nat) (s : Shared) (Q : Value → Shared → Prop) (E : Value → Shared → Prop), tn i s.heap → Q (.ref it) s → wpAny (model P w) A (pyIter (.ref it)) Q E s
abbrev Turn (P : Program) (w : World) (K : PySem.W.Frag) (tg : Expr) (J : It) (fp : List Addr) (it : Addr) (tn : Nat → Heap → Prop) : Prop := TurnC (fun X => X.calm = true) P w K tg J fp it tn
abbrev TI := St → Hp → (It → Hp → Prop) → Prop
def PIEC (C : Cx → Prop) (X : Cx) (pins : List (Addr × Obj)) (σ : St) (tg : Expr) (R : It → Hp → Prop) (itv : Value) (s2 : Shared) : Prop :=
  ∃ (it : Addr) (fp : List Addr) (tn : Nat → Heap → Prop) (J : It) (H' : Hp), itv = .ref it ∧ Inv X pins σ H' s2 ∧ TurnC C X.prog X.w X.K tg J fp it tn ∧ tn 0 s2.heap ∧ (∀ b ∈ fp, FpOk X pins H' b) ∧ R J H'
abbrev PIE (X : Cx) (pins : List (Addr × Obj)) (σ : St) (tg : Expr) (R : It → Hp → Prop) (itv : Value) (s2 : Shared) : Prop := PIEC (fun X => X.calm = true) X pins σ tg R itv s2
def PIC (C : Cx → Prop) (X : Cx) (tg iter : Expr) (wi : TI) : Prop :=
  ∀ (pins : List (Addr × Obj)) (s : Shared) (σ : St) (H : Hp) (R : It → Hp → Prop), Inv X pins σ H s → wi σ H R →
    wpAny (model X.prog X.w) X.A (eval iter X.env) (fun v s1 => wpAny (model X.prog X.w) X.A (pyIter v) (PIEC C X pins σ tg R) X.xe s1) X.xe s
abbrev PI (X : Cx) (tg iter : Expr) (wi : TI) : Prop := PIC (fun X => X.calm = true) X tg iter wi
theorem go_of {M : Model} {A : Around} {E : Value → Shared → Prop} {s : Shared} {tg : Expr} {it : Addr} {u : Value} {o : Obj} {n : String} {vs : Array Value} {Q : Unit → Shared → Prop} (ho : s.heap.get? it = some o) (hc : o.cls = .type n) (hd : o.data = .fields vs)
    (hn : ["enumerate", "zip", "dict_itemiterator", "dict_reverseitemiterator", "odict_iterator", "itertools.zip_longest", "itertools.pairwise"].contains n = false) (hQ : Q () s) : wpAny M A (letOwnedTupleGo tg (.ref it) u) Q E s := by
  unfold letOwnedTupleGo
  cases tg <;> first
    | exact wpAny_pure hQ
    | (cases u <;> first
        | exact wpAny_pure hQ
        | (refine wpAny_bind (wpAny_load ho ?_)
           rw [hc, hd]
           show wpAny M A (if (["enumerate", "zip", "dict_itemiterator", "dict_reverseitemiterator", "odict_iterator", "itertools.zip_longest", "itertools.pairwise"].contains n && vs[0]? == some (rawInt _)) = true then _ else _) Q E s
           rw [if_neg (by intro h; rw [hn, Bool.false_and] at h; cases h)]
           exact wpAny_pure hQ))
def Itl (K : PySem.W.Frag) (a : Addr) : It :=
  ⟨fun i H => ∃ xs x, SqL K H a xs ∧ xs[i]? = some x, fun i H x H' => H' = H ∧ ∀ xs, SqL K H a xs → xs[i]? = some x, fun i H => ∃ xs, SqL K H a xs ∧ xs.length ≤ i⟩
def Itt (K : PySem.W.Frag) (a : Addr) : It :=
  ⟨fun i H => ∃ xs x, SqT K H a xs ∧ xs[i]? = some x, fun i H x H' => H' = H ∧ ∀ xs, SqT K H a xs → xs[i]? = some x, fun i H => ∃ xs, SqT K H a xs ∧ xs.length ≤ i⟩
def Itr (lo : Int) (n : Nat) : It := ⟨fun i _ => i < n, fun i H x H' => H' = H ∧ x = .int (lo + i), fun i _ => n ≤ i⟩
theorem turn_list {P : Program} {w : World} {K : PySem.W.Frag} {tg : Expr} (a it : Addr) : Turn P w K tg (Itl K a) [it] it (fun i h => h.IsListIter it a i) where
  mem := by simp
  obj := fun i h st b hb => by
    have e : b = it := by simpa using hb
    subst e
    obtain ⟨o, e, c, d⟩ := st
    exact ⟨o, e, fun v z => by rw [d] at z; cases z⟩
  keep := fun i h h' st k => st.at fun o e => k it (by simp) o e
  item := by
    intro X hP hw hK hc i pins s σ H E I hf st hg
    subst hP hw hK
    obtain ⟨xs, x, hq, hx⟩ := hg
    obtain ⟨its, rv, p, hz⟩ := I.list hq
    obtain ⟨u, hu, ru⟩ := rv.get hx
    obtain ⟨f0, f1, f2, f3, f4, f5⟩ := hf it (by simp)
    refine wpAny_pyNext_list_item st p.isList (x := u) (by simpa using hu) fun h' st' sb => ?_
    have I1 : Inv X pins σ H { s with heap := h' } := I.turned (t' := s.toks) (fun b o hb e => (sb.2 b hb).trans e) f0 f1 f3 f4 f5
    obtain ⟨o, e, c, d⟩ := id st'
    exact ⟨u, rfl, go_of (s := { s with heap := h' }) e c d (by decide) ⟨x, H, I1, ru, ⟨rfl, fun ys hy => by rw [I.list_inj hy hq]; exact hx⟩, st', fun b hb => (hf b hb).1⟩⟩
  done := by
    intro X hP hw hK hc i pins s σ H E I hf st hg
    subst hP hw hK
    obtain ⟨xs, hq, hx⟩ := hg
    obtain ⟨its, rv, p, hz⟩ := I.list hq
    obtain ⟨f0, f1, f2, f3, f4, f5⟩ := hf it (by simp)
    have hl := rv.length
    exact wpAny_pyNext_list_end (I.ok.hd hc) st p.isList (by simp; omega) fun h' eb => ⟨rfl, I.turned (t' := s.toks) (fun b o hb e => eb b o hb e) f0 f1 f3 f4 f5⟩
  self := fun _ _ _ _ _ st h => wpAny_pyIter_listiter st h
theorem turn_tuple {P : Program} {w : World} {K : PySem.W.Frag} {tg : Expr} (a it : Addr) : Turn P w K tg (Itt K a) [it] it (fun i h => h.IsTupleIter it a i) where
  mem := by simp
  obj := fun i h st b hb => by
    have e : b = it := by simpa using hb
    subst e
    obtain ⟨o, e, c, d⟩ := st
    exact ⟨o, e, fun v z => by rw [d] at z; cases z⟩
  keep := fun i h h' st k => st.at fun o e => k it (by simp) o e
  item := by
    intro X hP hw hK hc i pins s σ H E I hf st hg
    subst hP hw hK
    obtain ⟨xs, x, hq, hx⟩ := hg
    obtain ⟨its, rv, p, hz⟩ := I.tuple hq
    obtain ⟨u, hu, ru⟩ := rv.get hx
    obtain ⟨f0, f1, f2, f3, f4, f5⟩ := hf it (by simp)
    refine wpAny_pyNext_tuple_item st (show s.heap.IsTuple a its.toArray from p) (x := u) (by simpa using hu) fun h' st' sb => ?_
    have I1 : Inv X pins σ H { s with heap := h' } := I.turned (t' := s.toks) (fun b o hb e => (sb.2 b hb).trans e) f0 f1 f3 f4 f5
    obtain ⟨o, e, c, d⟩ := id st'
    exact ⟨u, rfl, go_of (s := { s with heap := h' }) e c d (by decide) ⟨x, H, I1, ru, ⟨rfl, fun ys hy => by rw [I.tuple_inj hy hq]; exact hx⟩, st', fun b hb => (hf b hb).1⟩⟩
  done := by
    intro X hP hw hK hc i pins s σ H E I hf st hg
    subst hP hw hK
    obtain ⟨xs, hq, hx⟩ := hg
    obtain ⟨its, rv, p, hz⟩ := I.tuple hq
    obtain ⟨f0, f1, f2, f3, f4, f5⟩ := hf it (by simp)
    have hl := rv.length
    exact wpAny_pyNext_tuple_end (I.ok.hd hc) st (show s.heap.IsTuple a its.toArray from p) (by simp; omega) fun h' eb => ⟨rfl, I.turned (t' := s.toks) (fun b o hb e => eb b o hb e) f0 f1 f3 f4 f5⟩
  self := fun _ _ _ _ _ st h => wpAny_pyIter_tupleiter st h
theorem turn_range {P : Program} {w : World} {K : PySem.W.Frag} {tg : Expr} (it : Addr) (lo : Int) (n : Nat) : Turn P w K tg (Itr lo n) [it] it (fun i h => IsRangeIter h it (lo + (i : Nat) * 1) ((n : Int) - (i : Nat)) 1) where
  mem := by simp
  obj := fun i h st b hb => by
    have e : b = it := by simpa using hb
    subst e
    exact ⟨_, st, fun v z => by
      have z' : Data.fields _ = Data.cell v := z
      cases z'⟩
  keep := fun i h h' st k => k it (by simp) _ st
  item := by
    intro X hP hw hK hc i pins s σ H E I hf st hg
    subst hP hw hK
    obtain ⟨f0, f1, f2, f3, f4, f5⟩ := hf it (by simp)
    have W := Walks.range (prog := X.prog) (w := X.w) (I.ok.hd hc) it lo 1 n
    refine W.item i s _ _ hg st fun v h' tk hv st' kk => ?_
    obtain ⟨t, rfl⟩ := hv
    have I1 : Inv X pins σ H { s with heap := h', toks := tk } := I.turned (fun b o hb e => kk b o (by simpa using hb) e) f0 f1 f3 f4 f5
    refine ⟨_, rfl, go_of (s := { s with heap := h', toks := tk }) (n := "range_iterator") st' rfl rfl (by decide) ⟨.int (lo + i), H, I1, ⟨t, ?_⟩, ⟨rfl, rfl⟩, st', fun b hb => (hf b hb).1⟩⟩
    rw [Int.mul_one]
  done := by
    intro X hP hw hK hc i pins s σ H E I hf st hg
    subst hP hw hK
    obtain ⟨f0, f1, f2, f3, f4, f5⟩ := hf it (by simp)
    exact wpAny_pyNext_range_end (I.ok.hd hc) st (by have : n ≤ i := hg; omega) fun h' eb => ⟨rfl, I.turned (t' := s.toks) (fun b o hb e => eb b o hb e) f0 f1 f3 f4 f5⟩
  self := fun _ _ _ _ _ st h => wpAny_pyIter_rangeiter st h
end L2
namespace L2
open PySem PySem.Spec PyProof.Rows
section
variable {X : Cx} {tg : Expr}
theorem range_it {pins : List (Addr × Obj)} {σ : St} {H : Hp} {s : Shared} {R : It → Hp → Prop} {E : Value → Shared → Prop} {lo hi : Int} {t u v : Tok} {tk : Nat} (I : Inv X pins σ H s) (h1 : -(2 ^ 62) ≤ lo) (h2 : lo < 2 ^ 62) (h3 : -(2 ^ 62) ≤ hi) (h4 : hi < 2 ^ 62)
    (q : R (Itr lo (hi - lo).toNat) H) : wpAny (model X.prog X.w) X.A (pyIter (.ref s.heap.objs.size)) (PIE X pins σ tg R) E { s with heap := s.heap.push { cls := .type "range", data := .fields #[.int lo t, .int hi u, .int 1 v] }, toks := tk } := by
  refine wpAny_pyIter_range (IsRange.new ..) (small_one h1 h2 h3 h4) ?_
  have I1 : Inv X pins σ H { s with heap := s.heap.push { cls := .type "range", data := .fields #[.int lo t, .int hi u, .int 1 v] }, toks := tk } := I.kept fun b o e => Heap.get?_push_of_some _ e
  refine ⟨(s.heap.push { cls := .type "range", data := .fields #[.int lo t, .int hi u, .int 1 v] }).objs.size, [(s.heap.push { cls := .type "range", data := .fields #[.int lo t, .int hi u, .int 1 v] }).objs.size], _, _, H, rfl,
    I1.kept (t' := tk) fun b o e => Heap.get?_push_of_some _ e, turn_range _ lo (hi - lo).toNat, ?_, fun b hb => ?_, q⟩
  · have e1 : lo + ((0 : Nat) : Int) * 1 = lo := by simp
    have e2 : (((hi - lo).toNat : Nat) : Int) - ((0 : Nat) : Int) = Builtin.Range.rangeSize lo hi 1 := by rw [rangeSize_one]; split <;> omega
    show IsRangeIter _ _ (lo + ((0 : Nat) : Int) * 1) ((((hi - lo).toNat : Nat) : Int) - ((0 : Nat) : Int)) 1
    rw [e1, e2]
    exact Heap.get?_push_size _ rfl
  · have e : b = (s.heap.push { cls := .type "range", data := .fields #[.int lo t, .int hi u, .int 1 v] }).objs.size := by simpa using hb
    subst e
    exact I1.fpOk (Nat.le_refl _) (I1.hok.fresh (Nat.le_refl _))
def iRng1 (ta : TA) : TI := fun σ H R => ta σ H fun vs H1 => ∃ j : Int, vs = [.int j] ∧ -(2 ^ 62) ≤ j ∧ j < 2 ^ 62 ∧ R (Itr 0 j.toNat) H1
theorem pi_range1 {a : Expr} {ta : TA} {p pos : Pos} (hg : Gl X "range") (hm : X.mg "range" = none) (ha : PA X [a] ta) (hs : starEach [a] X.env = [(false, eval a X.env)] := by rfl) : PI X tg (.Call (.Name "range" p) [a] [] pos) (iRng1 ta) := by
  intro pins s σ H R I h
  refine Call_ (ld_blt I hg hm boot_range (PyProof.Rows.callWith_type1 (thn (ha pos pins s σ H _ I h) fun us s1 ⟨vs, H1, I1, r1, q1⟩ => ?_) hs rfl))
  obtain ⟨j, e, q1, q2, q⟩ := q1
  subst e
  cases r1 with
  | cons r rr =>
    cases rr
    obtain ⟨t, rfl⟩ := r
    exact call_range_1 (range_it I1 (by omega) (by omega) q1 q2 (by simpa using q))
def tFor (wi : TI) (g : TG) (tb : TS) : TS := fun D σ H => wi σ H fun J H1 => ∃ W : Nat → Nat → St → Hp → Prop, (∃ m, W 0 m σ H1) ∧ ∀ i m σ H, W i m σ H →
  (J.stop i H ∧ D.nx σ H) ∨ (J.go i H ∧ ∃ N : St → Hp → Prop, (∀ σ' H', N σ' H' → ∃ m', m' < m ∧ W (i + 1) m' σ' H') ∧ ∀ x H', J.yld i H x H' → g x σ H' fun σ2 H2 => tb { D with nx := N, ct := N, bk := D.nx } σ2 H2)
def pinsAt (fp : List Addr) (h : Heap) : List (Addr × Obj) := fp.filterMap fun b => (h.get? b).map fun o => (b, o)
theorem mem_pinsAt {fp : List Addr} {h : Heap} {b : Addr} {o : Obj} (hb : b ∈ fp) (e : h.get? b = some o) : (b, o) ∈ pinsAt fp h := List.mem_filterMap.mpr ⟨b, hb, by rw [e]; rfl⟩
theorem of_pinsAt {fp : List Addr} {h : Heap} {p : Addr × Obj} (hp : p ∈ pinsAt fp h) : p.1 ∈ fp ∧ h.get? p.1 = some p.2 := by
  obtain ⟨b, hb, e⟩ := List.mem_filterMap.mp hp
  cases q : h.get? b with
  | none => rw [q] at e; cases e
  | some o =>
    rw [q] at e
    have e' : (b, o) = p := Option.some.inj e
    subst e'
    exact ⟨hb, q⟩
theorem Inv.pinned {pins : List (Addr × Obj)} {σ : St} {H : Hp} {s : Shared} {fp : List Addr} (I : Inv X pins σ H s) (hf : ∀ b ∈ fp, FpOk X pins H b) (ho : ∀ b ∈ fp, ∃ o, s.heap.get? b = some o ∧ ∀ v, o.data ≠ .cell v) : Inv X (pins ++ pinsAt fp s.heap) σ H s :=
  I.pins_of fun p hp => (List.mem_append.mp hp).elim (fun z => I.pin p (List.mem_append_right _ z)) fun z => by
    obtain ⟨hb, e⟩ := of_pinsAt z
    obtain ⟨f0, f1, f2, _⟩ := hf p.1 hb
    obtain ⟨o, e', d⟩ := ho p.1 hb
    rw [e] at e'; cases e'
    exact ⟨e, f0, f1, f2, d⟩
theorem Inv.unpinned {pins pl : List (Addr × Obj)} {σ : St} {H : Hp} {s : Shared} (I : Inv X (pins ++ pl) σ H s) : Inv X pins σ H s := I.pins_of fun p hp => I.pin p (List.mem_append_right _ (List.mem_append_left _ hp))
theorem ps_for {iter : Expr} {body : List Stmt} {wi : TI} {g : TG} {tb : TS} {pos : Pos} (hp : PassesOwn (model X.prog X.w) X.A X.env X.xe) (hc : X.calm = true) (hi : PI X tg iter wi) (hg : PG X tg g) (hb : PSs X body tb)
    (hs : ∀ x, foldedSetIterable iter X.env x = pure x := by intro _; rfl) : PS X (.For tg iter body [] pos) (tFor wi g tb) := by
  intro pins s σ H D I h
  refine wpAny_For (thn (hi pins s σ H _ I h) fun v s1 h1 => thn h1 fun itv s2 h2 => ?_) hs
  obtain ⟨it, fp, tn, J, H2, e, I2, T, st2, f2, W, ⟨m0, w0⟩, turn⟩ := h2
  subst e
  -- what stays true of the iterator's objects through the loop
  have stat : ∀ {H' : Hp}, (∀ b ∈ fp, H' b = none) → ∀ b ∈ fp, FpOk X pins H' b := fun hn b hb => ⟨hn b hb, (f2 b hb).2⟩
  refine codeAny_forLoop_any (fun n s' => ∃ i σ' H', Inv X pins σ' H' s' ∧ tn i s'.heap ∧ (∀ b ∈ fp, H' b = none) ∧ W i n σ' H') ?_ m0 ⟨0, σ, H2, I2, st2, fun b hb => (f2 b hb).1, w0⟩
  rintro n s3 ⟨i, σ3, H3, I3, st3, fr3, w3⟩
  rcases turn i n σ3 H3 w3 with ⟨stop, qn⟩ | ⟨go, N, hN, step⟩
  · refine wpAny_passesOwn hp (thn (T.done X rfl rfl rfl hc i pins s3 σ3 H3 X.xe I3 (stat fr3) st3 stop) fun r s4 ⟨hr, I4⟩ => ?_)
    subst hr
    exact wpAny_execs_nil ⟨σ3, H3, I4, qn⟩
  · refine wpAny_passesOwn hp (thn (T.item X rfl rfl rfl hc i pins s3 σ3 H3 X.xe I3 (stat fr3) st3 go) fun r s4 ⟨u, hr, h4⟩ => ?_)
    subst hr
    refine wpAny_passesOwn hp (thn h4 fun _ s5 ⟨x, H5, I5, r5, y5, st5, fr5⟩ => ?_)
    have I5' := I5.pinned (stat fr5) (T.obj _ _ st5)
    refine wpAny_passesOwn hp (thn (hg _ s5 σ3 H5 x u _ I5' r5 (step x H5 y5)) fun _ s6 ⟨σ6, H6, I6, q6⟩ => ?_)
    refine wpAny_passesOwn hp (thn (hb _ s6 σ6 H6 _ I6 q6) fun f s7 q7 => ?_)
    have again : ∀ {σ7 : St} {H7 : Hp}, Inv X (pins ++ pinsAt fp s5.heap) σ7 H7 s7 → N σ7 H7 → ∃ m, m < n ∧ ∃ i σ' H', Inv X pins σ' H' s7 ∧ tn i s7.heap ∧ (∀ b ∈ fp, H' b = none) ∧ W i m σ' H' := fun {σ7 H7} I7 n7 => by
      obtain ⟨m', hm, w7⟩ := hN σ7 H7 n7
      refine ⟨m', hm, i + 1, σ7, H7, I7.unpinned, T.keep _ _ _ st5 fun b hb o e => (I7.pin (b, o) (List.mem_append_right _ (List.mem_append_right _ (mem_pinsAt hb e)))).1, fun b hb => ?_, w7⟩
      obtain ⟨o, e, d⟩ := T.obj _ _ st5 b hb
      exact (I7.pin (b, o) (List.mem_append_right _ (List.mem_append_right _ (mem_pinsAt hb e)))).2.1
    cases f with
    | next => obtain ⟨σ7, H7, I7, n7⟩ := q7; exact again I7 n7
    | cont => obtain ⟨σ7, H7, I7, n7⟩ := q7; exact again I7 n7
    | brk => obtain ⟨σ7, H7, I7, q7⟩ := q7; exact ⟨σ7, H7, I7.unpinned, q7⟩
    | ret v => obtain ⟨x7, σ7, H7, I7, r7, q7⟩ := q7; exact ⟨x7, σ7, H7, I7.unpinned, r7, q7⟩
end
end L2
namespace L2
open PySem PySem.Spec PyProof.Rows
abbrev R2 := V → V → Hp → VK → Prop
def OpR (X : Cx) (f : Value → Value → Sem Value) (r : R2) : Prop :=
  ∀ (pins : List (Addr × Obj)) (s : Shared) (σ : St) (H : Hp) (x y : V) (v u : Value) (Q : VK), Inv X pins σ H s → RelV x v → RelV y u → r x y H Q →
    wpAny (model X.prog X.w) X.A (f v u) (EP X pins σ Q) X.xe s
def UnR (X : Cx) (f : Value → Sem Value) (r : V → Hp → VK → Prop) : Prop :=
  ∀ (pins : List (Addr × Obj)) (s : Shared) (σ : St) (H : Hp) (x : V) (v : Value) (Q : VK), Inv X pins σ H s → RelV x v → r x H Q →
    wpAny (model X.prog X.w) X.A (f v) (EP X pins σ Q) X.xe s
def CallR (X : Cx) (f : Value) (r : List V → Hp → VK → Prop) : Prop :=
  ∀ (pins : List (Addr × Obj)) (s : Shared) (σ : St) (H : Hp) (xs : List V) (us : List Value) (Q : VK), Inv X pins σ H s → Vals xs us → r xs H Q →
    wpAny (model X.prog X.w) X.A (call f us) (EP X pins σ Q) X.xe s
def tOp (r : R2) (ta tb : TE) : TE := fun σ H Q => ta σ H fun x H1 => tb σ H1 fun y H2 => r x y H2 Q
def tUn (r : V → Hp → VK → Prop) (ta : TE) : TE := fun σ H Q => ta σ H fun x H1 => r x H1 Q
def rI (C : Int → Int → Prop) (g : Int → Int → V) : R2 := fun x y H Q => ∃ i j, x = .int i ∧ y = .int j ∧ C i j ∧ Q (g i j) H
def rI0 (g : Int → Int → V) : R2 := fun x y H Q => ∃ i j, x = .int i ∧ y = .int j ∧ Q (g i j) H
def rU (g : Int → V) : V → Hp → VK → Prop := fun x H Q => ∃ i, x = .int i ∧ Q (g i) H
section
variable {X : Cx} {a b c : Expr} {ta tb tc : TE} {pos : Pos}
theorem binT (ha : PE X a ta) (hb : PE X b tb) {pins : List (Addr × Obj)} {s : Shared} {σ : St} {H : Hp} {R : V → V → Hp → Prop} (I : Inv X pins σ H s)
    (h : ta σ H fun x H1 => tb σ H1 fun y H2 => R x y H2) {Q : Value → Shared → Prop} {f : Value → Value → Sem Value}
    (hf : ∀ v u s2 x y H2, Inv X pins σ H2 s2 → RelV x v → RelV y u → R x y H2 → wpAny (model X.prog X.w) X.A (f v u) Q X.xe s2) :
    wpAny (model X.prog X.w) X.A (eval a X.env) (fun v s₁ => wpAny (model X.prog X.w) X.A (eval b X.env) (fun u s₂ => wpAny (model X.prog X.w) X.A (f v u) Q X.xe s₂) X.xe s₁) X.xe s := by
  refine thn (ha pins s σ H _ I h) fun v s1 ⟨x, H1, I1, r1, q1⟩ => ?_
  refine thn (hb pins s1 σ H1 _ I1 q1) fun u s2 ⟨y, H2, I2, r2, q2⟩ => ?_
  exact hf v u s2 x y H2 I2 r1 r2 q2
theorem pe_op {op : Operator} {r : R2} (ho : OpR X (binaryOp op) r) (ha : PE X a ta) (hb : PE X b tb) : PE X (.BinOp a op b pos) (tOp r ta tb) := by
  intro pins s σ H Q I h
  exact wpAny_BinOp (binT ha hb I h fun v u s2 x y H2 I2 rx ry q => ho pins s2 σ H2 x y v u Q I2 rx ry q)
theorem pe_un {op : UnaryOp} {r : V → Hp → VK → Prop} (ho : UnR X (unaryOp op) r) (ha : PE X a ta) : PE X (.UnaryOp op a pos) (tUn r ta) := by
  intro pins s σ H Q I h
  exact UnaryOp_ (thn (ha pins s σ H _ I h) fun v s1 ⟨x, H1, I1, r1, q1⟩ => ho pins s1 σ H1 x v Q I1 r1 q1)
theorem opI {f : Value → Value → Sem Value} {C : Int → Int → Prop} {g : Int → Int → Int}
    (rule : ∀ (i j : Int) (t u : Tok) (s : Shared) (Q : Value → Shared → Prop) (E : Value → Shared → Prop), C i j → Q (.int (g i j) s.toks) { s with toks := s.toks + 1 } → wpAny (model X.prog X.w) X.A (f (.int i t) (.int j u)) Q E s) :
    OpR X f (rI C fun i j => .int (g i j)) := by
  intro pins s σ H x y v u Q I rx ry h
  obtain ⟨i, j, rfl, rfl, hc, q⟩ := h
  obtain ⟨t, rfl⟩ := rx
  obtain ⟨t', rfl⟩ := ry
  exact rule i j t t' s _ _ hc ⟨.int (g i j), H, I.tok _, ⟨_, rfl⟩, q⟩
theorem opI0 {f : Value → Value → Sem Value} {g : Int → Int → Int}
    (rule : ∀ (i j : Int) (t u : Tok) (s : Shared) (Q : Value → Shared → Prop) (E : Value → Shared → Prop), Q (.int (g i j) s.toks) { s with toks := s.toks + 1 } → wpAny (model X.prog X.w) X.A (f (.int i t) (.int j u)) Q E s) :
    OpR X f (rI0 fun i j => .int (g i j)) := by
  intro pins s σ H x y v u Q I rx ry h
  obtain ⟨i, j, rfl, rfl, q⟩ := h
  obtain ⟨t, rfl⟩ := rx
  obtain ⟨t', rfl⟩ := ry
  exact rule i j t t' s _ _ ⟨.int (g i j), H, I.tok _, ⟨_, rfl⟩, q⟩
theorem opB0 {f : Value → Value → Sem Value} {g : Int → Int → Bool}
    (rule : ∀ (i j : Int) (t u : Tok) (s : Shared) (Q : Value → Shared → Prop) (E : Value → Shared → Prop), Q (.bool (g i j)) s → wpAny (model X.prog X.w) X.A (f (.int i t) (.int j u)) Q E s) :
    OpR X f (rI0 fun i j => .bl (g i j)) := by
  intro pins s σ H x y v u Q I rx ry h
  obtain ⟨i, j, rfl, rfl, q⟩ := h
  obtain ⟨t, rfl⟩ := rx
  obtain ⟨t', rfl⟩ := ry
  exact rule i j t t' s _ _ ⟨.bl (g i j), H, I, rfl, q⟩
def CDiv (i j : Int) : Prop := 0 < j ∧ j < 1073741824
def CMul (i j : Int) : Prop := (-(2 ^ 64) < i ∧ i < 2 ^ 64) ∨ (-(2 ^ 64) < j ∧ j < 2 ^ 64)
theorem CMul.ok {i j : Int} (h : CMul i j) : IntMulOk i j := by
  rcases h with ⟨h1, h2⟩ | ⟨h1, h2⟩
  · exact .of_left (intBits_le_64 h1 h2)
  · exact .of_right (intBits_le_64 h1 h2)
theorem op_add : OpR X (binaryOp .Add) (rI0 fun i j => .int (i + j)) := opI0 fun _ _ _ _ _ _ _ q => add_int q
theorem op_sub : OpR X (binaryOp .Sub) (rI0 fun i j => .int (i - j)) := opI0 fun _ _ _ _ _ _ _ q => sub_int q
theorem op_fdiv : OpR X (binaryOp .FloorDiv) (rI CDiv fun i j => .int (i / j)) := opI fun i j _ _ _ _ _ hc q => by
  have h1 : (0 : Int) < j := hc.1
  have h2 : j < 1073741824 := hc.2
  exact floordiv_int (by omega) (by rw [Int.fdiv_eq_ediv_of_nonneg i (by omega)]; exact q) (.inl (PyProof.noPylong_small (by omega)))
theorem op_mod : OpR X (binaryOp .Mod) (rI (fun _ j => 0 < j) fun i j => .int (i % j)) := opI fun i j _ _ _ _ _ hc q => by
  have h1 : (0 : Int) < j := hc
  exact mod_int' (by omega) (by rw [Int.fmod_eq_emod_of_nonneg i (by omega)]; exact q)
theorem unI {f : Value → Sem Value} {g : Int → Int}
    (rule : ∀ (i : Int) (t : Tok) (s : Shared) (Q : Value → Shared → Prop) (E : Value → Shared → Prop), Q (.int (g i) s.toks) { s with toks := s.toks + 1 } → wpAny (model X.prog X.w) X.A (f (.int i t)) Q E s) :
    UnR X f (rU fun i => .int (g i)) := by
  intro pins s σ H x v Q I rx h
  obtain ⟨i, rfl, q⟩ := h
  obtain ⟨t, rfl⟩ := rx
  exact rule i t s _ _ ⟨.int (g i), H, I.tok _, ⟨_, rfl⟩, q⟩
theorem un_neg : UnR X (unaryOp .USub) (rU fun i => .int (-i)) := unI fun _ _ _ _ _ q => neg_int q
end
def scal : V → V → Bool
  | .non, .non => true | .non, .int _ => true | .int _, .non => true | .non, .bl _ => true | .bl _, .non => true | .non, .str _ => true | .str _, .non => true
  | .int _, .int _ => true | .bl _, .bl _ => true | .str _, .str _ => true | .byt _, .byt _ => true
  | .int _, .str _ => true | .str _, .int _ => true | .bl _, .str _ => true | .str _, .bl _ => true
  | _, _ => false
def rEq : R2 := fun x y H Q => scal x y = true ∧ Q (.bl (decide (x = y))) H
theorem dec_int {i j : Int} : decide (V.int i = V.int j) = (i == j) := by
  rw [Bool.eq_iff_iff]
  simp
theorem dec_bl {i j : Bool} : decide (V.bl i = V.bl j) = (i == j) := by
  rw [Bool.eq_iff_iff]
  simp
theorem dec_str {i j : Str} : decide (V.str i = V.str j) = (i == j) := by
  rw [Bool.eq_iff_iff]
  simp
theorem dec_byt {i j : Array UInt8} : decide (V.byt i = V.byt j) = (i.toList == j.toList) := by
  rw [Bool.eq_iff_iff]
  cases i
  cases j
  simp
section
variable {X : Cx} {a b c : Expr} {ta tb tc : TE} {pos : Pos}
theorem fin_bl {pins : List (Addr × Obj)} {σ : St} {H : Hp} {s : Shared} {Q : VK} {k k' : Bool} (I : Inv X pins σ H s) (q : Q (.bl k) H) (e : k = k') : EP X pins σ Q (.bool k') s := by
  subst e
  exact ⟨.bl k, H, I, rfl, q⟩
theorem op_eq : OpR X (compareOp .Eq) rEq := by
  intro pins s σ H x y v u Q I rx ry h
  obtain ⟨hs, q⟩ := h
  cases x with
  | non =>
    cases rx
    cases y with
    | non => cases ry; exact PySem.EqNone.eq_none_none (fin_bl I q (by simp))
    | bl j => cases ry; exact PySem.EqNone.eq_none_bool (fin_bl I q (by simp))
    | int j => obtain ⟨t', rfl⟩ := ry; exact PySem.EqNone.eq_none_int (fin_bl I q (by simp))
    | str j => obtain ⟨t', rfl⟩ := ry; exact PySem.EqNone.eq_none_str (fin_bl I q (by simp))
    | _ => exact absurd (show false = true from hs) Bool.false_ne_true
  | bl i =>
    cases rx
    cases y with
    | non => cases ry; exact PySem.EqNone.eq_bool_none (fin_bl I q (by simp))
    | bl j => cases ry; exact eq_bool (fin_bl I q dec_bl)
    | str j => obtain ⟨t', rfl⟩ := ry; exact PySem.EqMixed.eq_bool_str (fin_bl I q (by simp))
    | _ => exact absurd (show false = true from hs) Bool.false_ne_true
  | int i =>
    obtain ⟨t, rfl⟩ := rx
    cases y with
    | non => cases ry; exact PySem.EqNone.eq_int_none (fin_bl I q (by simp))
    | int j => obtain ⟨t', rfl⟩ := ry; exact eq_int (fin_bl I q dec_int)
    | str j => obtain ⟨t', rfl⟩ := ry; exact PySem.EqMixed.eq_int_str (fin_bl I q (by simp))
    | _ => exact absurd (show false = true from hs) Bool.false_ne_true
  | str i =>
    obtain ⟨t, rfl⟩ := rx
    cases y with
    | non => cases ry; exact PySem.EqNone.eq_str_none (fin_bl I q (by simp))
    | bl j => cases ry; exact PySem.EqMixed.eq_str_bool (fin_bl I q (by simp))
    | int j => obtain ⟨t', rfl⟩ := ry; exact PySem.EqMixed.eq_str_int (fin_bl I q (by simp))
    | str j => obtain ⟨t', rfl⟩ := ry; exact eq_str (fin_bl I q dec_str)
    | _ => exact absurd (show false = true from hs) Bool.false_ne_true
  | byt i =>
    obtain ⟨t, rfl⟩ := rx
    cases y with
    | byt j => obtain ⟨t', rfl⟩ := ry; exact PySem.W.eq_bytes (fin_bl I q dec_byt)
    | _ => exact absurd (show false = true from hs) Bool.false_ne_true
  | _ => cases y <;> exact absurd (show false = true from hs) Bool.false_ne_true
theorem op_lt : OpR X (compareOp .Lt) (rI0 fun i j => .bl (decide (i < j))) := opB0 fun _ _ _ _ _ _ _ q => lt_int q
theorem op_gt : OpR X (compareOp .Gt) (rI0 fun i j => .bl (decide (j < i))) := opB0 fun _ _ _ _ _ _ _ q => gt_int q
theorem op_ge : OpR X (compareOp .GtE) (rI0 fun i j => .bl (decide (j ≤ i))) := opB0 fun _ _ _ _ _ _ _ q => ge_int q
theorem nomark (b : Expr) {op : CmpOp} (h : op ≠ .In := by decide) (h2 : op ≠ .NotIn := by decide) : behindInMarks op b = false := by
  have e1 : (op == CmpOp.In) = false := by cases op <;> first | rfl | exact absurd rfl h
  have e2 : (op == CmpOp.NotIn) = false := by cases op <;> first | rfl | exact absurd rfl h2
  cases b <;> simp [behindInMarks, e1, e2]
theorem pe_cmpR {op : CmpOp} {r : R2} (ho : OpR X (compareOp op) r) (ha : PE X a ta) (hb : PE X b tb) (hm : behindInMarks op b = false) : PE X (.Compare a [op] [b] pos) (tOp r ta tb) := by
  intro pins s σ H Q I h
  exact wpAny_Compare1 (binT ha hb I h fun v u s2 x y H2 I2 rx ry q => ho pins s2 σ H2 x y v u Q I2 rx ry q) hm
def tTest (t : TE) : TT := fun σ H Q => t σ H fun x H' => ∃ k, x = .bl k ∧ Q k H'
theorem pt_cmpR {op : CmpOp} {r : R2} (ho : OpR X (compareOp op) r) (ha : PE X a ta) (hb : PE X b tb) (hm : behindInMarks op b = false) : PT X (.Compare a [op] [b] pos) (tTest (tOp r ta tb)) := by
  intro pins s σ H Q I h
  refine wpAny_isTrue_Compare1 (thn (ha pins s σ H _ I h) fun v s1 ⟨x, H1, I1, r1, q1⟩ => thn (hb pins s1 σ H1 _ I1 q1) fun u s2 ⟨y, H2, I2, r2, q2⟩ =>
    thn (ho pins s2 σ H2 x y v u _ I2 r1 r2 q2) fun c s3 ⟨z, H3, I3, r3, k, e, q3⟩ => ?_) hm
  subst e
  cases r3
  exact wpAny_truthy_bool ⟨H3, I3, q3⟩
theorem line63 : (sizeLine : Nat) < 2 ^ 63 := by rw [sizeLine_eq]; decide
theorem op_add_str : OpR X (binaryOp .Add) (fun x y H Q => ∃ i j, x = .str i ∧ y = .str j ∧ i.length + j.length ≤ sizeLine ∧ Q (.str (i ++ j)) H) := by
  intro pins s σ H x y v u Q I rx ry h
  obtain ⟨i, j, rfl, rfl, hz, q⟩ := h
  obtain ⟨t, rfl⟩ := rx
  obtain ⟨t', rfl⟩ := ry
  exact add_str (fun t' tk => ⟨.str (i ++ j), H, I.tok _, ⟨_, rfl⟩, q⟩) hz
theorem vals1 {x : V} {us : List Value} (r : Vals [x] us) : ∃ u, us = [u] ∧ RelV x u := by
  cases r with
  | cons r1 r2 => cases r2; exact ⟨_, rfl, r1⟩
theorem vals2 {x y : V} {us : List Value} (r : Vals [x, y] us) : ∃ u w', us = [u, w'] ∧ RelV x u ∧ RelV y w' := by
  cases r with
  | cons r1 r2 =>
    cases r2 with
    | cons r3 r4 => cases r4; exact ⟨_, _, rfl, r1, r3⟩
theorem call_abs : CallR X (.builtin "abs") (fun xs H Q => ∃ i, xs = [.int i] ∧ Q (.int (if i < 0 then -i else i)) H) := by
  intro pins s σ H xs us Q I r h
  obtain ⟨i, rfl, q⟩ := h
  obtain ⟨u, rfl, t, rfl⟩ := vals1 r
  exact call_abs_int fun u tk => ⟨.int (if i < 0 then -i else i), H, I.tok _, ⟨_, rfl⟩, q⟩
theorem call_max2 (hc : X.calm = true) : CallR X (.builtin "max") (fun xs H Q => ∃ i j, xs = [.int i, .int j] ∧ Q (.int (if j > i then j else i)) H) := by
  intro pins s σ H xs us Q I r h
  obtain ⟨i, j, rfl, q⟩ := h
  obtain ⟨u, w', rfl, ⟨t, rfl⟩, ⟨t', rfl⟩⟩ := vals2 r
  refine max_two_ints (I.ok.hd hc) fun h' tk k => ⟨_, H, I.kept k, ?_, q⟩
  by_cases hj : j > i
  · rw [if_pos hj, if_pos hj]; exact ⟨_, rfl⟩
  · rw [if_neg hj, if_neg hj]; exact ⟨_, rfl⟩
theorem call_min2 (hc : X.calm = true) : CallR X (.builtin "min") (fun xs H Q => ∃ i j, xs = [.int i, .int j] ∧ Q (.int (if j < i then j else i)) H) := by
  intro pins s σ H xs us Q I r h
  obtain ⟨i, j, rfl, q⟩ := h
  obtain ⟨u, w', rfl, ⟨t, rfl⟩, ⟨t', rfl⟩⟩ := vals2 r
  refine min_two_ints (I.ok.hd hc) fun h' tk k => ⟨_, H, I.kept k, ?_, q⟩
  by_cases hj : j < i
  · rw [if_pos hj, if_pos hj]; exact ⟨_, rfl⟩
  · rw [if_neg hj, if_neg hj]; exact ⟨_, rfl⟩
theorem call_int1 : CallR X (.type "int") (fun xs H Q => (∃ i, xs = [.int i] ∧ Q (.int i) H) ∨ ∃ k, xs = [.bl k] ∧ Q (.int (if k then 1 else 0)) H) := by
  intro pins s σ H xs us Q I r h
  rcases h with ⟨i, rfl, q⟩ | ⟨k, rfl, q⟩
  · obtain ⟨u, rfl, t, rfl⟩ := vals1 r
    exact call_int_int ⟨.int i, H, I, ⟨_, rfl⟩, q⟩
  · obtain ⟨u, rfl, r1⟩ := vals1 r
    cases r1
    exact call_int_bool ⟨.int (if k then 1 else 0), H, I.tok _, ⟨_, rfl⟩, q⟩
theorem call_str_int : CallR X (.type "str") (fun xs H Q => ∃ i, xs = [.int i] ∧ i.natAbs.log2 < 1920 ∧ Q (.str (toString i)) H) := by
  intro pins s σ H xs us Q I r h
  obtain ⟨i, rfl, hz, q⟩ := h
  obtain ⟨u, rfl, t, rfl⟩ := vals1 r
  exact PySem.P.str_of_int hz ⟨.str _, H, I.tok _, ⟨_, rfl⟩, q⟩
end
end L2
namespace L2
open PySem PySem.Spec PyProof.Rows
structure ObjM (h : Heap) (x dx C : Addr) (mA : Str → Option Value) : Prop where
  obj : h.get? x = some (PySem.W.instObj C dx)
  ns : h.Ns1 dx mA
  ne : dx ≠ x
theorem lookIn_ns {h : Heap} {dx : Addr} {mA : Str → Option Value} (n : h.Ns1 dx mA) : ∃ od, h.get? dx = some od ∧ ∀ name, PySem.W.lookIn name od = some (mA name) := by
  obtain ⟨o, es, ep, ho, hd, hk, _, hm⟩ := n
  refine ⟨o, ho, fun name => ?_⟩
  have e := hm name
  unfold nsFind findBy at e
  rw [← Array.find?_toList] at e
  unfold PySem.W.lookIn
  rw [hd]
  dsimp only
  split
  · rename_i y q
    rw [q] at e
    exact congrArg some e
  · rename_i q
    rw [q] at e
    have a : es.toList.any (·.refKey) = false := by
      rw [List.any_eq_false]
      intro y hy
      obtain ⟨z, t, hkey⟩ := hk y (Array.mem_toList_iff.mp hy)
      simp [DictEntry.refKey, hkey]
    have a' : ¬ es.toList.any (·.refKey) = true := by rw [a]; exact Bool.false_ne_true
    rw [if_neg a']
    exact congrArg some e
theorem ObjM.look {h : Heap} {x dx C : Addr} {mA : Str → Option Value} (I : ObjM h x dx C mA) : ∃ od, PySem.W.InstAt h x (PySem.W.instObj C dx) C (some od) ∧ ∀ name, PySem.W.lookIn name od = some (mA name) :=
  let ⟨od, ho, hl⟩ := lookIn_ns I.ns
  ⟨od, ⟨I.obj, rfl, rfl, ho⟩, hl⟩
section
variable {prog : Program} {w : World} {A : Around} {E : Value → Shared → Prop} {s : Shared} {K : PySem.W.Frag} {x dx C f : Addr} {mA : Str → Option Value} {name : Str} {v : Value}
end
theorem RelO.some_of {v : V} {o : Option Value} (r : RelO (some v) o) : ∃ u, o = some u ∧ RelV v u := by
  cases o with
  | none => exact (show False from r).elim
  | some u => exact ⟨u, rfl, r⟩
theorem handed_of {v : V} {u : Value} (r : RelV v u) : PySem.W.handedIn u = true := by
  cases v with
  | non => cases (show u = Value.none from r); rfl
  | bl b => cases (show u = Value.bool b from r); rfl
  | int i => obtain ⟨t, e⟩ := (show ∃ t, u = Value.int i t from r); cases e; rfl
  | str x => obtain ⟨t, e⟩ := (show ∃ t, u = Value.str x t from r); cases e; rfl
  | byt b => obtain ⟨t, e⟩ := (show ∃ t, u = Value.bytes b t from r); cases e; rfl
  | flt b => obtain ⟨t, e⟩ := (show ∃ t, u = Value.float b t from r); cases e; rfl
  | ref a => cases (show u = Value.ref a from r); rfl
  | ty n => cases (show u = Value.type n from r); rfl
section
variable {P : Program} {w : World} {H H' : Hp} {h h' : Heap} {a C dx : Addr} {fs fs' : List (Str × V)}
end
section
variable {X : Cx} {pins : List (Addr × Obj)} {σ : St} {H : Hp} {s : Shared} {a C dx : Addr} {fs : List (Str × V)} {f : Str} {v : V} {A : Around} {E : Value → Shared → Prop}
theorem attr_of {prog : Program} {w : World} {env : Env} {e : Expr} {f : Str} {pos : Pos} {s : Shared} {Q : Value → Shared → Prop} (hb : attributeBase e f env (eval e env) = eval e env)
    (h : wpAny (model prog w) A (eval e env) (fun o s₁ => wpAny (model prog w) A (getAttr o f true) Q E s₁) E s) : wpAny (model prog w) A (eval (.Attribute e f pos) env) Q E s :=
  Attribute_any_ h (by rw [arm_eval_Attribute, hb])
end
section
variable {X : Cx} {o e value : Expr} {f : Str} {pos pos' tpos : Pos} {ta tv : TE}
end
section
variable {X : Cx} {pins : List (Addr × Obj)} {σ : St} {H : Hp} {s : Shared} {A : Around} {E : Value → Shared → Prop} {Q : Value → Shared → Prop} {c : Value} {b : Bool}
end
end L2
namespace L2
open PySem PySem.Spec PyProof.Rows
structure Room (k : Nat) (A : Around) : Prop where
  dp : A.depth + 3 * k + 5 < recursionLimit
  un : A.units + 16 * k + 200 < cLine
  gd : A.guards = some []
theorem Room.mono {j k : Nat} {A : Around} (r : Room k A) (h : j ≤ k) : Room j A := ⟨by have := r.dp; omega, by have := r.un; omega, r.gd⟩
theorem Room.deeper {k : Nat} {A : Around} (r : Room (k + 1) A) (env : Env) : Room k (A.deeper env) :=
  ⟨by have := r.dp; show A.depth + 1 + 3 * k + 5 < _; omega, by have := r.un; show A.units + 3 + 16 * k + 200 < _; omega, r.gd⟩
theorem make_depth {A : Around} {C : Addr} {us : List Value} {kw : List (Str × Value)} : (A.under (.builtin "type.__call__" ⟨.ref C :: us, kw⟩)).depth = A.depth + 1 := by
  first | rfl | simp [Around.under, Code.weight, Code.isCreation, Code.isGuard, Code.isCaller, Code.frames, Code.isFrame, guardIds]
theorem make_units {A : Around} {C : Addr} {us : List Value} {kw : List (Str × Value)} : (A.under (.builtin "type.__call__" ⟨.ref C :: us, kw⟩)).units = A.units + 1 := by
  first | rfl | simp [Around.under, Code.cUnits, Code.frames, Code.isFrame]
theorem Room.make {k : Nat} {A : Around} (r : Room (k + 1) A) (C : Addr) (us : List Value) (kw : List (Str × Value)) : Room k (A.under (.builtin "type.__call__" ⟨.ref C :: us, kw⟩)) :=
  ⟨by have := r.dp; rw [make_depth]; omega, by have := r.un; rw [make_units]; omega, by first | exact r.gd | (simpa [Around.under, Code.isGuard, guardIds] using r.gd)⟩
theorem Room.depth {k : Nat} {A : Around} (r : Room k A) : A.depth < recursionLimit := by have := r.dp; omega
def tNil : TA := fun _ H Q => Q [] H
def tCons (ta : TE) (tr : TA) : TA := fun σ H Q => ta σ H fun x H1 => tr σ H1 fun xs H2 => Q (x :: xs) H2
section
variable {X : Cx} {e : Expr} {es : List Expr} {te : TE} {t : TA} {pos : Pos}
theorem pa_nil : PA X [] tNil := fun _ _ _ _ H Q I h => Calls.spliced_nil ⟨[], H, I, .nil, h⟩
theorem pa_cons (ha : PE X e te) (hr : PA X es t) (hs : starEach (e :: es) X.env = (false, eval e X.env) :: starEach es X.env := by rfl) : PA X (e :: es) (tCons te t) := by
  intro pos pins s σ H Q I h
  rw [hs]
  show wpAny _ _ (spliced ((false, eval e X.env) :: backTo pos (starEach es X.env))) _ _ s
  refine Calls.spliced_cons (thn (ha pins s σ H _ I h) fun u s1 ⟨x, H1, I1, r1, q1⟩ => ?_)
  exact thn (hr pos pins s1 σ H1 _ I1 q1) fun us s2 ⟨xs, H2, I2, r2, q2⟩ => ⟨x :: xs, H2, I2, .cons r1 r2, q2⟩
def tTup (t : TA) : TE := fun σ H Q => t σ H fun xs H1 => xs.length ≤ sizeLine ∧ ∀ p, H1 p = none → Q (.ref p) (upd H1 p (.tup xs))
def tLst (t : TA) : TE := fun σ H Q => t σ H fun xs H1 => xs.length ≤ sizeLine ∧ ∀ p, H1 p = none → Q (.ref p) (upd H1 p (.lst xs))
theorem pe_tup {x1} (h : PA X es t) : PE X (.Tuple es x1 pos) (tTup t) := by
  intro pins s σ H Q I hq
  refine wpAny_Tuple_spliced (thn (h pos pins s σ H _ I hq) fun us s1 ⟨xs, H1, I1, r, z, q⟩ => ⟨by rw [← r.length]; exact z, ?_⟩)
  have hf : H1 s1.heap.objs.size = none := I1.hok.fresh (Nat.le_refl _)
  refine ⟨.ref s1.heap.objs.size, upd H1 s1.heap.objs.size (.tup xs), I1.laid (t' := s1.toks) (fun b u e => Heap.get?_push_of_some _ e) (Nat.le_refl _) ?_, rfl, q _ hf⟩
  exact ⟨z, us, r, ⟨_, Heap.get?_push_size _ rfl, rfl, _, rfl⟩⟩
theorem pe_lst (h : PA X es t) : PE X (.List es pos) (tLst t) := by
  intro pins s σ H Q I hq
  refine wpAny_List_spliced (thn (h pos pins s σ H _ I hq) fun us s1 ⟨xs, H1, I1, r, z, q⟩ => ⟨by rw [← r.length]; exact z, ?_⟩)
  have hf : H1 s1.heap.objs.size = none := I1.hok.fresh (Nat.le_refl _)
  refine ⟨.ref s1.heap.objs.size, upd H1 s1.heap.objs.size (.lst xs), I1.laid (t' := s1.toks) (fun b u e => Heap.get?_push_of_some _ e) (Nat.le_refl _) ?_, rfl, q _ hf⟩
  exact ⟨z, us, 0, r, Heap.get?_push_size _ rfl⟩
end
abbrev Sp := List V → Hp → VK → XK → Prop
abbrev CXT := List Env → Hp → Shared → XK → Value → Shared → Prop
structure Env0 (P : Program) (w : World) (K : PySem.W.Frag) (mg : Str → Option Value) (base : Heap) (A : Around) (outer : List Env) (s : Shared) (H : Hp) : Prop where
  frames : A.frames = some outer
  mod : Mod K mg base
  bs : ∀ b o, base.get? b = some o → s.heap.get? b = some o ∧ H b = none
  bsz : base.objs.size ≤ s.heap.objs.size
  funs : s.heap.FunFrames base outer
  frf : ∀ b ∈ frs outer, H b = none
  hok : HOk P w H s.heap
  bare : AllBare s.gens
def CE (outer : List Env) (P : Program) (w : World) (H : Hp) (s : Shared) (Q : VK) (u : Value) (s' : Shared) : Prop :=
  ∃ v H', s'.os = s.os ∧ AllBare s'.gens ∧ Un (frs outer) [] H H' s.heap s'.heap ∧ HOk P w H' s'.heap ∧ RelV v u ∧ Q v H'
def CR (CX : CXT) (outer : List Env) (P : Program) (w : World) (H : Hp) (s : Shared) (Q : VK) (E : XK) (r : Result) (s' : Shared) : Prop :=
  match r with
  | .ok (.ret u) => CE outer P w H s Q u s'
  | .ok _ => False
  | .error e => CX outer H s E e s'
def CCb (b : Bool) (A : Around) (H : Hp) : Prop := (b = true → A.handled = none) ∧ Hush A H
def Qt (b : Bool) (X : Cx) : Prop := (b = true → X.calm = true) ∧ (X.calm = true ∨ X.hush = true)
theorem qt_any {b : Bool} {X : Cx} (h : X.calm = true) : Qt b X := ⟨fun _ => h, .inl h⟩
theorem qt_hush {X : Cx} (h : X.hush = true) : Qt false X := ⟨fun z => (nomatch z), .inr h⟩
theorem Qt.cc {b : Bool} {X : Cx} {pins : List (Addr × Obj)} {σ : St} {H : Hp} {s : Shared} (q : Qt b X) (I : Inv X pins σ H s) : CCb b X.A H := ⟨fun e => I.ok.hd (q.1 e), q.2.elim (fun c => .inl (I.ok.hd c)) fun h => I.hush h⟩
structure FnOkC (b : Bool) (P : Program) (w : World) (K : PySem.W.Frag) (mg : Str → Option Value) (base : Heap) (CX : CXT) (k : Nat) (f : Addr) (fd : FuncData) (ps : List Str) (sp : Sp) : Prop where
  len : ∀ vs H Q E, sp vs H Q E → vs.length = ps.length
  run : ∀ (A : Around) (outer : List Env) (s : Shared) (H : Hp) (args : Args) (us : List Value) (vs : List V) (Q : VK) (E : XK), Room k A → CCb b A H → Env0 P w K mg base A outer s H → BindsTo s fd args (ps.zip us) → Vals vs us → sp vs H Q E →
    codeAny (model P w) A (.call (.ref f) args) (CR CX outer P w H s Q E) s
abbrev FnOk (P : Program) (w : World) (K : PySem.W.Frag) (mg : Str → Option Value) (base : Heap) (CX : CXT) (k : Nat) (f : Addr) (fd : FuncData) (ps : List Str) (sp : Sp) : Prop := FnOkC true P w K mg base CX k f fd ps sp
theorem FnOkC.mono {b : Bool} {P : Program} {w : World} {K : PySem.W.Frag} {mg : Str → Option Value} {base : Heap} {CX : CXT} {j k : Nat} {f : Addr} {fd : FuncData} {ps : List Str} {sp : Sp} (F : FnOkC b P w K mg base CX j f fd ps sp) (h : j ≤ k) :
    FnOkC b P w K mg base CX k f fd ps sp := ⟨F.len, fun A outer s H args us vs Q E hr => F.run A outer s H args us vs Q E (hr.mono h)⟩
theorem FnOkC.imp {b : Bool} {P : Program} {w : World} {K : PySem.W.Frag} {mg : Str → Option Value} {base : Heap} {CX : CXT} {k : Nat} {f : Addr} {fd : FuncData} {ps : List Str} {sp sp' : Sp} (F : FnOkC b P w K mg base CX k f fd ps sp)
    (h : ∀ vs H Q E, sp' vs H Q E → sp vs H Q E) : FnOkC b P w K mg base CX k f fd ps sp' :=
  ⟨fun vs H Q E q => F.len vs H Q E (h _ _ _ _ q), fun A outer s H args us vs Q E hr hc he hb hv hs => F.run A outer s H args us vs Q E hr hc he hb hv (h _ _ _ _ hs)⟩
section
variable {X : Cx} {pins : List (Addr × Obj)} {σ : St} {H : Hp} {s s' : Shared}
theorem Inv.env0 (I : Inv X pins σ H s) : Env0 X.prog X.w X.K X.mg X.base X.A X.stack s H :=
  ⟨I.ok.frames, I.ok.mod, I.bs, Nat.le_trans I.ok.bsz I.sz, I.stack, I.stkFree, I.hok, I.bare⟩
theorem Inv.after {Q : VK} {u : Value} (I : Inv X pins σ H s) (h : CE X.stack X.prog X.w H s Q u s') : EP X pins σ Q u s' := by
  obtain ⟨v, H', os, bare, un, hok, r, q⟩ := h
  obtain ⟨hh, g, d, t, os'⟩ := s'
  obtain rfl : os' = s.os := os
  exact ⟨v, H', I.call (h' := hh) (g' := g) (d' := d) (t' := t) (ch := []) un hok bare (fun b z => absurd z (by simp)), r, q⟩
end
def tCall (sp : Sp) (dvs : List V) (E : XK) (t : TA) : TE := fun σ H Q => t σ H fun vs H1 => sp (vs ++ dvs) H1 Q E
def Binds (K : PySem.W.Frag) (fd : FuncData) (ps : List Str) (ds : List Value) : Prop :=
  ∀ (s : Shared) (us : List Value), K.In s.heap → (us ++ ds).length = ps.length → BindsTo s fd ⟨us, []⟩ (ps.zip (us ++ ds))
theorem Binds.all {K : PySem.W.Frag} {fd : FuncData} {ps : List Str} (h : ∀ us : List Value, us.length = ps.length → bindArgs fd ⟨us, []⟩ = pure (ps.zip us)) : Binds K fd ps [] := fun s us _ hl => by
  rw [List.append_nil] at hl ⊢
  exact .of_eq (h us hl)
def Passes (CX : CXT) (X : Cx) (E : XK) : Prop := ∀ (pins : List (Addr × Obj)) (σ : St) (H : Hp) (s : Shared) (e : Value) (s' : Shared), Inv X pins σ H s → CX X.stack H s E e s' → X.xe e s'
section
variable {X : Cx} {bq : Bool} {CX : CXT} {k : Nat} {f C : Addr} {fd : FuncData} {ps : List Str} {sp : Sp} {dvs : List V} {ds : List Value} {E : XK} {x m : Str} {p pos apos : Pos} {e o : Expr} {es : List Expr} {ta : TE} {t : TA}
theorem run_fn {pins : List (Addr × Obj)} {σ : St} {H : Hp} {s : Shared} {Q : VK} {us : List Value} {vs : List V} (F : FnOkC bq X.prog X.w X.K X.mg X.base CX k f fd ps sp) (hqt : Qt bq X) (hr : Room k X.A) (hb : Binds X.K fd ps ds) (hd : Vals dvs ds) (hx : Passes CX X E)
    (I : Inv X pins σ H s) (r : Vals vs us) (h : sp (vs ++ dvs) H Q E) : wpAny (model X.prog X.w) X.A (call (.ref f) us) (EP X pins σ Q) X.xe s := by
  have r2 : Vals (vs ++ dvs) (us ++ ds) := r.append hd
  have hl : (us ++ ds).length = ps.length := by rw [← r2.length]; exact F.len _ _ _ _ h
  refine wpAny_call (codeAny_mono (F.run X.A X.stack s H ⟨us, []⟩ (us ++ ds) (vs ++ dvs) Q E hr (hqt.cc I) I.env0 (hb s us I.kIn hl) r2 h) fun r s' hq => ?_)
  cases r with
  | error e => exact hx pins σ H s e s' I hq
  | ok fl =>
    cases fl with
    | ret u => exact I.after hq
    | next => exact False.elim hq
    | brk => exact False.elim hq
    | cont => exact False.elim hq
theorem pe_call (F : FnOkC bq X.prog X.w X.K X.mg X.base CX k f fd ps sp) (hqt : Qt bq X) (hr : Room k X.A) (hg : Gl X x) (hm : X.mg x = some (.ref f)) (hk : PySem.W.keepIn X.K (.ref f) = true) (hb : Binds X.K fd ps ds) (hd : Vals dvs ds) (hx : Passes CX X E)
    (ha : PA X (e :: es) t) (hdb : (x == ("__debug__" : Str)) = false := by decide) (he : starEach (e :: es) X.env = (false, eval e X.env) :: starEach es X.env := by rfl) (hpl : (backTo pos (starEach es X.env)).any (·.1) = false := by rfl) :
    PE X (.Call (.Name x p) (e :: es) [] pos) (tCall sp dvs E t) := by
  intro pins s σ H Q I h
  refine wpAny_Call_Name_kw (ld_glob I hg hm ?_ hdb)
  refine PySem.W.callWith_K (h₀ := X.base) I.ok.mod.kin hk (thn (ha pos pins s σ H _ I h) fun us s1 ⟨vs, H1, I1, r, q⟩ => ⟨I1.kIn, ?_⟩) he hpl
  exact run_fn F hqt hr hb hd hx I1 r q
end
section
variable {X : Cx} {bq : Bool} {CX : CXT} {k : Nat} {f C : Addr} {fd : FuncData} {ps ks : List Str} {sp : Sp} {E : XK} {x m : Str} {p pos apos kpos : Pos} {e o : Expr} {es : List Expr} {kws : List Keyword} {te ta : TE} {t tk : TA} {nm : Option Str}
variable {g : List Value → List Value → List Value} {gV : List V → List V → List V}
end
structure FnScope (N P : List Str) (sc : Scope) : Prop where
  kind : sc.kind = .function
  co : sc.isCoroutine = false
  gen : sc.isGenerator = false
  nd : N.Nodup
  pre : N.take P.length = P
  par : ∀ x ∈ P, sc.names.lookup x = some .local ∨ sc.names.lookup x = some .cell
  nofree : ∀ y ∈ sc.names, y.2 ≠ .free
theorem bindL_out {kindOf : Str → Option NameKind} {x : Str} : ∀ {binds : List (Str × Value)} {m : Str → Option Value}, (∀ v, (x, v) ∉ binds) → bindL kindOf binds m x = m x
  | [], _, _ => rfl
  | (n, v) :: r, m, h => by
    unfold bindL
    rw [bindL_out fun w hw => h w (List.mem_cons_of_mem _ hw)]
    split
    · have : x ≠ n := by rintro rfl; exact h v List.mem_cons_self
      simp [this]
    · rfl
theorem bindC_out {kindOf : Str → Option NameKind} {x : Str} : ∀ {binds : List (Str × Value)} {m : Str → Option Value}, (∀ v, (x, v) ∉ binds) → bindC kindOf binds m x = m x
  | [], _, _ => rfl
  | (n, v) :: r, m, h => by
    unfold bindC
    rw [bindC_out fun w hw => h w (List.mem_cons_of_mem _ hw)]
    split
    · rfl
    · have : x ≠ n := by rintro rfl; exact h v List.mem_cons_self
      simp [this]
theorem bindL_get {kindOf : Str → Option NameKind} {x : Str} {v : Value} : ∀ {P : List Str} {vs : List Value} {i : Nat} {m : Str → Option Value}, P.Nodup → P[i]? = some x → vs[i]? = some v → kindOf x = some .local →
    bindL kindOf (P.zip vs) m x = some v
  | [], _, _, _, _, h, _, _ => by simp at h
  | _ :: _, [], _, _, _, _, h, _ => by simp at h
  | p :: P, w :: vs, 0, m, nd, h1, h2, hk => by
    simp at h1 h2; subst h1; subst h2
    show bindL kindOf ((p, w) :: P.zip vs) m p = _
    unfold bindL
    rw [bindL_out fun v hv => (List.nodup_cons.mp nd).1 (List.of_mem_zip hv).1, if_pos hk]
    simp
  | p :: P, w :: vs, i + 1, m, nd, h1, h2, hk => by
    show bindL kindOf ((p, w) :: P.zip vs) m x = _
    unfold bindL
    exact bindL_get (i := i) (List.nodup_cons.mp nd).2 (by simpa using h1) (by simpa using h2) hk
theorem bindC_get {kindOf : Str → Option NameKind} {x : Str} {v : Value} : ∀ {P : List Str} {vs : List Value} {i : Nat} {m : Str → Option Value}, P.Nodup → P[i]? = some x → vs[i]? = some v → kindOf x ≠ some .local →
    bindC kindOf (P.zip vs) m x = some v
  | [], _, _, _, _, h, _, _ => by simp at h
  | _ :: _, [], _, _, _, _, h, _ => by simp at h
  | p :: P, w :: vs, 0, m, nd, h1, h2, hk => by
    simp at h1 h2; subst h1; subst h2
    show bindC kindOf ((p, w) :: P.zip vs) m p = _
    unfold bindC
    rw [bindC_out fun v hv => (List.nodup_cons.mp nd).1 (List.of_mem_zip hv).1, if_neg hk]
    simp
  | p :: P, w :: vs, i + 1, m, nd, h1, h2, hk => by
    show bindC kindOf ((p, w) :: P.zip vs) m x = _
    unfold bindC
    exact bindC_get (i := i) (List.nodup_cons.mp nd).2 (by simpa using h1) (by simpa using h2) hk
def start (N : List Str) (vs : List V) : St := vs.map some ++ List.replicate (N.length - vs.length) none
def cxOfB (cb : Bool) (CX : CXT) (P : Program) (w : World) (K : PySem.W.Frag) (mg : Str → Option Value) (base : Heap) (N : List Str) (qual : Str) (scope : Scope) (f : Addr) (cd : Value) (A : Around) (outer : List Env) (s : Shared) (H : Hp) (E : XK) : Cx where
  prog := P
  w := w
  K := K
  mg := mg
  base := base
  A := A.deeper (envOfC qual scope s.heap.objs.size f cd)
  N := N
  s_0 := s
  H_0 := H
  env := envOfC qual scope s.heap.objs.size f cd
  outer := outer
  stack := envOfC qual scope s.heap.objs.size f cd :: outer
  ex := []
  calm := cb
  hush := true
  fn := fun _ => true
  pn := []
  xe := fun e s' => wpAny (model P w) (A.deeper (envOfC qual scope s.heap.objs.size f cd)) (leaving (envOfC qual scope s.heap.objs.size f cd) e) (fun _ s'' => CX outer H s E e s'') (fun e' s'' => CX outer H s E e' s'') s'
abbrev cxOf (CX : CXT) (P : Program) (w : World) (K : PySem.W.Frag) (mg : Str → Option Value) (base : Heap) (N : List Str) (qual : Str) (scope : Scope) (f : Addr) (cd : Value) (A : Around) (outer : List Env) (s : Shared) (H : Hp) (E : XK) : Cx := cxOfB true CX P w K mg base N qual scope f cd A outer s H E
theorem cell_has {sc : Scope} {n : Nat} {x : Str} (h : sc.names.lookup x = some .cell) : ∃ c, (cellsFrom n sc.names []).lookup x = some c := by
  have q := PySem.W.cellsFrom_some sc.names n [] (.inl h)
  exact Option.isSome_iff_exists.mp q
theorem inv_start {cb : Bool} {CX : CXT} {P : Program} {w : World} {K : PySem.W.Frag} {mg : Str → Option Value} {base : Heap} {N ps : List Str} {qual : Str} {scope : Scope} {f : Addr} {cd : Value} {A : Around} {outer : List Env} {s s1 : Shared} {H : Hp} {E : XK} {us : List Value} {vs : List V}
    (S : FnScope N ps scope) (hd : CCb cb A H) (e0 : Env0 P w K mg base A outer s H) (hl : vs.length = ps.length) (r : Vals vs us)
    (x : InCallC s s.heap.objs.size (bindL (envOfC qual scope s.heap.objs.size f cd).kindOf (ps.zip us) fun _ => none) (cellsFrom (s.heap.objs.size + 1) scope.names []) (bindC (envOfC qual scope s.heap.objs.size f cd).kindOf (ps.zip us) fun _ => none) s1) :
    Inv (cxOfB cb CX P w K mg base N qual scope f cd A outer s H E) [] (start N vs) H s1 := by
  have hpl : ps.length ≤ N.length := by have := congrArg List.length S.pre; rw [List.length_take] at this; omega
  obtain ⟨h1, tk, rfl, hk⟩ := x.done
  have noA : ∀ b : Addr, b ∉ (cxOfB cb CX P w K mg base N qual scope f cd A outer s H E).ex := fun b z => absurd (show b ∈ ([] : List Addr) from z) (by simp)
  refine ⟨⟨e0.mod, S.kind, rfl, rfl, Nat.le_refl _, fun y z c h1 h2 => ?_, fun y hy => ?_, fun y c _ h => ?_, hd.1, (fun _ => hd.2), Around.frames_deeper e0.frames, .inr ⟨rfl, rfl⟩, fun b z => absurd z (noA b), e0.bs, e0.bsz, fun b _ _ => noA b, fun b z => absurd z (noA b), e0.funs, e0.frf⟩,
    rfl, e0.bare, Un.kept hk, ⟨_, x.toInCall.ns, fun i y v h1 h2 h3 => ?_⟩, fun y c h => ⟨_, x.cell y c h⟩, e0.hok.fresh (Nat.le_refl _), fun y c h => ?_, fun p hp => absurd (show p ∈ ([] : List (Addr × Obj)) from hp) (by simp), e0.hok.kept hk, ?_⟩
  · exact name_of_addr x.apart (PySem.mem_of_lookup h1) (PySem.mem_of_lookup h2)
  · have hy : scope.names.lookup y = some .cell ∨ scope.names.lookup y = some .free := hy
    rcases hy with hy | hy
    · exact cell_has hy
    · exact absurd rfl (S.nofree _ (PySem.mem_of_lookup hy))
  · exact Nat.le_of_lt (x.above y c (PySem.mem_of_lookup h))
  · have hi : i < vs.length := by
      unfold start at h2
      by_cases hi : i < vs.length
      · exact hi
      · rw [List.getElem?_append_right (by simpa using hi)] at h2
        rw [List.getElem?_replicate] at h2
        split at h2 <;> cases h2
    have ha : vs[i]? = some v := by
      unfold start at h2
      rw [List.getElem?_append_left (by simpa using hi), List.getElem?_map] at h2
      cases e : vs[i]? with
      | none => rw [e] at h2; cases h2
      | some a => rw [e] at h2; cases h2; rfl
    obtain ⟨u, hu, rv⟩ := r.get ha
    have hp : ps[i]? = some y := by
      rw [← S.pre, List.getElem?_take_of_lt (by omega)]; exact h1
    have ndP : ps.Nodup := by rw [← S.pre]; exact S.nd.sublist (List.take_sublist _ _)
    refine ⟨u, rv, ?_⟩
    rcases S.par y (List.mem_of_getElem? hp) with k | k
    · exact .inl ⟨k, bindL_get ndP hp hu k⟩
    · obtain ⟨c, e⟩ := cell_has (n := s.heap.objs.size + 1) k
      refine .inr ⟨.inl k, c, e, ?_⟩
      have q := x.cell y c e
      rw [bindC_get ndP hp hu (by show scope.names.lookup y ≠ _; rw [k]; decide)] at q
      exact q
  · exact e0.hok.fresh (Nat.le_of_lt (x.above y c (PySem.mem_of_lookup h)))
  · unfold start
    show _ = N.length
    rw [List.length_append, List.length_map, List.length_replicate]
    omega
theorem fn_of {cb : Bool} {CX : CXT} {P : Program} {w : World} {K : PySem.W.Frag} {mg : Str → Option Value} {base : Heap} {k : Nat} {f : Addr} {name qual : Str} {params : Arguments} {body : List Stmt} {scope : Scope} {dV kV doc pm cdv ct oc : Value} {an od : Option Addr}
    {osl : Array (Option Value)} {N ps : List Str} {sp : Sp} (lk : K.lookup f = some ⟨oc, od, .func (PySem.W.fnOf name qual params body scope dV kV doc pm an cdv ct), osl⟩) (hcd : PySem.W.codeIn K cdv qual = true) (S : FnScope N ps scope)
    (len : ∀ vs H Q E, sp vs H Q E → vs.length = ps.length)
    (hbody : ∀ (A : Around) (outer : List Env) (s : Shared) (H : Hp) (vs : List V) (Q : VK) (E : XK), Room k (A.deeper (envOfC qual scope s.heap.objs.size f cdv)) → sp vs H Q E →
      ∃ t, PSs (cxOfB cb CX P w K mg base N qual scope f cdv A outer s H E) body t ∧ t { nx := fun _ H' => Q .non H', rt := Q } (start N vs) H) :
    FnOkC cb P w K mg base CX (k + 1) f (PySem.W.fnOf name qual params body scope dV kV doc pm an cdv ct) ps sp := by
  refine ⟨len, fun A outer s H args us vs Q E hr hcc e0 hb r hsp => ?_⟩
  have hl := len _ _ _ _ hsp
  have KX : K.In s.heap := e0.mod.kin.keeps fun b o e => (e0.bs b o e).1
  have lim : s.heap.NoLimit := e0.mod.nolimit.keeps fun b o e => (e0.bs b o e).1
  have hkind : ∀ y ∈ ps.zip us, scope.names.lookup y.1 = some .local ∨ (scope.names.lookup y.1 = some .cell ∧ ((cellsFrom (s.heap.objs.size + 1) scope.names []).lookup y.1).isSome = true) := fun ⟨n, v⟩ hy => by
    rcases S.par n (List.of_mem_zip hy).1 with q | q
    · exact .inl q
    · exact .inr ⟨q, PySem.W.cellsFrom_some _ _ _ (.inl q)⟩
  refine codeAny_call_function hr.depth (KX _ _ lk) rfl S.co S.gen rfl (PySem.W.codeRec_of KX hcd) (hb _ _ _ _ ?_)
  refine wpAny_newFunctionEnv_cells S.kind hkind fun env he s1 x => ?_
  subst he
  refine ⟨lim.keeps x.toInCall.keep, codeAny_func ?_⟩
  obtain ⟨t, ht, hq⟩ := hbody A outer s H vs Q E (hr.deeper _) hsp
  have I : Inv (cxOfB cb CX P w K mg base N qual scope f cdv A outer s H E) [] (start N vs) H s1 := inv_start S hcc e0 hl r x
  refine wpAny_mono (ht [] s1 (start N vs) H _ I hq) (fun fl s' hs => ?_) fun e s' hs => hs
  have fin : ∀ {σ' : St} {H' : Hp} {v : V} {u : Value}, Inv (cxOfB cb CX P w K mg base N qual scope f cdv A outer s H E) [] σ' H' s' → RelV v u → Q v H' → CE outer P w H s Q u s' :=
    fun {σ' H' v u} J rv q => ⟨v, H', J.os, J.bare, J.base, J.hok, rv, q⟩
  cases fl with
  | ret u =>
    obtain ⟨v, σ', H', J, rv, q⟩ := hs
    exact fin J rv q
  | next =>
    obtain ⟨σ', H', J, q⟩ := hs
    exact fin (v := V.non) (u := Value.none) J rfl q
  | brk =>
    obtain ⟨_, _, _, q⟩ := hs
    exact False.elim q
  | cont =>
    obtain ⟨_, _, _, q⟩ := hs
    exact False.elim q
end L2
namespace L2
open PySem PySem.Spec PyProof.Rows
section
variable {X : Cx} {x : Str} {p pos : Pos} {e : Expr} {es : List Expr} {t : TA} {id T : String} {r : List V → Hp → VK → Prop}
def tCB (r : List V → Hp → VK → Prop) (t : TA) : TE := fun σ H Q => t σ H fun vs H1 => r vs H1 Q
theorem pe_callB (hc : CallR X (.builtin id) r) (hg : Gl X x) (hm : X.mg x = none) (hv : bootBuiltins x = some (.builtin id)) (ha : PA X (e :: es) t) (hn : x ≠ "__name__" := by decide) (hdb : (x == ("__debug__" : Str)) = false := by decide)
    (he : starEach (e :: es) X.env = (false, eval e X.env) :: starEach es X.env := by rfl) (hpl : (backTo pos (starEach es X.env)).any (·.1) = false := by rfl) : PE X (.Call (.Name x p) (e :: es) [] pos) (tCB r t) := by
  intro pins s σ H Q I h
  refine wpAny_Call_Name_kw (ld_blt I hg hm hv ?_ hn hdb)
  exact PyProof.Rows.callWith_builtin1 (thn (ha pos pins s σ H _ I h) fun us s1 ⟨vs, H1, I1, r1, q1⟩ => hc pins s1 σ H1 vs us Q I1 r1 q1) he hpl
theorem pe_callTy (hc : CallR X (.type T) r) (hg : Gl X x) (hm : X.mg x = none) (hv : bootBuiltins x = some (.type T)) (ha : PA X (e :: es) t) (hn : x ≠ "__name__" := by decide) (hdb : (x == ("__debug__" : Str)) = false := by decide)
    (he : starEach (e :: es) X.env = (false, eval e X.env) :: starEach es X.env := by rfl) (hpl : (backTo pos (starEach es X.env)).any (·.1) = false := by rfl) : PE X (.Call (.Name x p) (e :: es) [] pos) (tCB r t) := by
  intro pins s σ H Q I h
  refine wpAny_Call_Name_kw (ld_blt I hg hm hv ?_ hn hdb)
  exact PyProof.Rows.callWith_type1 (thn (ha pos pins s σ H _ I h) fun us s1 ⟨vs, H1, I1, r1, q1⟩ => hc pins s1 σ H1 vs us Q I1 r1 q1) he hpl
end
end L2
namespace HT
open PySem PyProof.Rows
section
open PySem.SeqAt
open PySem.AutoSeq1 (wpAny_loadPart')
open PySem.MeetsSeq PySem.MeetsSeq2 PySem.MeetsSeq3
end
section
variable {prog : Program} {w : World} {A : Around} {E : Value → Shared → Prop} {s : Shared}
theorem cat_tup {t b : Addr} {vs ws : List Value} {Q : Value → Shared → Prop} (ht : IsTup s.heap t vs.toArray) (hb : IsTup s.heap b ws.toArray) (hv : vs ≠ [])
    (h1 : ws = [] → Q (.ref t) s) (h2 : ws ≠ [] → Q (.ref s.heap.objs.size) { s with heap := s.heap.push { cls := .type "tuple", data := .seq (vs ++ ws).toArray } })
    (hsz : vs.length + ws.length ≤ sizeLine) : wpAny (model prog w) A (binaryOp .Add (.ref t) (.ref b)) Q E s := by
  obtain ⟨⟨cls, dd, data, sl⟩, ho, hc, n, hd⟩ := id ht
  obtain ⟨⟨cls2, dd2, data2, sl2⟩, ho2, hc2, n2, hd2⟩ := id hb
  simp only at hc hd hc2 hd2
  subst hc hd hc2 hd2
  have e : vs.toArray ++ ws.toArray = (vs ++ ws).toArray := by simp
  by_cases hw : ws = []
  · exact concat_meets ⟨_, ho, rfl⟩ ⟨_, ho2, rfl⟩ noFill_tuple_add seq_tuple_add PySem.F.slot_tuple_add PySem.F.entry_tuple_add (PySem.F.args_tuple_add_2 _ _)
      (tuple_addW1 t b vs.toArray ws.toArray n n2 dd dd2 sl sl2 (by simpa using hv) (by simp [hw])) ⟨ho, ho2, h1 hw⟩
  · refine concat_meets ⟨_, ho, rfl⟩ ⟨_, ho2, rfl⟩ noFill_tuple_add seq_tuple_add PySem.F.slot_tuple_add PySem.F.entry_tuple_add (PySem.F.args_tuple_add_2 _ _)
      (tuple_addW2 t b vs.toArray ws.toArray n n2 dd dd2 sl sl2 (by simpa using hv) (by simpa using hw) (by rw [List.size_toArray, List.size_toArray]; exact hsz)) ⟨ho, ho2, ?_⟩
    rw [e]
    exact h2 hw
def sIx (n d : Nat) : Option Int → Nat
  | none => d
  | some v => if v < 0 then (v + (n : Int)).toNat else min v.toNat n
theorem sIx_le (n d : Nat) (hd : d ≤ n) (o : Option Int) : sIx n d o ≤ n := by
  cases o with
  | none => exact hd
  | some v =>
    show (if v < 0 then (v + (n : Int)).toNat else min v.toNat n) ≤ n
    by_cases hv : v < 0
    · rw [if_pos hv]; omega
    · rw [if_neg hv]; exact Nat.min_le_right _ _
theorem clip_eq (v : Int) (n d : Nat) : (if v < 0 then max (v + (n : Int)) 0 else min v (n : Int)) = ((sIx n d (some v) : Nat) : Int) := by
  show (if v < 0 then max (v + (n : Int)) 0 else min v (n : Int)) = (((if v < 0 then (v + (n : Int)).toNat else min v.toNat n) : Nat) : Int)
  by_cases hv : v < 0
  · simp only [if_pos hv]; omega
  · simp only [if_neg hv]; omega
theorem adjust_gen (lo hi : Option Int) (n : Nat) : Builtin.Slice.sliceAdjust lo hi 1 (n : Int) = (((sIx n 0 lo : Nat) : Int), ((sIx n n hi : Nat) : Int)) := by
  have h1 : ¬ ((1 : Int) < 0) := by omega
  unfold Builtin.Slice.sliceAdjust
  simp only [h1, if_false]
  refine Prod.ext ?_ ?_
  · cases lo with
    | none => rfl
    | some v => exact clip_eq v n 0
  · cases hi with
    | none => rfl
    | some v => exact clip_eq v n n
theorem places_gen (i j : Nat) : Builtin.Slice.slicePlaces (i : Int) (j : Int) 1 = j - i := by
  unfold Builtin.Slice.slicePlaces
  have h1 : (1 : Int) > 0 := by omega
  simp only [h1, if_true, Int.ediv_one]
  split <;> omega
theorem slicePart_ {v : Value} {o : Option Int} {Q : Option Int → Shared → Prop} (p : IsPart v o) (h : Q o s) : wpAny (model prog w) A (Builtin.Slice.slicePartIndex v) Q E s := by
  cases p with
  | none => exact slicePart_none h
  | int i t => exact slicePart_int h
theorem sliceApplied_gen {sl : Addr} {vl vu : Value} {lo hi : Option Int} {n : Nat} {Q : Int × Int × Nat → Shared → Prop} (hs : s.heap.IsSliceOf sl vl vu .none) (pl : IsPart vl lo) (pu : IsPart vu hi)
    (h : Q (((sIx n 0 lo : Nat) : Int), 1, sIx n n hi - sIx n 0 lo) s) : wpAny (model prog w) A (Builtin.Slice.sliceApplied (.ref sl) (pure (n : Int))) Q E s := by
  obtain ⟨os, hos, hcs, hds⟩ := id hs
  unfold Builtin.Slice.sliceApplied Builtin.Slice.sliceFields
  refine wpAny_bind (wpAny_bind (wpAny_field hos hds (x := vl) rfl (wpAny_bind (wpAny_field hos hds (x := vu) rfl (wpAny_bind (wpAny_field hos hds (x := .none) rfl (wpAny_pure ?_)))))))
  refine wpAny_bind (slicePart_none ?_)
  show wpAny _ _ (if ((1 : Int) == 0) = true then _ else _) _ _ s
  rw [if_neg (by decide)]
  refine wpAny_bind (slicePart_ pl (wpAny_bind (slicePart_ pu (wpAny_bind (wpAny_pure ?_)))))
  show wpAny _ _ (match Builtin.Slice.sliceAdjust lo hi 1 (n : Int) with | (lo, hi) => pure (lo, (1 : Int), Builtin.Slice.slicePlaces lo hi 1)) _ _ s
  rw [adjust_gen lo hi n]
  show wpAny _ _ (pure (((sIx n 0 lo : Nat) : Int), (1 : Int), Builtin.Slice.slicePlaces ((sIx n 0 lo : Nat) : Int) ((sIx n n hi : Nat) : Int) 1)) _ _ s
  rw [places_gen]
  exact wpAny_pure h
theorem pick_gen (xs : Array Value) (i k : Nat) : ((List.range k).filterMap fun (m : Nat) => xs[((i : Int) + (m : Int) * 1).toNat]?).toArray = ((xs.toList.drop i).take k).toArray := by
  have e : (fun (m : Nat) => xs[((i : Int) + (m : Int) * 1).toNat]?) = fun m => xs[i + m]? := by
    funext m
    have : ((i : Int) + (m : Int) * 1).toNat = i + m := by omega
    rw [this]
  rw [e]
  have := pick_run xs i k
  rw [List.filterMap_map] at this
  have e2 : ((fun x => xs[x]?) ∘ fun x => i + x) = fun m => xs[i + m]? := rfl
  rw [e2] at this
  rw [this]
theorem getItem_tuple_cut {t sl : Addr} {items : Array Value} {vl vu : Value} {lo hi : Option Int} {Q : Value → Shared → Prop} (ht : IsTup s.heap t items) (hs : s.heap.IsSliceOf sl vl vu .none) (pl : IsPart vl lo) (pu : IsPart vu hi)
    (hw : ¬ (sIx items.size 0 lo = 0 ∧ sIx items.size items.size hi = items.size))
    (h : Q (.ref s.heap.objs.size) { s with heap := s.heap.push { cls := .type "tuple", data := .seq ((items.toList.drop (sIx items.size 0 lo)).take (sIx items.size items.size hi - sIx items.size 0 lo)).toArray } })
    (hsz : items.size ≤ sizeLine) : wpAny (model prog w) A (getItem (.ref t) (.ref sl)) Q E s := by
  have htake : sizeOk (.seq ((items.toList.drop (sIx items.size 0 lo)).take (sIx items.size items.size hi - sIx items.size 0 lo)).toArray) := by
    show ((items.toList.drop (sIx items.size 0 lo)).take (sIx items.size items.size hi - sIx items.size 0 lo)).toArray.size ≤ sizeLine
    rw [List.size_toArray, List.length_take, List.length_drop, Array.length_toList]
    omega
  have hj : sIx items.size items.size hi ≤ items.size := sIx_le _ _ (Nat.le_refl _) hi
  obtain ⟨os, hos, hcs, hds⟩ := id hs
  have hTs : s.TypeIs (.ref sl) "slice" := ⟨os, hos, hcs⟩
  unfold getItem
  try with_reducible refine wpAny_holding ?_
  first | refine wpAny_bind (wpAny_pure ?_) | skip
  refine wpAny_bind (wpAny_sequenceKey ht.typeIs (by decide) ?_)
  refine wpAny_bind (wpAny_callSpecial?_slot (name := Str.ofString "__getitem__") ht.typeIs PyProof.Rows.slot_tuple_getitem
    (wpAny_call_entry PyProof.Rows.slot_tuple_getitem ht.typeIs entry_tuple_getitem ?_ (args_tuple_getitem _ _)))
  show wpAny _ _ (Builtin.Tuple.tupleItemsOf (.ref t) >>= _) _ _ s
  refine wpAny_bind (tupleItemsOf_ ht ?_)
  refine wpAny_bind (wpAny_typeOf hTs ?_)
  rw [if_pos (by decide)]
  refine wpAny_bind (sliceApplied_gen hs pl pu ?_)
  have hno : ¬ ((((sIx items.size 0 lo : Nat) : Int) == 0 && (1 : Int) == 1 && (sIx items.size items.size hi - sIx items.size 0 lo) == items.size) = true) := by
    intro q
    rw [Bool.and_eq_true, Bool.and_eq_true] at q
    have q1 : ((sIx items.size 0 lo : Nat) : Int) = 0 := eq_of_beq q.1.1
    have q2 : sIx items.size items.size hi - sIx items.size 0 lo = items.size := eq_of_beq q.2
    exact hw ⟨by omega, by omega⟩
  show wpAny _ _ (if (((sIx items.size 0 lo : Nat) : Int) == 0 && (1 : Int) == 1 && (sIx items.size items.size hi - sIx items.size 0 lo) == items.size) = true then _ else _) _ _ s
  rw [if_neg hno, pick_gen]
  first
    | exact wpAny_bind (m := Builtin.Tuple.tupleExact _) (wpAny_newObj_type (wpAny_pure ⟨_, rfl, wpAny_pure h⟩) htake)
    | exact wpAny_bind (m := Builtin.Tuple.tupleExact _) (wpAny_newObj_type (wpAny_bind (wpAny_pure (wpAny_pure ⟨_, rfl, wpAny_pure h⟩))) htake)
    | exact wpAny_bind (wpAny_bind (m := Builtin.Tuple.tupleExact _) (wpAny_newObj_type (wpAny_pure (wpAny_pure ⟨_, rfl, wpAny_pure h⟩)) htake))
    | exact wpAny_bind (wpAny_bind (m := Builtin.Tuple.tupleExact _) (wpAny_newObj_type (wpAny_pure ⟨_, rfl, wpAny_pure h⟩) htake))
end
end HT
namespace L2
open PySem PySem.Spec PyProof.Rows
abbrev TO := St → Hp → (Option Int → Hp → Prop) → Prop
def PO (X : Cx) (e : Option Expr) (t : TO) : Prop :=
  ∀ (pins : List (Addr × Obj)) (s : Shared) (σ : St) (H : Hp) (Q : Option Int → Hp → Prop), Inv X pins σ H s → t σ H Q →
    wpAny (model X.prog X.w) X.A (evalPart e X.env) (fun u s' => ∃ o H', Inv X pins σ H' s' ∧ IsPart u o ∧ Q o H') X.xe s
def tNoPart : TO := fun _ H Q => Q none H
def tPart (t : TE) : TO := fun σ H Q => t σ H fun x H1 => ∃ i, x = .int i ∧ Q (some i) H1
section
variable {X : Cx} {e : Expr} {te : TE} {lo hi : Option Expr} {tl th : TO} {pos p2 : Pos}
theorem po_none : PO X none tNoPart := by
  intro pins s σ H Q I h
  rw [evalPart_none]
  exact wpAny_pure ⟨none, H, I, .none, h⟩
theorem po_some (h : PE X e te) : PO X (some e) (tPart te) := by
  intro pins s σ H Q I hw
  rw [evalPart_some]
  refine thn (h pins s σ H _ I hw) fun u s1 ⟨x, H1, I1, r1, q1⟩ => ?_
  obtain ⟨i, rfl, q⟩ := q1
  obtain ⟨t, rfl⟩ := r1
  exact ⟨some i, H1, I1, .int i t, q⟩
def SlR (X : Cx) (r : V → Option Int → Option Int → Hp → VK → Prop) : Prop :=
  ∀ (pins : List (Addr × Obj)) (s : Shared) (σ : St) (H : Hp) (x : V) (v vl vu : Value) (lo hi : Option Int) (sl : Addr) (Q : VK), Inv X pins σ H s → RelV x v → s.heap.IsSliceOf sl vl vu .none → IsPart vl lo → IsPart vu hi → r x lo hi H Q →
    ∃ T id, typeLookup (.type T) "__getitem__" = pure (some (.builtin id)) ∧ s.TypeIs v T ∧ wpAny (model X.prog X.w) X.A (getItem v (.ref sl)) (EP X pins σ Q) X.xe s
def tSl (r : V → Option Int → Option Int → Hp → VK → Prop) (te : TE) (tl th : TO) : TE := fun σ H Q => te σ H fun x H1 => tl σ H1 fun l H2 => th σ H2 fun u H3 => r x l u H3 Q
theorem pe_slice {r : V → Option Int → Option Int → Hp → VK → Prop} (hr : SlR X r) (he : PE X e te) (hl : PO X lo tl) (hu : PO X hi th) : PE X (.Subscript e (.Slice lo hi none p2) pos) (tSl r te tl th) := by
  intro pins s σ H Q I h
  refine Subscript_ (thn (he pins s σ H _ I h) fun v s1 ⟨x, H1, I1, r1, q1⟩ => ?_)
  refine wpAny_Slice (thn (hl pins s1 σ H1 _ I1 q1) fun vl s2 ⟨l, H2, I2, pl, q2⟩ => thn (hu pins s2 σ H2 _ I2 q2) fun vu s3 ⟨u, H3, I3, pu, q3⟩ => ?_)
  rw [evalPart_none]
  refine wpAny_pure ?_
  have I4 : Inv X pins σ H3 { s3 with heap := s3.heap.push { cls := .type "slice", data := .fields #[vl, vu, .none] } } := I3.kept (t' := s3.toks) fun b ob q => Heap.get?_push_of_some _ q
  obtain ⟨T, id, hT, ht, hg⟩ := hr pins { s3 with heap := s3.heap.push { cls := .type "slice", data := .fields #[vl, vu, .none] } } σ H3 x v vl vu l u s3.heap.objs.size Q I4 r1 (Heap.IsSliceOf.new ..) pl pu q3
  show wpAny (model X.prog X.w) X.A (subscriptTail e (.Slice lo hi none p2) v (.ref s3.heap.objs.size)) (EP X pins σ Q) X.xe { s3 with heap := s3.heap.push { cls := .type "slice", data := .fields #[vl, vu, .none] } }
  exact tail_any (ops := [.ref s3.heap.objs.size, v]) ht hT hg (by with_unfolding_all rfl)
def cutV (xs : List V) (lo hi : Option Int) : List V := (xs.drop (HT.sIx xs.length 0 lo)).take (HT.sIx xs.length xs.length hi - HT.sIx xs.length 0 lo)
theorem cutV_length (xs : List V) (lo hi : Option Int) : (cutV xs lo hi).length ≤ xs.length := by
  unfold cutV
  rw [List.length_take, List.length_drop]
  omega
def rSlT (K : PySem.W.Frag) : V → Option Int → Option Int → Hp → VK → Prop := fun x lo hi H Q => ∃ a xs, x = .ref a ∧ SqT K H a xs ∧
  ¬ (HT.sIx xs.length 0 lo = 0 ∧ HT.sIx xs.length xs.length hi = xs.length) ∧ ∀ p, H p = none → Q (.ref p) (upd H p (.tup (cutV xs lo hi)))
theorem sl_tup : SlR X (rSlT X.K) := by
  intro pins s σ H x v vl vu lo hi sl Q I rx hs pl pu h
  obtain ⟨a, xs, rfl, hx, hw, q⟩ := h
  cases rx
  obtain ⟨its, r, ht, hz⟩ := I.tuple hx
  have hlen : its.toArray.size = xs.length := by rw [List.size_toArray]; exact r.length.symm
  refine ⟨"tuple", _, PyProof.Rows.slot_tuple_getitem.lookup, ht.typeIs, ?_⟩
  refine HT.getItem_tuple_cut ht hs pl pu (by rw [hlen]; exact hw) ?_ (by rw [hlen]; exact hz)
  rw [hlen]
  refine ⟨.ref s.heap.objs.size, _, I.laid (t' := s.toks) (o := .tup (cutV xs lo hi)) (fun b ob q => Heap.get?_push_of_some _ q) (Nat.le_refl _) ?_, rfl, q _ (I.hok.fresh (Nat.le_refl _))⟩
  exact ⟨Nat.le_trans (cutV_length xs lo hi) hz, _, (r.drop (HT.sIx xs.length 0 lo)).take (HT.sIx xs.length xs.length hi - HT.sIx xs.length 0 lo), IsTupN.new _ _⟩
def rCatT (K : PySem.W.Frag) : R2 := fun x y H Q => ∃ a b xs ys, x = .ref a ∧ y = .ref b ∧ SqT K H a xs ∧ SqT K H b ys ∧ xs ≠ [] ∧ xs.length + ys.length ≤ sizeLine ∧
  (ys = [] → Q (.ref a) H) ∧ (ys ≠ [] → ∀ p, H p = none → Q (.ref p) (upd H p (.tup (xs ++ ys))))
theorem Vals.nil_iff {xs : List V} {us : List Value} (r : Vals xs us) : us = [] ↔ xs = [] := by
  cases r with
  | nil => simp
  | cons _ _ => simp
theorem op_catT : OpR X (binaryOp .Add) (rCatT X.K) := by
  intro pins s σ H x y v u Q I rx ry h
  obtain ⟨a, b, xs, ys, rfl, rfl, ha, hb, hx, hz, q1, q2⟩ := h
  cases rx
  cases ry
  obtain ⟨its, r1, p1, _⟩ := I.tuple ha
  obtain ⟨its2, r2, p2, _⟩ := I.tuple hb
  refine HT.cat_tup p1 p2 (fun z => hx (r1.nil_iff.mp z)) (fun z => ⟨.ref a, H, I, rfl, q1 (r2.nil_iff.mp z)⟩) (fun z => ?_) (by rw [← r1.length, ← r2.length]; exact hz)
  refine ⟨.ref s.heap.objs.size, _, I.laid (t' := s.toks) (o := .tup (xs ++ ys)) (fun b ob q => Heap.get?_push_of_some _ q) (Nat.le_refl _) ?_, rfl, q2 (fun w => z (r2.nil_iff.mpr w)) _ (I.hok.fresh (Nat.le_refl _))⟩
  exact ⟨by rw [List.length_append]; exact hz, _, r1.append r2, IsTupN.new _ _⟩
end
end L2
namespace L2
open PySem PySem.Spec PyProof.Rows
def ixN (n : Nat) (i : Int) : Option Nat := if 0 ≤ i then (if i < n then some i.toNat else none) else if -(n : Int) ≤ i then some (i + n).toNat else none
def atI {α : Type} (xs : List α) (i : Int) : Option α := (ixN xs.length i).bind fun j => xs[j]?
theorem ixN_seq {n : Nat} {i : Int} {j : Nat} (h : ixN n i = some j) : seqIndex? i n = some j ∧ j < n ∧ -(n : Int) ≤ i ∧ i < n := by
  unfold ixN at h
  by_cases h0 : 0 ≤ i
  · rw [if_pos h0] at h
    by_cases h1 : i < n
    · rw [if_pos h1] at h
      have e : i.toNat = j := Option.some.inj h
      exact ⟨by rw [seqIndex_of h0 h1, e], by omega, by omega, h1⟩
    · rw [if_neg h1] at h; cases h
  · rw [if_neg h0] at h
    by_cases h1 : -(n : Int) ≤ i
    · rw [if_pos h1] at h
      have e : (i + n).toNat = j := Option.some.inj h
      exact ⟨by rw [seqIndex_neg (by omega) h1, e], by omega, h1, by omega⟩
    · rw [if_neg h1] at h; cases h
theorem atI_get {α : Type} {xs : List α} {i : Int} {v : α} (h : atI xs i = some v) : ∃ j, seqIndex? i xs.length = some j ∧ xs[j]? = some v ∧ j < xs.length ∧ -(xs.length : Int) ≤ i ∧ i < xs.length := by
  unfold atI at h
  cases e : ixN xs.length i with
  | none => rw [e] at h; cases h
  | some j =>
    rw [e] at h
    obtain ⟨h1, h2, h3, h4⟩ := ixN_seq e
    exact ⟨j, h1, h, h2, h3, h4⟩
theorem atI_nat {α : Type} {xs : List α} {j : Nat} {v : α} (h : xs[j]? = some v) : atI xs (j : Int) = some v := by
  have hj : j < xs.length := (List.getElem?_eq_some_iff.mp h).1
  have e : ixN xs.length (j : Int) = some j := by
    unfold ixN
    rw [if_pos (by omega), if_pos (by omega)]; simp
  unfold atI; rw [e]; exact h
def PlainIx (b : Expr) : Prop := ∀ o i, subscripted b false o i = operate [o, i] (getItem o i)
def IxR (X : Cx) (r : R2) : Prop :=
  ∀ (value slice : Expr) (pins : List (Addr × Obj)) (s : Shared) (σ : St) (H : Hp) (x y : V) (v u : Value) (Q : VK), Inv X pins σ H s → RelV x v → RelV y u → r x y H Q →
    subscripted slice false v u = operate [v, u] (getItem v u) → wpAny (model X.prog X.w) X.A (subscriptTail value slice v u) (EP X pins σ Q) X.xe s
def MtR (X : Cx) (id : String) (r : V → List V → Hp → VK → Prop) : Prop :=
  ∀ (pins : List (Addr × Obj)) (s : Shared) (σ : St) (H : Hp) (x : V) (xs : List V) (v : Value) (us : List Value) (Q : VK), Inv X pins σ H s → RelV x v → Vals xs us → r x xs H Q →
    wpAny (model X.prog X.w) X.A (call (.builtin id) (v :: us)) (EP X pins σ Q) X.xe s
section
variable {X : Cx} {a b : Expr} {ta tb : TE} {pos : Pos}
theorem IxR.or {r r' : R2} (h : IxR X r) (h' : IxR X r') : IxR X (fun x y H Q => r x y H Q ∨ r' x y H Q) := by
  intro value slice pins s σ H x y v u Q I rx ry q hs
  rcases q with q | q
  · exact h value slice pins s σ H x y v u Q I rx ry q hs
  · exact h' value slice pins s σ H x y v u Q I rx ry q hs
theorem pe_ix {r : R2} (hr : IxR X r) (ha : PE X a ta) (hb : PE X b tb) (hs : PlainIx b) : PE X (.Subscript a b pos) (tOp r ta tb) := by
  intro pins s σ H Q I h
  exact Subscript_ (binT ha hb I h fun v u s2 x y H2 I2 rx ry q => hr a b pins s2 σ H2 x y v u Q I2 rx ry q (hs _ _))
def rIxL (K : PySem.W.Frag) : R2 := fun x y H Q => ∃ p xs i v, x = .ref p ∧ y = .int i ∧ SqL K H p xs ∧ atI xs i = some v ∧ Q v H
def rIxT (K : PySem.W.Frag) : R2 := fun x y H Q => ∃ p xs i v, x = .ref p ∧ y = .int i ∧ SqT K H p xs ∧ atI xs i = some v ∧ Q v H
def rIxS : R2 := fun x y H Q => ∃ z i c, x = .str z ∧ y = .int i ∧ z.length ≤ sizeLine ∧ atI z.cps.toList i = some c ∧ Q (.str ⟨#[c]⟩) H
theorem ix_list : IxR X (rIxL X.K) := by
  intro value slice pins s σ H x y v u Q I rx ry h hs
  obtain ⟨p, xs, i, z, rfl, rfl, hq, he, q⟩ := h
  cases rx
  obtain ⟨t, rfl⟩ := ry
  obtain ⟨its, r, pl, hz⟩ := I.list hq
  obtain ⟨j, h1, h2, h3, h4, h5⟩ := atI_get he
  obtain ⟨w, ew, rw'⟩ := r.get h2
  have hl := r.length
  have hn := line63
  have fin : EP X pins σ Q w s := ⟨z, H, I, rw', q⟩
  by_cases h0 : 0 ≤ i
  · have hj : i.toNat = j := by
      rw [seqIndex_of h0 h5] at h1
      exact Option.some.inj h1
    exact item_listR pl.isList h0 (by omega) (by rw [hj]; simpa using ew) fin hs
  · have hj : (i + (its.toArray.size : Int)).toNat = j := by
      rw [seqIndex_neg (by omega) h4] at h1
      rw [List.size_toArray, ← hl]
      exact Option.some.inj h1
    exact subscriptTail_builtinR (x := w) pl.isList.typeIs slot_list_getitem.lookup
      (wpAny_getItem_list_neg (Q := fun r s' => r = w ∧ EP X pins σ Q r s') pl.isList (by omega) (by rw [List.size_toArray] <;> omega) (by omega) (by rw [hj]; simpa using ew) ⟨rfl, fin⟩) hs
theorem ix_tup : IxR X (rIxT X.K) := by
  intro value slice pins s σ H x y v u Q I rx ry h hs
  obtain ⟨p, xs, i, z, rfl, rfl, hq, he, q⟩ := h
  cases rx
  obtain ⟨t, rfl⟩ := ry
  obtain ⟨its, r, pl, hz⟩ := I.tuple hq
  obtain ⟨j, h1, h2, h3, h4, h5⟩ := atI_get he
  obtain ⟨w, ew, rw'⟩ := r.get h2
  have hl := r.length
  have hn := line63
  have fin : EP X pins σ Q w s := ⟨z, H, I, rw', q⟩
  exact subscriptTail_builtinR (x := w) pl.typeIs slot_tuple_getitem.lookup
    (getItem_tuple (j := j) (Q := fun r s' => r = w ∧ EP X pins σ Q r s') pl (by omega) (by omega) (by rw [List.size_toArray, ← hl]; exact h1) (by simpa using ew) ⟨rfl, fin⟩) hs
theorem ix_str : IxR X rIxS := by
  intro value slice pins s σ H x y v u Q I rx ry h hs
  obtain ⟨z, i, c, rfl, rfl, hz, he, q⟩ := h
  obtain ⟨t, rfl⟩ := rx
  obtain ⟨t', rfl⟩ := ry
  obtain ⟨j, h1, h2, h3, h4, h5⟩ := atI_get he
  have hl : z.cps.toList.length = z.length := by simp [Str.length]
  rw [hl] at h1 h4 h5
  have hn := line63
  exact tail_any (typeIs_str s z t) slot_str_getitem.lookup (getItem_str (c := c) (by
    have e1 : decide (i < -(2 ^ 63 : Int)) = false := decide_eq_false (by omega)
    have e2 : decide (i ≥ 2 ^ 63) = false := decide_eq_false (by omega)
    rw [e1, e2, Bool.or_false]) (by rw [h1]; simpa using h2) ⟨.str ⟨#[c]⟩, H, I.tok _, ⟨_, rfl⟩, q⟩) hs
def rIx (K : PySem.W.Frag) : R2 := fun x y H Q => rIxL K x y H Q ∨ rIxT K x y H Q ∨ rIxS x y H Q
theorem ix_seq : IxR X (rIx X.K) := ix_list.or (ix_tup.or ix_str)
theorem mapSeq_set (its : List Value) (n j : Nat) (u : Value) : Obj.mapSeq (·.setIfInBounds j u) { cls := .type "list", data := .seq its.toArray n } = { cls := .type "list", data := .seq (its.set j u).toArray n } := by
  simp [Obj.mapSeq]
theorem Inv.lst {pins : List (Addr × Obj)} {σ : St} {H : Hp} {s : Shared} {p : Addr} {xs : List V} (I : Inv X pins σ H s) (h : H p = some (.lst xs)) :
    ∃ (its : List Value) (n : Nat), Vals xs its ∧ s.heap.get? p = some { cls := .type "list", data := .seq its.toArray n } ∧ xs.length ≤ sizeLine := by
  obtain ⟨z, its, n, r, e⟩ := I.hok p _ h
  exact ⟨its, n, r, e, z⟩
theorem Inv.lstUpd {pins : List (Addr × Obj)} {σ : St} {H : Hp} {s : Shared} {p : Addr} {xs ys : List V} {its its' : List Value} {n n' : Nat} {f : Obj → Obj} (I : Inv X pins σ H s) (h : H p = some (.lst xs))
    (ho : s.heap.get? p = some { cls := .type "list", data := .seq its.toArray n }) (hf : f { cls := .type "list", data := .seq its.toArray n } = { cls := .type "list", data := .seq its'.toArray n' }) (r : Vals ys its') (hz : ys.length ≤ sizeLine) (t : Nat) :
    Inv X pins σ (upd H p (.lst ys)) { s with heap := s.heap.update p f, toks := t } := by
  have e : (s.heap.update p f).get? p = some { cls := .type "list", data := .seq its'.toArray n' } := by
    rw [Heap.get?_update_self f ho (by rw [hf] <;> rfl), hf]
  refine I.write (x := p) (e := p) (by rw [h]; trivial) (.inl rfl) (fun b u hb q => (Heap.get?_update_other _ _ (Ne.symm hb)).trans q) ⟨_, e⟩ ?_
  exact ⟨hz, its', n', r, e⟩
def rSetL : V → V → V → Hp → (Hp → Prop) → Prop := fun o i v H Q => ∃ p xs k j, o = .ref p ∧ i = .int k ∧ H p = some (.lst xs) ∧ ixN xs.length k = some j ∧ Q (upd H p (.lst (xs.set j v)))
theorem set_list : PSet X rSetL := by
  intro pins s σ H o i v ov iv u Q I ro ri rv h
  obtain ⟨p, xs, k, j, rfl, rfl, hp, hj, q⟩ := h
  cases ro
  obtain ⟨t, rfl⟩ := ri
  obtain ⟨its, n, r, ho, hz⟩ := I.lst hp
  obtain ⟨h1, h2, h3, h4⟩ := ixN_seq hj
  have hl := r.length
  have hn := line63
  have I' : Inv X pins σ (upd H p (.lst (xs.set j v))) { s with heap := s.heap.update p (Obj.mapSeq (·.setIfInBounds j u)) } :=
    I.lstUpd hp ho (mapSeq_set its n j u) (r.set rv j) (by rw [List.length_set]; exact hz) s.toks
  by_cases h0 : 0 ≤ k
  · have hk : k.toNat = j := by
      rw [seqIndex_of h0 h4] at h1
      exact Option.some.inj h1
    exact PySem.W.ki_setAt ho h0 (by omega) (by rw [List.size_toArray, ← hl]; exact h4) (by rw [hk]; exact ⟨_, I', q⟩)
  · have hk : (k + (its.toArray.size : Int)).toNat = j := by
      rw [seqIndex_neg (by omega) h3] at h1
      rw [List.size_toArray, ← hl]
      exact Option.some.inj h1
    exact PySem.W.ki_setBack ho (by omega) (by rw [List.size_toArray, ← hl]; exact h3) (by omega) (by rw [hk]; exact ⟨_, I', q⟩)
theorem slice_bounds (lo hi : Option Int) (n : Nat) : (sliceBounds lo hi none n).1 = ((HT.sIx n 0 lo : Nat) : Int) ∧ (sliceBounds lo hi none n).2.1 = ((HT.sIx n n hi : Nat) : Int) ∧ (sliceBounds lo hi none n).2.2 = 1 := by
  refine ⟨?_, ?_, rfl⟩
  · cases lo with
    | none => simp [sliceBounds, HT.sIx]
    | some i =>
      simp only [sliceBounds, HT.sIx, Option.getD_none, show (1 : Int) > 0 by decide, if_true]
      by_cases h : i < 0
      · simp only [h, if_true] <;> omega
      · simp only [h, if_false] <;> omega
  · cases hi with
    | none => simp [sliceBounds, HT.sIx]
    | some i =>
      simp only [sliceBounds, HT.sIx, Option.getD_none, show (1 : Int) > 0 by decide, if_true]
      by_cases h : i < 0
      · simp only [h, if_true] <;> omega
      · simp only [h, if_false] <;> omega
theorem slicePick_cut (its : List Value) (lo hi : Option Int) : slicePick its.toArray lo hi none = ((its.drop (HT.sIx its.length 0 lo)).take (HT.sIx its.length its.length hi - HT.sIx its.length 0 lo)).toArray := by
  obtain ⟨h1, h2, h3⟩ := slice_bounds lo hi its.toArray.size
  unfold slicePick
  rw [h1, h2, h3]
  simp only [sliceRange_one, pick_run, List.size_toArray] <;> rfl
def rSlL (K : PySem.W.Frag) : V → Option Int → Option Int → Hp → VK → Prop := fun x lo hi H Q => ∃ a xs, x = .ref a ∧ SqL K H a xs ∧ ∀ p, H p = none → Q (.ref p) (upd H p (.lst (cutV xs lo hi)))
theorem sl_list : SlR X (rSlL X.K) := by
  intro pins s σ H x v vl vu lo hi sl Q I rx hs pl pu h
  obtain ⟨a, xs, rfl, hx, q⟩ := h
  cases rx
  obtain ⟨its, r, ht, hz⟩ := I.list hx
  have hlen := r.length
  refine ⟨"list", _, slot_list_getitem.lookup, ht.isList.typeIs, ?_⟩
  refine wpAny_getItem_list_slice ht.isList hs pl pu .none (by simp) ?_ (by rw [List.size_toArray] <;> omega)
  rw [slicePick_cut, ← hlen]
  refine ⟨.ref s.heap.objs.size, _, I.laid (t' := s.toks) (o := .lst (cutV xs lo hi)) (fun b ob q => Heap.get?_push_of_some _ q) (Nat.le_refl _) ?_, rfl, q _ (I.hok.fresh (Nat.le_refl _))⟩
  exact ⟨Nat.le_trans (cutV_length xs lo hi) hz, _, 0, (r.drop (HT.sIx xs.length 0 lo)).take (HT.sIx xs.length xs.length hi - HT.sIx xs.length 0 lo), Heap.get?_push_size _ rfl⟩
def flatV : V → Bool
  | .non => true
  | .bl _ => true
  | .int _ => true
  | .str _ => true
  | _ => false
def eqV : V → V → Bool
  | .non, .non => true
  | .bl a, .bl b => a == b
  | .bl a, .int b => (if a then 1 else 0) == b
  | .int a, .bl b => a == (if b then 1 else 0)
  | .int a, .int b => a == b
  | .str a, .str b => a == b
  | _, _ => false
def inV (x : V) (xs : List V) : Bool := xs.any fun y => eqV y x
theorem call_len_seq : CallR X (.builtin "len") (fun xs H Q => ∃ p ys, xs = [.ref p] ∧ (SqL X.K H p ys ∨ SqT X.K H p ys) ∧ Q (.int ys.length) H) := by
  intro pins s σ H xs us Q I r h
  obtain ⟨p, ys, rfl, hq, q⟩ := h
  obtain ⟨u, rfl, rx⟩ := vals1 r
  cases rx
  have hn := line63
  rcases hq with hq | hq
  · obtain ⟨its, r', pl, hz⟩ := I.list hq
    have hlen := r'.length
    exact Calls.call_len_list pl.isList (by simp only [List.size_toArray] <;> omega) ⟨.int ys.length, H, I.tok _, ⟨s.toks + 1, by rw [List.size_toArray, hlen]⟩, q⟩
  · obtain ⟨its, r', pl, hz⟩ := I.tuple hq
    have hlen := r'.length
    exact len_tuple pl (by simp only [List.size_toArray] <;> omega) ⟨.int ys.length, H, I.tok _, ⟨s.toks + 1, by rw [List.size_toArray, hlen]⟩, q⟩
def tyV (K : PySem.W.Frag) (T : String) (x : V) (H : Hp) : Prop := match x with
  | .str _ => T = "str"
  | .int _ => T = "int"
  | .ref p => (T = "list" ∧ ∃ xs, SqL K H p xs) ∨ (T = "tuple" ∧ ∃ o, K.lookup p = some o ∧ o.cls = .type "tuple" ∧ o.dict = none) ∨
      (T = "dict" ∧ ((∃ kvs, H p = some (.dK kvs)) ∨ ∃ kvs, H p = some (.dT kvs))) ∨ (T = "set" ∧ ∃ S n, H p = some (.set S n))
  | _ => False
theorem tyV_is {pins : List (Addr × Obj)} {σ : St} {H : Hp} {s : Shared} {T : String} {x : V} {v : Value} (I : Inv X pins σ H s) (r : RelV x v) (ty : tyV X.K T x H) :
    s.TypeIs v T ∧ ∀ a, v = .ref a → ∃ ob, s.heap.get? a = some ob ∧ ob.dict = none := by
  cases x with
  | str z =>
    obtain ⟨t, rfl⟩ := r
    cases (show T = "str" from ty)
    exact ⟨typeIs_str s z t, fun _ e => nomatch e⟩
  | int i =>
    obtain ⟨t, rfl⟩ := r
    cases (show T = "int" from ty)
    exact ⟨typeIs_int s i t, fun _ e => nomatch e⟩
  | ref p =>
    cases r
    rcases ty with ⟨rfl, xs, hq⟩ | ⟨rfl, o, hk, hc, hd⟩ | ⟨rfl, hk⟩ | ⟨rfl, S, n, hk⟩
    · obtain ⟨its, _, pl, _⟩ := I.list hq
      refine ⟨pl.isList.typeIs, fun a e => ?_⟩
      cases e
      obtain ⟨o, n, e, c, hd, _⟩ := pl
      exact ⟨o, e, hd⟩
    · refine ⟨⟨o, I.kIn p o hk, hc⟩, fun a e => ?_⟩
      cases e
      exact ⟨o, I.kIn _ o hk, hd⟩
    · have z : ∃ o, s.heap.get? p = some o ∧ o.ExactDict := by
        rcases hk with ⟨kvs, hk⟩ | ⟨kvs, hk⟩
        · obtain ⟨_, _, _, _, o, _, _, e, ex, _⟩ := I.hok p _ hk
          exact ⟨o, e, ex⟩
        · obtain ⟨_, _, _, _, o, _, _, e, ex, _⟩ := I.hok p _ hk
          exact ⟨o, e, ex⟩
      obtain ⟨o, e, ex⟩ := z
      refine ⟨⟨o, e, ex.1⟩, fun a e2 => ?_⟩
      cases e2
      exact ⟨o, e, ex.2.1⟩
    · obtain ⟨o, _, _, _, e, ex, _⟩ := I.hok p _ hk
      refine ⟨⟨o, e, ex.1⟩, fun a e2 => ?_⟩
      cases e2
      exact ⟨o, e, ex.2.1⟩
  | _ => exact False.elim ty
def tBM0 (K : PySem.W.Frag) (T : String) (r : V → List V → Hp → VK → Prop) (to : TE) : TE := fun σ H Q => to σ H fun x H1 => tyV K T x H1 ∧ r x [] H1 Q
def tBM (K : PySem.W.Frag) (T : String) (r : V → List V → Hp → VK → Prop) (to : TE) (t : TA) : TE := fun σ H Q => to σ H fun x H1 => tyV K T x H1 ∧ t σ H1 fun xs H2 => r x xs H2 Q
variable {o e : Expr} {es : List Expr} {to : TE} {t : TA} {name : Str} {apos cpos : Pos} {T id : String} {r : V → List V → Hp → VK → Prop}
theorem pe_bm0 (pa : PlainAttrs T) (slot : Slot T name id) (hty : typeOf (.builtin id) = pure (.type "method_descriptor")) (hm : MtR X id r) (ho : PE X o to)
    (hbase : attributeBase o name X.env (eval o X.env) = eval o X.env := by rfl) (hline : (apos.endLine == cpos.line) = true := by rfl) : PE X (.Call (.Attribute o name apos) [] [] cpos) (tBM0 X.K T r to) := by
  intro pins s σ H Q I h
  refine wpAny_Call_method0_late hbase hline (thn (ho pins s σ H _ I h) fun v s1 ⟨x, H1, I1, r1, ty, q1⟩ => ?_)
  obtain ⟨h1, h2⟩ := tyV_is I1 r1 ty
  exact ⟨T, id, pa, slot, hty, h1, h2, Calls.callWith_builtin rfl (PySem.evalArgs_none (hm pins s1 σ H1 x [] v [] Q I1 r1 .nil q1))⟩
theorem pe_bm (pa : PlainAttrs T) (slot : Slot T name id) (hty : typeOf (.builtin id) = pure (.type "method_descriptor")) (hm : MtR X id r) (ho : PE X o to) (ha : PA X (e :: es) t)
    (hbase : attributeBase o name X.env (eval o X.env) = eval o X.env := by rfl)
    (hfew : ((backTo cpos (starEach (e :: es) X.env)).all (fun x => !x.1) && (backToKw cpos (keywordEach [] X.env)).all (fun x => x.1.isSome)
      && decide ((e :: es).length + ([] : List Keyword).length + (if ([] : List Keyword).isEmpty then 0 else 1) < 30)) = true := by rfl)
    (hline : (apos.endLine == cpos.line) = true := by rfl) (hs : starEach (e :: es) X.env = (false, eval e X.env) :: starEach es X.env := by rfl) (hplain : (backTo cpos (starEach es X.env)).any (·.1) = false := by rfl) :
    PE X (.Call (.Attribute o name apos) (e :: es) [] cpos) (tBM X.K T r to t) := by
  intro pins s σ H Q I h
  refine wpAny_Call_method_late hbase hfew hline rfl (thn (ho pins s σ H _ I h) fun v s1 ⟨x, H1, I1, r1, ty, q1⟩ => ?_)
  obtain ⟨h1, h2⟩ := tyV_is I1 r1 ty
  refine ⟨T, id, pa, slot, hty, h1, h2, ?_⟩
  have hA := ha cpos pins s1 σ H1 _ I1 q1
  rw [hs] at hA ⊢
  refine Calls.callWith_builtin (by show (false || (backTo cpos (starEach es X.env)).any (·.1)) = false; rw [hplain] <;> rfl) (Calls.evalArgs_plain ?_)
  exact thn hA fun us s2 ⟨vs, H2, I2, r2, q2⟩ => hm pins s2 σ H2 x vs v us Q I2 r1 r2 q2
end
end L2
namespace L2
open PySem PySem.Spec PyProof.Rows
def MtM (X : Cx) (id : String) (r : V → List V → Hp → VK → Prop) : Prop :=
  ∀ (pins : List (Addr × Obj)) (s : Shared) (σ : St) (H : Hp) (x : V) (xs : List V) (v : Value) (us : List Value) (Q : VK), Inv X pins σ H s → RelV x v → Vals xs us → r x xs H Q →
    wpAny (model X.prog X.w) X.A (call (.builtin id) (v :: us)) (EP X pins σ Q) X.xe s
theorem Vals.one : ∀ {x : V} {us : List Value}, Vals [x] us → ∃ u, us = [u] ∧ RelV x u
  | _, _, .cons r .nil => ⟨_, rfl, r⟩
theorem Vals.two : ∀ {x y : V} {us : List Value}, Vals [x, y] us → ∃ u v, us = [u, v] ∧ RelV x u ∧ RelV y v
  | _, _, _, .cons r (.cons q .nil) => ⟨_, _, rfl, r, q⟩
theorem Vals.zero : ∀ {us : List Value}, Vals [] us → us = []
  | _, .nil => rfl
theorem Vals.dropLast {xs : List V} {us : List Value} (h : Vals xs us) : Vals xs.dropLast us.dropLast := by
  induction h with
  | nil => exact .nil
  | cons r t ih =>
    cases t with
    | nil => exact .nil
    | cons q t' => exact .cons r ih
theorem Vals.rep {xs : List V} {us : List Value} (h : Vals xs us) : ∀ k : Nat, Vals (List.replicate k xs).flatten (List.replicate k us).flatten
  | 0 => .nil
  | k + 1 => by
    rw [List.replicate_succ, List.replicate_succ, List.flatten_cons, List.flatten_cons]
    exact Vals.append h (Vals.rep h k)
theorem erase_last {α : Type} (l : List α) : l.eraseIdx (l.length - 1) = l.dropLast := by
  induction l with
  | nil => rfl
  | cons a r ih =>
    cases r with
    | nil => rfl
    | cons b r =>
      have e : (a :: b :: r).length - 1 = ((b :: r).length - 1) + 1 := by
        have h1 : (a :: b :: r).length = r.length + 2 := rfl
        have h2 : (b :: r).length = r.length + 1 := rfl
        omega
      rw [e, List.eraseIdx_cons_succ, ih]
      all_goals rfl
theorem foldl_rep (its : List Value) : ∀ (k : Nat) (acc : List Value),
    List.foldl (fun x1 x2 => x1 ++ x2) acc.toArray (List.replicate k its.toArray) = (acc ++ (List.replicate k its).flatten).toArray
  | 0, acc => by simp
  | k + 1, acc => by
    have e : acc.toArray ++ its.toArray = (acc ++ its).toArray := by simp
    have e2 : (acc ++ its) ++ (List.replicate k its).flatten = acc ++ (List.replicate (k + 1) its).flatten := by
      rw [List.replicate_succ, List.flatten_cons, List.append_assoc]
    rw [← e2, ← foldl_rep its k (acc ++ its), ← e, List.replicate_succ, List.foldl_cons]
section
variable {X : Cx} {pins : List (Addr × Obj)} {σ : St} {H : Hp} {s : Shared} {l b : Addr} {xs ys zs : List V}
theorem Inv.lset {its its' : List Value} {n : Nat} {f : Array Value → Array Value} {t' : Nat} (I : Inv X pins σ H s) (hH : H l = some (.lst xs))
    (e : s.heap.get? l = some { cls := .type "list", data := .seq its.toArray n }) (hf : f its.toArray = its'.toArray) (hv : Vals ys its') (hz : ys.length ≤ sizeLine) :
    Inv X pins σ (upd H l (.lst ys)) { s with heap := s.heap.update l (Obj.mapSeq f), toks := t' } := by
  have q := PySem.IsL.update e f
  rw [hf] at q
  refine I.write (x := l) (e := l) (by rw [hH]; exact trivial) (.inl rfl) (fun b' u hb hu => (Heap.get?_update_other s.heap (Obj.mapSeq f) (Ne.symm hb)).trans hu) ⟨_, q⟩ ?_
  exact ⟨hz, its', _, hv, q⟩
theorem Inv.lnew {its : List Value} {t' : Nat} (I : Inv X pins σ H s) (hv : Vals ys its) (hz : ys.length ≤ sizeLine) :
    Inv X pins σ (upd H s.heap.objs.size (.lst ys)) { s with heap := s.heap.push { cls := .type "list", data := .seq its.toArray }, toks := t' } :=
  I.laid (fun _ _ q => Heap.get?_push_of_some _ q) (Nat.le_refl _) ⟨hz, its, 0, hv, Heap.get?_push_size _ rfl⟩
theorem Inv.fresh (I : Inv X pins σ H s) : H s.heap.objs.size = none := I.hok.fresh (Nat.le_refl _)
theorem Inv.lstM (I : Inv X pins σ H s) (hH : H l = some (.lst xs)) : xs.length ≤ sizeLine ∧ ∃ (its : List Value) (n : Nat), Vals xs its ∧ xs.length = its.length ∧ s.heap.get? l = some { cls := .type "list", data := .seq its.toArray n } := by
  obtain ⟨z, its, n, r, e⟩ := I.hok l _ hH
  exact ⟨z, its, n, r, r.length, e⟩
end
section
variable {X : Cx}
def rAppend : V → List V → Hp → VK → Prop := fun x vs H Q => ∃ l xs y, x = .ref l ∧ vs = [y] ∧ H l = some (.lst xs) ∧ xs.length < sizeLine ∧ Q .non (upd H l (.lst (xs ++ [y])))
theorem mt_append : MtM X "list.append" rAppend := by
  intro pins s σ H x vs v us Q I rx rv h
  obtain ⟨l, xs, y, rfl, rfl, hH, hz, q⟩ := h
  cases rx
  obtain ⟨u, rfl, ru⟩ := rv.one
  obtain ⟨z, its, n, r, hl, e⟩ := I.lstM hH
  refine call_meets F.slot_list_append ⟨_, e, rfl⟩ F.entry_list_append (F.args_list_append_2 _ _) (PySem.list_append l its.toArray n u (by rw [List.size_toArray]; omega)) ⟨e, ?_⟩
  refine ⟨.non, _, I.lset (its' := its ++ [u]) hH e (by simp) (r.append (.cons ru .nil)) ?_, rfl, q⟩
  rw [List.length_append, List.length_singleton]
  omega
def rPop : V → List V → Hp → VK → Prop := fun x vs H Q => ∃ l xs y, x = .ref l ∧ vs = [] ∧ H l = some (.lst xs) ∧ xs[xs.length - 1]? = some y ∧ Q y (upd H l (.lst xs.dropLast))
theorem mt_pop : MtM X "list.pop" rPop := by
  intro pins s σ H x vs v us Q I rx rv h
  obtain ⟨l, xs, y, rfl, rfl, hH, hy, q⟩ := h
  cases rx
  have hus := rv.zero
  subst hus
  obtain ⟨z, its, n, r, hl, e⟩ := I.lstM hH
  obtain ⟨u, hu, ru⟩ := r.get hy
  have hy' : its.toArray[its.toArray.size - 1]? = some u := by
    show its.toArray[its.length - 1]? = some u
    rw [← Array.getElem?_toList, ← hl]
    exact hu
  refine call_meets F.slot_list_pop ⟨_, e, rfl⟩ F.entry_list_pop (F.args_list_pop_1 _) (MeetsSeq.list_pop_last l its.toArray n u hy' (by rw [List.size_toArray]; omega)) ⟨e, ?_⟩
  refine ⟨y, _, I.lset (its' := its.dropLast) hH e ?_ r.dropLast ?_, ru, q⟩
  · show its.toArray.eraseIdxIfInBounds (its.toArray.size - 1) = its.dropLast.toArray
    rw [List.size_toArray, List.eraseIdxIfInBounds_toArray, erase_last]
  · rw [List.length_dropLast]
    omega
def rClear : V → List V → Hp → VK → Prop := fun x vs H Q => ∃ l xs, x = .ref l ∧ vs = [] ∧ H l = some (.lst xs) ∧ Q .non (upd H l (.lst []))
theorem mt_clear : MtM X "list.clear" rClear := by
  intro pins s σ H x vs v us Q I rx rv h
  obtain ⟨l, xs, rfl, rfl, hH, q⟩ := h
  cases rx
  have hus := rv.zero
  subst hus
  obtain ⟨z, its, n, r, hl, e⟩ := I.lstM hH
  refine call_meets F.slot_list_clear ⟨_, e, rfl⟩ F.entry_list_clear (F.args_list_clear_1 _) (AutoSeq1.list_clear_list_0 l its.toArray n (by rw [List.size_toArray]; omega)) ⟨e, ?_⟩
  exact ⟨.non, _, I.lset (its' := []) (ys := []) hH e rfl .nil (Nat.zero_le _), rfl, q⟩
theorem len_rep {α : Type} (xs : List α) (k : Nat) : (List.replicate k xs).flatten.length = k * xs.length := by
  induction k with
  | zero => simp
  | succ k ih => rw [List.replicate_succ, List.flatten_cons, List.length_append, ih, Nat.succ_mul, Nat.add_comm]
end
section
variable {prog : Program} {w : World} {A : Around} {E : Value → Shared → Prop} {s : Shared}
set_option maxRecDepth 100000 in
end
section
variable {X : Cx}
end
end L2
namespace L2
open PySem PySem.Spec PyProof.Rows
theorem vals_of_ints : ∀ {us : List Value} {ns : List Int}, IntsAre us ns → Vals (ns.map V.int) us
  | _, _, .nil => by rw [List.map_nil]; exact Paired.nil
  | _, _, .cons n t h => by rw [List.map_cons]; exact Paired.cons (show RelV (V.int n) (Value.int n t) from ⟨t, rfl⟩) (vals_of_ints h)
section
variable {prog : Program} {w : World} {A : Around} {E : Value → Shared → Prop} {s : Shared} {l : Addr} {its : List Value} {ns : List Int} {Q : Value → Shared → Prop}
end
section
variable {X : Cx}
end
section
variable {X : Cx}
end
section
variable {X : Cx}
end
section
variable {X : Cx}
end
def keyP : Key → PyData
  | .inl i => .int i
  | .inr x => .str x
theorem key_reads {h : Heap} {k : Key} {u : Value} (e : keyIs k u = true) : Reads h u (keyP k) [] := by
  rcases keyIs_shape e with ⟨i, t, rfl, rfl⟩ | ⟨x, t, rfl, rfl⟩
  · exact .int i t
  · exact .str x t
theorem keys_reads {P : Program} {w : World} {h : Heap} : ∀ {es : List DictEntry} {vs : List (Key × Value)} {ws : List (Key × V)}, PySem.Pairs (mixKind P w) es vs → KV ws vs → ∃ as, ReadsAll h (es.map (·.key)) (ws.map fun p => keyP p.1) as
  | _, _, _, .nil, .nil => ⟨_, ReadsAll.nil⟩
  | _, _, _, .cons hk hv t, .cons g q => by
    obtain ⟨as, r⟩ := keys_reads (h := h) t q
    rw [List.map_cons, List.map_cons, g.1]
    exact ⟨_, ReadsAll.cons (key_reads hk) r⟩
theorem vals_pairs {P : Program} {w : World} : ∀ {es : List DictEntry} {vs : List (Key × Value)} {ws : List (Key × V)}, PySem.Pairs (mixKind P w) es vs → KV ws vs → Vals (ws.map Prod.snd) (es.map (·.val))
  | _, _, _, .nil, .nil => .nil
  | _, _, _, .cons hk hv t, .cons g q => .cons (by have z := g.2; rw [← hv] at z; exact z) (vals_pairs t q)
mutual
inductive Dp (K : PySem.W.Frag) (H : Hp) : V → PyData → Prop
  | non : Dp K H .non .none
  | bl (b : Bool) : Dp K H (.bl b) (.bool b)
  | int (i : Int) : Dp K H (.int i) (.int i)
  | str (x : Str) : Dp K H (.str x) (.str x)
  | lst {a : Addr} {xs : List V} {ds : List PyData} : SqL K H a xs → DpAll K H xs ds → Dp K H (.ref a) (.list ds)
  | tup {a : Addr} {xs : List V} {ds : List PyData} : SqT K H a xs → DpAll K H xs ds → Dp K H (.ref a) (.tuple ds)
  | dct {a : Addr} {o : Obj} {ws : List (Key × V)} {ps : List (PyData × PyData)} : H a = some (.frz o (.dK ws)) → DpAll K H (ws.map Prod.snd) (ps.map Prod.snd) → ps.map Prod.fst = (ws.map fun p => keyP p.1) → Dp K H (.ref a) (.dict ps)
inductive DpAll (K : PySem.W.Frag) (H : Hp) : List V → List PyData → Prop
  | nil : DpAll K H [] []
  | cons {v : V} {vs : List V} {d : PyData} {ds : List PyData} : Dp K H v d → DpAll K H vs ds → DpAll K H (v :: vs) (d :: ds)
end
section
variable {X : Cx} {pins : List (Addr × Obj)} {σ : St} {H : Hp} {s : Shared}
mutual
theorem Dp.reads' (I : Inv X pins σ H s) : ∀ {v : V} {d : PyData}, Dp X.K H v d → ∀ u : Value, RelV v u → ∃ as, Reads s.heap u d as
  | _, _, .non, u, r => by
    cases r
    exact ⟨_, Reads.none⟩
  | _, _, .bl b, u, r => by
    cases r
    exact ⟨_, Reads.bool b⟩
  | _, _, .int i, u, r => by
    obtain ⟨t, rfl⟩ := r
    exact ⟨_, Reads.int i t⟩
  | _, _, .str x, u, r => by
    obtain ⟨t, rfl⟩ := r
    exact ⟨_, Reads.str x t⟩
  | _, _, .lst hs ha, u, r => by
    cases r
    obtain ⟨its, rv, ⟨o, n, ho, hc, _, hd⟩, _⟩ := I.list hs
    obtain ⟨as, hr⟩ := Dp.readsAll' I ha its rv
    exact ⟨_, Reads.list ho hc hd hr⟩
  | _, _, .tup hs ha, u, r => by
    cases r
    obtain ⟨its, rv, ⟨o, ho, hc, n, hd⟩, _⟩ := I.tuple hs
    obtain ⟨as, hr⟩ := Dp.readsAll' I ha its rv
    exact ⟨_, Reads.tuple ho hc hd hr⟩
  | _, _, .dct hs ha hk, u, r => by
    cases r
    obtain ⟨hd, _, _, vs, kv, o', es, ep, ho, hx, hdt, _, pr, _⟩ := I.hok _ _ hs
    obtain ⟨as, r1⟩ := keys_reads (h := s.heap) pr kv
    obtain ⟨bs, r2⟩ := Dp.readsAll' I ha _ (vals_pairs pr kv)
    rw [← hk] at r1
    exact ⟨_, Reads.dict ho hx.1 hdt r1 r2⟩
theorem Dp.readsAll' (I : Inv X pins σ H s) : ∀ {vs : List V} {ds : List PyData}, DpAll X.K H vs ds → ∀ us : List Value, Vals vs us → ∃ as, ReadsAll s.heap us ds as
  | _, _, .nil, us, r => by
    cases r
    exact ⟨_, ReadsAll.nil⟩
  | _, _, .cons h1 h2, us, r => by
    cases r with
    | cons r1 r2 =>
      obtain ⟨as, q1⟩ := Dp.reads' I h1 _ r1
      obtain ⟨bs, q2⟩ := Dp.readsAll' I h2 _ r2
      exact ⟨_, ReadsAll.cons q1 q2⟩
end
theorem Dp.reads (I : Inv X pins σ H s) (d : PyData) (v : V) (u : Value) (h : Dp X.K H v d) (r : RelV v u) : ∃ as, Reads s.heap u d as := Dp.reads' I h u r
end
section
variable {X : Cx}
end
end L2
namespace L2
open PySem PySem.Spec PyProof.Rows
abbrev CellAt (h : Heap) (c : Addr) (v : Option Value) : Prop := h.IsCell c v
def relS (scope sc : Scope) : Scope :=
  { scope with names := scope.names.map fun (n, k) => if (k == .free && sc.kind == .function && sc.names.lookup n == some .cell) then (n, .cell) else (n, k) }
def cloFrom (cells : List (Str × Addr)) : List (Str × NameKind) → List (Str × Addr) → List (Str × Addr)
  | [], acc => acc
  | (n, k) :: r, acc => if k == .free then cloFrom cells r ((n, (cells.lookup n).getD 0) :: acc) else cloFrom cells r acc
theorem closure_loop (env : Env) (f : Str × NameKind → List (Str × Addr) → Sem (ForInStep (List (Str × Addr))))
    (hf : ∀ n k c, f (n, k) c = if k == .free then (do let a ← cellOf env n; pure (.yield ((n, a) :: c))) else pure (.yield c)) :
    ∀ (names : List (Str × NameKind)) (acc : List (Str × Addr)), (∀ y ∈ names, y.2 = .free → ∃ c, env.cells.lookup y.1 = some c) → forIn names acc f = pure (cloFrom env.cells names acc)
  | [], acc, _ => by rw [List.forIn_nil]; rfl
  | (n, k) :: r, acc, h => by
    rw [List.forIn_cons, hf]
    have ih := fun acc => closure_loop env f hf r acc fun y hy => h y (List.mem_cons_of_mem _ hy)
    unfold cloFrom
    by_cases hk : (k == NameKind.free) = true
    · rw [if_pos hk, if_pos hk]
      obtain ⟨c, hc⟩ := h (n, k) List.mem_cons_self (by simpa using hk)
      have e : cellOf env n = pure c := by unfold cellOf; rw [hc]
      rw [e]
      have e2 : (env.cells.lookup n).getD 0 = c := by rw [hc]; rfl
      rw [e2]
      exact ih _
    · rw [if_neg hk, if_neg hk]
      exact ih _
theorem closure_ok {scope : Scope} {env : Env} (h : ∀ y ∈ scope.names, y.2 = .free → ∃ c, env.cells.lookup y.1 = some c) : closureFor scope env = pure (cloFrom env.cells scope.names []) := by
  simp only [closureFor]
  rw [closure_loop env _ (fun n k c => rfl) scope.names [] h]
  rfl
theorem mem_lookup {α : Type} : ∀ {l : List (Str × α)} {n : Str} {c : α}, (n, c) ∈ l → ∃ c', l.lookup n = some c'
  | (k, v) :: r, n, c, h => by
    rw [List.lookup_cons]
    cases hb : n == k with
    | true => exact ⟨_, rfl⟩
    | false =>
      rcases List.mem_cons.mp h with e | h
      · cases e; simp at hb
      · exact mem_lookup h
theorem cloFrom_mem {cells : List (Str × Addr)} : ∀ {names : List (Str × NameKind)} {acc : List (Str × Addr)} {n : Str} {c : Addr}, (n, c) ∈ cloFrom cells names acc → (n, c) ∈ acc ∨ ((n, .free) ∈ names ∧ c = (cells.lookup n).getD 0)
  | [], _, _, _, h => .inl h
  | (m, k) :: r, acc, n, c, h => by
    unfold cloFrom at h
    split at h
    · rename_i hk
      have hk : k = .free := by simpa using hk
      rcases cloFrom_mem h with h | ⟨h1, h2⟩
      · rcases List.mem_cons.mp h with e | h
        · cases e; exact .inr ⟨hk ▸ List.mem_cons_self, rfl⟩
        · exact .inl h
      · exact .inr ⟨List.mem_cons_of_mem _ h1, h2⟩
    · rcases cloFrom_mem h with h | ⟨h1, h2⟩
      · exact .inl h
      · exact .inr ⟨List.mem_cons_of_mem _ h1, h2⟩
theorem cloFrom_acc {cells : List (Str × Addr)} : ∀ {names : List (Str × NameKind)} {acc : List (Str × Addr)} {p : Str × Addr}, p ∈ acc → p ∈ cloFrom cells names acc
  | [], _, _, h => h
  | (m, k) :: r, acc, p, h => by
    unfold cloFrom
    split
    · exact cloFrom_acc (List.mem_cons_of_mem _ h)
    · exact cloFrom_acc h
theorem cloFrom_has {cells : List (Str × Addr)} : ∀ {names : List (Str × NameKind)} {acc : List (Str × Addr)} {n : Str}, (n, .free) ∈ names → (n, (cells.lookup n).getD 0) ∈ cloFrom cells names acc
  | (m, k) :: r, acc, n, h => by
    unfold cloFrom
    rcases List.mem_cons.mp h with e | h
    · cases e
      exact cloFrom_acc List.mem_cons_self
    · split
      · exact cloFrom_has h
      · exact cloFrom_has h
theorem cells_mem : ∀ {names : List (Str × NameKind)} {h : Heap} {acc : List (Str × Addr)} {x : Str} {c : Addr}, (x, c) ∈ cellsFrom h.objs.size names acc →
    (x, c) ∈ acc ∨ ((x, .cell) ∈ names ∧ h.objs.size ≤ c ∧ CellAt (pushCells h names) c none)
  | [], _, _, _, _, h => .inl h
  | (n, k) :: r, h, acc, x, c, hm => by
    unfold cellsFrom at hm
    unfold pushCells
    split at hm
    · rename_i hk
      rw [if_pos hk]
      have hk : k = .cell := by simpa using hk
      rw [← Heap.size_push h { cls := .type "cell", data := .cell none }] at hm
      rcases cells_mem hm with hm | ⟨h1, h2, h3⟩
      · rcases List.mem_cons.mp hm with e | hm
        · cases e
          exact .inr ⟨hk ▸ List.mem_cons_self, Nat.le_refl _, _, pushCells_keeps r _ _ _ (Heap.get?_push_size _ rfl), rfl⟩
        · exact .inl hm
      · rw [Heap.size_push] at h2
        exact .inr ⟨List.mem_cons_of_mem _ h1, Nat.le_of_succ_le h2, h3⟩
    · rename_i hk
      rw [if_neg hk]
      rcases cells_mem hm with hm | ⟨h1, h2, h3⟩
      · exact .inl hm
      · exact .inr ⟨List.mem_cons_of_mem _ h1, h2, h3⟩
theorem cells_acc : ∀ {names : List (Str × NameKind)} {n : Nat} {acc : List (Str × Addr)} {p : Str × Addr}, p ∈ acc → p ∈ cellsFrom n names acc
  | [], _, _, _, h => h
  | (m, k) :: r, n, acc, p, h => by
    unfold cellsFrom
    split
    · exact cells_acc (List.mem_cons_of_mem _ h)
    · exact cells_acc h
theorem cells_has : ∀ {names : List (Str × NameKind)} {n : Nat} {acc : List (Str × Addr)} {x : Str}, (x, .cell) ∈ names → ∃ c, (x, c) ∈ cellsFrom n names acc
  | (m, k) :: r, n, acc, x, h => by
    unfold cellsFrom
    rcases List.mem_cons.mp h with e | h
    · cases e
      exact ⟨n, cells_acc List.mem_cons_self⟩
    · split
      · exact cells_has h
      · exact cells_has h
theorem cells_inj : ∀ {names : List (Str × NameKind)} {h : Heap} {acc : List (Str × Addr)} {x y : Str} {c : Addr}, (∀ p ∈ acc, p.2 < h.objs.size) → (∀ x y c, (x, c) ∈ acc → (y, c) ∈ acc → x = y) →
    (x, c) ∈ cellsFrom h.objs.size names acc → (y, c) ∈ cellsFrom h.objs.size names acc → x = y
  | [], _, _, _, _, _, _, hi, h1, h2 => hi _ _ _ h1 h2
  | (n, k) :: r, h, acc, x, y, c, hl, hi, h1, h2 => by
    unfold cellsFrom at h1 h2
    split at h1
    · rename_i hk
      rw [if_pos hk] at h2
      rw [← Heap.size_push h { cls := .type "cell", data := .cell none }] at h1 h2
      refine cells_inj (h := h.push _) (fun p hp => ?_) (fun x y c a b => ?_) h1 h2
      · rw [Heap.size_push]
        rcases List.mem_cons.mp hp with rfl | hp
        · exact Nat.lt_succ_self _
        · exact Nat.lt_succ_of_lt (hl p hp)
      · rcases List.mem_cons.mp a with e | a <;> rcases List.mem_cons.mp b with e' | b
        · cases e; cases e'; rfl
        · cases e; exact absurd (hl _ b) (Nat.lt_irrefl _)
        · cases e'; exact absurd (hl _ a) (Nat.lt_irrefl _)
        · exact hi _ _ _ a b
    · rename_i hk
      rw [if_neg hk] at h2
      exact cells_inj hl hi h1 h2
theorem newEnv_comp {M : Model} {A : Around} {E : Value → Shared → Prop} {s : Shared} {scope : Scope} {globals : Addr} {closure : List (Str × Addr)} {qual : Str} {func : Option Addr} {code : Value} {around : Env} {builtins : Addr} {Q : Env → Shared → Prop}
    (h : Q (newEnv scope s.heap.objs.size globals (cellsFrom (s.heap.objs.size + 1) scope.names closure) qual func code (some around) builtins)
      { s with heap := pushCells (s.heap.push { cls := .type "dict", data := .dict #[] }) scope.names }) :
    wpAny M A (newFunctionEnv scope globals closure [] qual func code (some around) builtins) Q E s := by
  simp only [newFunctionEnv, Option.isSome_some, if_true]
  refine wpAny_bind (wpAny_alloc ?_)
  refine wpAny_bind (wpAny_layCells _ (fun n k c => rfl) scope.names closure _ _ ?_)
  rw [show ({ s with heap := s.heap.push { cls := .type "dict", data := .dict #[] } } : Shared).heap.objs.size = s.heap.objs.size + 1 from Heap.size_push ..]
  rw [List.forIn_nil]
  exact wpAny_bind (wpAny_pure (wpAny_pure h))
theorem lookup_relS {sc : Scope} : ∀ {names : List (Str × NameKind)} {x : Str} {k : NameKind},
    (names.map fun (n, k) => if (k == NameKind.free && sc.kind == .function && sc.names.lookup n == some .cell) then (n, NameKind.cell) else (n, k)).lookup x = some k →
    ∃ k', names.lookup x = some k' ∧ (k = k' ∨ (k' = .free ∧ k = .cell))
  | [], _, _, h => by simp at h
  | (n, k₀) :: r, x, k, h => by
    have ih := @lookup_relS sc r x k
    have h' : List.lookup x ((if (k₀ == NameKind.free && sc.kind == .function && sc.names.lookup n == some .cell) = true then (n, NameKind.cell) else (n, k₀)) :: (r.map _)) = some k := h
    cases hx : x == n with
    | true =>
      simp only [List.lookup_cons, hx]
      by_cases hc : (k₀ == NameKind.free && sc.kind == .function && sc.names.lookup n == some .cell) = true
      · rw [if_pos hc] at h'
        simp only [List.lookup_cons, hx] at h'
        cases h'
        simp only [Bool.and_eq_true, beq_iff_eq] at hc
        exact ⟨k₀, rfl, .inr ⟨hc.1.1, rfl⟩⟩
      · rw [if_neg hc] at h'
        simp only [List.lookup_cons, hx] at h'
        cases h'
        exact ⟨_, rfl, .inl rfl⟩
    | false =>
      simp only [List.lookup_cons, hx]
      by_cases hc : (k₀ == NameKind.free && sc.kind == .function && sc.names.lookup n == some .cell) = true
      · rw [if_pos hc] at h'
        simp only [List.lookup_cons, hx] at h'
        exact ih h'
      · rw [if_neg hc] at h'
        simp only [List.lookup_cons, hx] at h'
        exact ih h'
structure BlkOk (N : List Str) (sc scope : Scope) (own : List (Str × Nat)) : Prop where
  kind : scope.kind = .function
  uniq : ∀ y ∈ scope.names, scope.names.lookup y.1 = some y.2
  ix : ∀ p ∈ own, N[p.2]? = some p.1
  free : ∀ y ∈ scope.names, y.2 = .free → sc.names.lookup y.1 = some .cell ∨ sc.names.lookup y.1 = some .free
  own : ∀ y ∈ scope.names, y.2 = .local ∨ y.2 = .cell → y.1 ∈ own.map (·.1) ∨ y.1 ∉ N
def wipe (σ : St) : List Nat → St
  | [] => σ
  | v :: vs => (wipe σ vs).set v none
theorem wipe_length (σ : St) : ∀ vs : List Nat, (wipe σ vs).length = σ.length
  | [] => rfl
  | v :: vs => by unfold wipe; rw [List.length_set, wipe_length σ vs]
theorem wipe_some {σ : St} {i : Nat} {x : V} : ∀ {vs : List Nat}, (wipe σ vs)[i]? = some (some x) → σ[i]? = some (some x) ∧ i ∉ vs
  | [], h => ⟨h, by simp⟩
  | v :: vs, h => by
    unfold wipe at h
    by_cases hi : v = i
    · subst hi
      by_cases hv : v < (wipe σ vs).length
      · rw [List.getElem?_set_self hv] at h; cases h
      · rw [List.getElem?_eq_none (by simpa using hv)] at h; cases h
    · rw [List.getElem?_set_ne hi] at h
      obtain ⟨h1, h2⟩ := wipe_some h
      exact ⟨h1, by simp only [List.mem_cons, not_or]; exact ⟨fun e => hi e.symm, h2⟩⟩
abbrev Cx.blk (X : Cx) (s : Shared) (H : Hp) (scope : Scope) (cenv : Env) (fp : List Addr) : Cx := { X with s_0 := s, H_0 := H, env := cenv, outer := X.stack, ex := fp, fn := fun x => scope.names.lookup x == some .cell, pn := [], xe := fun _ _ => False }
section
variable {X : Cx} {pins : List (Addr × Obj)} {σ : St} {H : Hp} {s : Shared}
theorem block_start {scope : Scope} {own : List (Str × Nat)} {fp : List Addr} (I : Inv X pins σ H s) (ok : BlkOk X.N X.env.scope scope own) (hN : X.N.Nodup) (hfp : ∀ b ∈ fp, FpOk X pins H b ∧ b < s.heap.objs.size) :
    Inv (X.blk s H scope (compEnvC scope (cellsFrom (s.heap.objs.size + 1) scope.names (cloFrom X.env.cells scope.names [])) s.heap.objs.size X.env) fp) [] (wipe σ (own.map (·.2))) H { s with heap := pushCells (s.heap.push { cls := .type "dict", data := .dict #[] }) scope.names } := by
  have hfree : ∀ y ∈ scope.names, y.2 = .free → ∃ c, X.env.cells.lookup y.1 = some c := fun y hy e => by
    rcases ok.free y hy e with k | k
    · exact I.ok.has _ (.inl k)
    · exact I.ok.has _ (.inr k)
  generalize hcenv : compEnvC scope (cellsFrom (s.heap.objs.size + 1) scope.names (cloFrom X.env.cells scope.names [])) s.heap.objs.size X.env = cenv
  have kp : ∀ b o, s.heap.get? b = some o → (pushCells (s.heap.push { cls := .type "dict", data := .dict #[] }) scope.names).get? b = some o := fun b o e => pushCells_keeps _ _ _ _ (Heap.get?_push_of_some _ e)
  have hL : cenv.locals = s.heap.objs.size := by rw [← hcenv]; rfl
  have hcl : cenv.cells = cellsFrom (s.heap.objs.size + 1) scope.names (cloFrom X.env.cells scope.names []) := by rw [← hcenv]; rfl
  have hsc : cenv.scope = relS scope X.env.scope := by rw [← hcenv]; rfl
  rw [← Heap.size_push s.heap { cls := .type "dict", data := .dict #[] }] at hcl
  have cm : ∀ {y c}, (y, c) ∈ cloFrom X.env.cells scope.names [] → X.env.cells.lookup y = some c ∧ c < s.heap.objs.size := fun {y c} hm => by
    rcases cloFrom_mem hm with hm | ⟨h1, rfl⟩
    · cases hm
    · obtain ⟨c, hc⟩ := hfree _ h1 rfl
      rw [hc]
      obtain ⟨w, z⟩ := I.cell _ _ hc
      exact ⟨rfl, z.lt⟩
  have mem : ∀ {y c}, cenv.cells.lookup y = some c → (X.env.cells.lookup y = some c ∧ c < s.heap.objs.size) ∨ (s.heap.objs.size + 1 ≤ c ∧ CellAt (pushCells (s.heap.push { cls := .type "dict", data := .dict #[] }) scope.names) c none) := fun {y c} e => by
    rw [hcl] at e
    rcases cells_mem (PySem.mem_of_lookup e) with hm | ⟨_, h2, h3⟩
    · exact .inl (cm hm)
    · rw [Heap.size_push] at h2; exact .inr ⟨h2, h3⟩
  have look : ∀ {y}, scope.names.lookup y = some .free → ∃ c, cenv.cells.lookup y = some c ∧ X.env.cells.lookup y = some c := fun {y} hl => by
    have hy : (y, NameKind.free) ∈ scope.names := PySem.mem_of_lookup hl
    obtain ⟨c', e'⟩ := mem_lookup (cells_acc (names := scope.names) (n := (s.heap.push { cls := .type "dict", data := .dict #[] }).objs.size) (cloFrom_has (cells := X.env.cells) (acc := []) hy))
    rw [← hcl] at e'
    refine ⟨c', e', ?_⟩
    rw [hcl] at e'
    rcases cells_mem (PySem.mem_of_lookup e') with hm | ⟨h1, _, _⟩
    · exact (cm hm).1
    · have := ok.uniq _ h1
      rw [hl] at this; cases this
  have okB : (X.blk s H scope cenv fp).Ok := by
    refine ⟨I.ok.mod, by show cenv.scope.kind = _; rw [hsc]; exact ok.kind, by show cenv.globals = _; rw [← hcenv]; exact I.ok.glob, by show cenv.builtins = _; rw [← hcenv]; exact I.ok.blt, by show s.heap.objs.size ≤ cenv.locals; rw [hL]; exact Nat.le_refl _,
      fun y z c e1 e2 => ?_, fun y hy => ?_, fun y c z e => ?_, I.ok.hd, (fun z => I.hush z), I.ok.frames, .inl rfl, fun b hb => ⟨?_, fun y c e z => ?_⟩, I.bs, Nat.le_trans I.ok.bsz I.sz, fun b o e hb => ?_, fun b hb z => ?_, I.stack, I.stkFree⟩
    · have e1 : cenv.cells.lookup y = some c := e1
      have e2 : cenv.cells.lookup z = some c := e2
      rw [hcl] at e1 e2
      refine cells_inj (fun p hp => ?_) (fun y z c a b => I.ok.inj y z c (cm a).1 (cm b).1) (PySem.mem_of_lookup e1) (PySem.mem_of_lookup e2)
      rw [Heap.size_push]
      exact Nat.lt_succ_of_lt (cm (y := p.1) (c := p.2) hp).2
    · show ∃ c, cenv.cells.lookup y = some c
      have key : ∀ k, cenv.kindOf y = some k → (k = .cell ∨ k = .free) → ∃ c, cenv.cells.lookup y = some c := fun k hk hk' => by
        unfold Env.kindOf at hk
        rw [hsc] at hk
        obtain ⟨k', e, r⟩ := lookup_relS hk
        have : k' = .cell ∨ k' = .free := by
          rcases r with rfl | ⟨rfl, _⟩
          · exact hk'
          · exact .inr rfl
        rcases this with rfl | rfl
        · obtain ⟨c, hm⟩ := cells_has (n := (s.heap.push { cls := .type "dict", data := .dict #[] }).objs.size) (acc := cloFrom X.env.cells scope.names []) (PySem.mem_of_lookup e)
          obtain ⟨c', e'⟩ := mem_lookup hm
          exact ⟨c', by rw [hcl]; exact e'⟩
        · obtain ⟨c, h1, _⟩ := look e
          exact ⟨c, h1⟩
      rcases hy with hy | hy
      · exact key _ hy (.inl rfl)
      · exact key _ hy (.inr rfl)
    · have z : (scope.names.lookup y == some NameKind.cell) = true := z
      have z : scope.names.lookup y = some .cell := by simpa using z
      have e : cenv.cells.lookup y = some c := e
      rw [hcl] at e
      rcases cells_mem (PySem.mem_of_lookup e) with hm | ⟨_, h2, _⟩
      · rcases cloFrom_mem hm with hm | ⟨h1, _⟩
        · cases hm
        · have q := ok.uniq _ h1
          rw [z] at q; cases q
      · rw [Heap.size_push] at h2
        exact Nat.le_of_succ_le h2
    · show b ≠ cenv.locals
      rw [hL]; exact Nat.ne_of_lt (hfp b hb).2
    · have e : cenv.cells.lookup y = some c := e
      rcases mem e with ⟨h1, _⟩ | ⟨h1, _⟩
      · exact (hfp b hb).1.2.2.2.2.1 y c h1 z
      · have h2 : s.heap.objs.size + 1 ≤ b := by rw [← z]; exact h1
        exact absurd (Nat.lt_of_lt_of_le (hfp b hb).2 (Nat.le_of_succ_le h2)) (Nat.lt_irrefl _)
    · rcases (hfp b hb).1.2.2.2.1 with z | z
      · exact I.ok.noex b o e z
      · exact absurd (Nat.lt_of_lt_of_le (Heap.lt_size e) (Nat.le_trans I.ok.bsz z)) (Nat.lt_irrefl _)
    · rcases List.mem_cons.mp (I.stkSub b z) with z | z
      · exact (hfp b hb).1.2.1 z
      · exact (hfp b hb).1.2.2.1 z
  refine ⟨okB, rfl, I.bare, Un.kept kp, ⟨fun _ => none, ?_, fun i y av e1 e2 e3 => ?_⟩, fun y c e => ?_, ?_, fun y c e => ?_, fun p hp => ?_, I.hok.kept kp, by rw [wipe_length]; exact I.len⟩
  · show Heap.Ns _ cenv.locals _
    rw [hL]
    exact Heap.Ns.keeps (Heap.Ns.new ..) fun b o e => pushCells_keeps _ _ _ _ e
  · obtain ⟨e2, hne⟩ := wipe_some e2
    have hfr : scope.names.lookup y = some .free ∧ (cenv.kindOf y = some .cell ∨ cenv.kindOf y = some .free) := by
      have key : ∀ k, cenv.scope.names.lookup y = some k → k = .local ∨ k = .cell ∨ k = .free → scope.names.lookup y = some .free ∧ (cenv.kindOf y = some .cell ∨ cenv.kindOf y = some .free) := fun k hk hk' => by
        have hk0 := hk
        rw [hsc] at hk
        obtain ⟨k', e, r⟩ := lookup_relS hk
        have no : ¬ (k' = .local ∨ k' = .cell) := fun hh => by
          rcases ok.own _ (PySem.mem_of_lookup e) hh with e' | e'
          · obtain ⟨p, hp, hpy⟩ := List.mem_map.mp e'
            have e3 := ok.ix p hp
            have : p.1 = y := hpy
            rw [this] at e3
            exact hne (List.mem_map.mpr ⟨p, hp, nodup_ix hN e3 e1⟩)
          · exact e' (List.mem_of_getElem? e1)
        rcases r with rfl | ⟨rfl, rfl⟩
        · rcases hk' with rfl | rfl | rfl
          · exact absurd (.inl rfl) no
          · exact absurd (.inr rfl) no
          · exact ⟨e, .inr hk0⟩
        · exact ⟨e, .inl hk0⟩
      have e3 : Vis cenv.scope y := e3
      rcases e3 with e3 | e3 | e3
      · exact key _ e3 (.inl rfl)
      · exact key _ e3 (.inr (.inl rfl))
      · exact key _ e3 (.inr (.inr rfl))
    obtain ⟨m, hn, hl⟩ := I.loc
    have hvis : Vis X.env.scope y := (ok.free _ (PySem.mem_of_lookup hfr.1) rfl).elim (fun k => .inr (.inl k)) (fun k => .inr (.inr k))
    obtain ⟨w, r, q⟩ := hl i y av e1 e2 hvis
    refine ⟨w, r, .inr ⟨hfr.2, ?_⟩⟩
    obtain ⟨c, h1, h2⟩ := look hfr.1
    rcases q with ⟨k, _⟩ | ⟨_, c', e', z⟩
    · have k : X.env.scope.names.lookup y = some .local := k
      rcases ok.free _ (PySem.mem_of_lookup hfr.1) rfl with k' | k' <;> rw [show X.env.scope.names.lookup y = _ from k'] at k <;> cases k
    · rw [h2] at e'; cases e'
      exact ⟨c, h1, z.keeps kp⟩
  · have e : cenv.cells.lookup y = some c := e
    rcases mem e with ⟨h1, _⟩ | ⟨_, z⟩
    · obtain ⟨w, z⟩ := I.cell y c h1
      exact ⟨w, z.keeps kp⟩
    · exact ⟨_, z⟩
  · show H cenv.locals = none
    rw [hL]; exact I.hok.fresh (Nat.le_refl _)
  · have e : cenv.cells.lookup y = some c := e
    rcases mem e with ⟨h1, _⟩ | ⟨h1, _⟩
    · exact I.freeC y c h1
    · exact I.hok.fresh (Nat.le_of_succ_le h1)
  · exact absurd (show p ∈ ([] : List (Addr × Obj)) ++ [] from hp) (by simp)
theorem app_ok {E : Value → Shared → Prop} {D : Addr} {xs : List V} {y : V} {v : Value} {Q : Value → Shared → Prop} (I : Inv X pins σ H s) (hD : H D = some (.lst xs)) (hz : xs.length < sizeLine) (r : RelV y v)
    (h : ∀ s', Inv X pins σ (upd H D (.lst (xs ++ [y]))) s' → Q .none s') : wpAny (model X.prog X.w) X.A (call (.builtin "list.append") [.ref D, v]) Q E s := by
  obtain ⟨hz', its, n, ri, e⟩ := I.hok D _ hD
  have hl := ri.length
  refine append_at (hsz := by rw [List.size_toArray]; omega) e fun h' sb ho' => ?_
  refine h { s with heap := h' } (I.write (t' := s.toks) (by rw [hD]; trivial) (.inl rfl) (fun b u hb q => (sb.2 b hb).trans q) ⟨_, ho'⟩ ⟨by rw [List.length_append]; exact hz, its ++ [v], n + 1, ri.append (.cons r .nil), ?_⟩)
  rw [ho']
  simp
def PTs (X : Cx) (ifs : List Expr) (t : TT) : Prop :=
  ∀ (pins : List (Addr × Obj)) (s : Shared) (σ : St) (H : Hp) (Q : Bool → Hp → Prop), Inv X pins σ H s → t σ H Q →
    wpAny (model X.prog X.w) X.A (forIn ifs true fun c r => if r = true then do let ok ← isTrue c X.env (eval c X.env); pure (ForInStep.yield ok) else pure (ForInStep.yield r)) (TP X pins σ Q) X.xe s
def tYes : TT := fun _ H Q => Q true H
theorem pts_nil : PTs X [] tYes := fun _ _ _ H _ I h => wpAny_tests_nil ⟨H, I, h⟩
theorem pts_one {c : Expr} {t : TT} (h : PT X c t) : PTs X [c] t := fun pins s σ H Q I hw => wpAny_tests_one (h pins s σ H Q I hw)
end
theorem thnF {α : Type} {t : Sem α} {Q Q' : α → Shared → Prop} {M : Model} {A : Around} {E : Value → Shared → Prop} {s : Shared} (h : wpAny M A t Q (fun _ _ => False) s) (hQ : ∀ a s, Q a s → Q' a s) : wpAny M A t Q' E s := wpAny_mono h hQ fun _ _ z => False.elim z
theorem compLoop_any {prog : Program} {w : World} {A : Around} {R : Result → Shared → Prop} {s : Shared} {elt target iter : Expr} {ifs : List Expr} {scope : Scope} {pos : Pos} {it acc : Value} {env : Env} (I : Nat → Shared → Prop)
    (turn : ∀ n s, I n s → wpAny (model prog w) A (pyNext it) (fun r s₁ => match r with
      | none => R (.ok .next) s₁
      | some v => wpAny (model prog w) A (letOwnedTupleGo target it v) (fun _ s₁' => wpAny (model prog w) A (assign target env v) (fun _ s₂ =>
          wpAny (model prog w) A (forIn ifs true fun c r => if r = true then do let ok ← isTrue c env (eval c env); pure (ForInStep.yield ok) else pure (ForInStep.yield r)) (fun ok s₃ =>
            if ok = true then wpAny (model prog w) A (eval elt env) (fun x s₄ =>
              wpAny (model prog w) A (call (.builtin "list.append") [acc, x]) (fun _ s₅ => ∃ m, m < n ∧ I m s₅) (notedBy (model prog w) A env fun e s' => R (.error e) s') s₄) (notedBy (model prog w) A env fun e s' => R (.error e) s') s₃
            else ∃ m, m < n ∧ I m s₃) (notedBy (model prog w) A env fun e s' => R (.error e) s') s₂) (notedBy (model prog w) A env fun e s' => R (.error e) s') s₁') (notedBy (model prog w) A env fun e s' => R (.error e) s') s₁) (notedBy (model prog w) A env fun e s' => R (.error e) s') s)
    (n : Nat) (h : I n s) :
    codeAny (model prog w) A (.compLoop (.ListComp elt [⟨target, iter, ifs, 0⟩] scope pos) 0 it acc env) R s := by
  refine codeAny_loop rfl I (fun n s hI => ?_) n h
  show wpAny _ A ((compTurn (.ListComp elt [⟨target, iter, ifs, 0⟩] scope pos) 0 it acc env).onRaise (fun x => do noteFrame x env; theTreesLotGoes x)) _ _ s
  refine wpAny_noted ?_
  rw [compTurn_list]
  refine wpAny_bind (wpAny_standAt (wpAny_bind (wpAny_mono (turn n s hI) (fun r s₁ h₁ => ?_) fun _ _ h' => h')))
  cases r with
  | none => exact wpAny_pure h₁
  | some v =>
    refine wpAny_bind (wpAny_mono h₁ (fun _ s₁' h₁' => ?_) fun _ _ h' => h')
    refine wpAny_bind (wpAny_mono h₁' (fun _ s₂ h₂ => wpAny_bind (wpAny_mono h₂ (fun ok s₃ h₃ => ?_) fun _ _ h' => h')) fun _ _ h' => h')
    cases ok with
    | false => exact wpAny_pure ⟨rfl, h₃⟩
    | true =>
      exact wpAny_bind (wpAny_bind (wpAny_mono h₃ (fun x s₄ h₄ => wpAny_bind (wpAny_mono h₄ (fun _ s₅ h₅ => wpAny_pure (wpAny_pure ⟨rfl, h₅⟩)) fun _ _ h' => h')) fun _ _ h' => h'))
section
variable {X : Cx}
def tLc (wi : TI) (g : TG) (tt : TT) (te : TE) (vs : List Nat) : TE := fun σ H Q => wi σ H fun J H1 => ∀ D, H1 D = none → ∃ W : Nat → Nat → Hp → Prop, (∃ m, W 0 m (upd H1 D (.lst []))) ∧ ∀ i m H, W i m H →
  (J.stop i H ∧ Q (.ref D) H) ∨ (J.go i H ∧ ∃ Nx : Hp → Prop, (∀ H', Nx H' → ∃ m', m' < m ∧ W (i + 1) m' H') ∧ ∀ x H', J.yld i H x H' → g x (wipe σ vs) H' fun σ2 H2 => wipe σ2 vs = wipe σ vs ∧ tt σ2 H2 fun b H3 =>
    if b = true then te σ2 H3 fun y H4 => ∃ acc, H4 D = some (.lst acc) ∧ acc.length < sizeLine ∧ Nx (upd H4 D (.lst (acc ++ [y]))) else Nx H3)
theorem lc_coreC {C0 : Cx → Prop} {pins : List (Addr × Obj)} {s : Shared} {σ : St} {H : Hp} {Q : VK} {elt tg iter : Expr} {ifs : List Expr} {scope : Scope} {own : List (Str × Nat)} {pos pos' : Pos} {wi : TI} {g : TG} {tt : TT} {te : TE} {use : Option (Value → Sem Unit)} {Qf : Value → Shared → Prop}
    (hc : ∀ s H ce fp, C0 (X.blk s H scope ce fp)) (hN : X.N.Nodup) (I : Inv X pins σ H s) (hi : PIC C0 X tg iter wi) (ok : BlkOk X.N X.env.scope scope own)
    (hg : ∀ (s : Shared) (H : Hp) (C : Addr) (cl : List (Str × Addr)) (fp : List Addr), PG (X.blk s H scope (compEnvC scope cl C X.env) fp) tg g) (ht : ∀ (s : Shared) (H : Hp) (C : Addr) (cl : List (Str × Addr)) (fp : List Addr), PTs (X.blk s H scope (compEnvC scope cl C X.env) fp) ifs tt)
    (he : ∀ (s : Shared) (H : Hp) (C : Addr) (cl : List (Str × Addr)) (fp : List Addr), PE (X.blk s H scope (compEnvC scope cl C X.env) fp) elt te) (hs : ∀ x, foldedSetIterable iter X.env x = pure x)
    (h : tLc wi g tt te (own.map (·.2)) σ H Q)
    (hRR : ∀ D C s' m H', Inv X pins σ H' s' → Q (.ref D) H' → s'.heap.Ns C m → FpOk X pins H' C → compPost (model X.prog X.w) X.A X.xe use Qf (.ref D) C (.ok .next) s') :
    wpAny (model X.prog X.w) X.A (comprehension (.ListComp elt [⟨tg, iter, ifs, 0⟩] scope pos) scope X.env pos' (newList []) false (eval iter X.env) use) Qf X.xe s := by
  have hfree : ∀ y ∈ scope.names, y.2 = .free → ∃ c, X.env.cells.lookup y.1 = some c := fun y hy e => by
    rcases ok.free y hy e with k | k
    · exact I.ok.has _ (.inl k)
    · exact I.ok.has _ (.inr k)
  refine wpAny_comprehension_free (use := use) rfl hs (closure_ok hfree) ok.kind (fun y hy e => by rw [ok.uniq y hy, e])
    (thn (hi pins s σ H _ I h) fun xv s1 hx => thn hx fun itv s2 h2 => ?_)
  obtain ⟨it, fp, tn, J, H2, e, I2, T, st2, f2, q⟩ := h2
  subst e
  refine wpAny_newObj_type (newEnv_comp ?_) (by show 0 ≤ sizeLine; decide)
  generalize hD : s2.heap.objs.size = D
  have hDn : H2 D = none := I2.hok.fresh (Nat.le_of_eq hD)
  obtain ⟨W, ⟨m0, w0⟩, turn⟩ := q D hDn
  -- the new list
  generalize hs3 : ({ s2 with heap := s2.heap.push { cls := .type "list", data := .seq ([] : List Value).toArray } } : Shared) = s3
  have I3 : Inv X pins σ (upd H2 D (.lst [])) s3 := by
    rw [← hs3]
    refine I2.laid (t' := s2.toks) (fun b o e => Heap.get?_push_of_some _ e) (Nat.le_of_eq hD) ⟨Nat.zero_le _, [], 0, .nil, ?_⟩
    rw [← hD]
    exact Heap.get?_push_size _ rfl
  have h3 : s3.heap = s2.heap.push { cls := .type "list", data := .seq ([] : List Value).toArray } := by rw [← hs3]
  have sz : ∀ b ∈ fp, b < s2.heap.objs.size := fun b hb => by
    obtain ⟨o, e, _⟩ := T.obj _ _ st2 b hb
    exact Heap.lt_size e
  have f3 : ∀ b ∈ fp, FpOk X pins (upd H2 D (.lst [])) b ∧ b < s3.heap.objs.size := fun b hb => by
    have hlt := sz b hb
    refine ⟨⟨?_, (f2 b hb).2⟩, by rw [h3, Heap.size_push]; exact Nat.lt_succ_of_lt hlt⟩
    rw [upd_ne (by rw [← hD]; exact Nat.ne_of_lt hlt)]
    exact (f2 b hb).1
  have st3 : tn 0 s3.heap := T.keep _ _ _ st2 fun b _ o e => by rw [h3]; exact Heap.get?_push_of_some _ e
  have I4 := block_start I3 ok hN f3
  have pg := hg s3 (upd H2 D (.lst [])) s3.heap.objs.size (cellsFrom (s3.heap.objs.size + 1) scope.names (cloFrom X.env.cells scope.names [])) fp
  have pt := ht s3 (upd H2 D (.lst [])) s3.heap.objs.size (cellsFrom (s3.heap.objs.size + 1) scope.names (cloFrom X.env.cells scope.names [])) fp
  have pe := he s3 (upd H2 D (.lst [])) s3.heap.objs.size (cellsFrom (s3.heap.objs.size + 1) scope.names (cloFrom X.env.cells scope.names [])) fp
  show codeAny _ _ (.compStart (.ListComp elt [⟨tg, iter, ifs, 0⟩] scope pos) 0 (.ref it) (.ref D) (compEnvC scope (cellsFrom (s3.heap.objs.size + 1) scope.names (cloFrom X.env.cells scope.names [])) s3.heap.objs.size X.env)) (compPost (model X.prog X.w) X.A X.xe use Qf (.ref D) s3.heap.objs.size) { s3 with heap := pushCells (s3.heap.push { cls := .type "dict", data := .dict #[] }) scope.names }
  have nfp : ∀ b ∈ fp, (upd H2 D (.lst [])) b = none := fun b hb => (f3 b hb).1.1
  generalize hce : compEnvC scope (cellsFrom (s3.heap.objs.size + 1) scope.names (cloFrom X.env.cells scope.names [])) s3.heap.objs.size X.env = ce at I4 pg pt pe ⊢
  have cL : ce.locals = s3.heap.objs.size := by subst hce; rfl
  generalize hH3 : upd H2 D (.lst []) = H3 at I3 I4 pg pt pe w0 nfp f3
  generalize hs4 : ({ s3 with heap := pushCells (s3.heap.push { cls := .type "dict", data := .dict #[] }) scope.names } : Shared) = s4 at I4 ⊢
  have st4 : tn 0 s4.heap := T.keep _ _ _ st3 fun b _ o e => by rw [← hs4]; exact pushCells_keeps _ _ _ _ (Heap.get?_push_of_some _ e)
  have stat : ∀ {σ' : St} {H' : Hp} {s' : Shared}, Inv (X.blk s3 H3 scope ce fp) [] σ' H' s' → (∀ b ∈ fp, H' b = none) → ∀ b ∈ fp, FpOk (X.blk s3 H3 scope ce fp) [] H' b := fun {σ' H' s'} I' hn b hb =>
    ⟨hn b hb, (I'.ok.exf b hb).1, I'.ok.exfs b hb, .inl hb, fun x c e => (I'.ok.exf b hb).2 x c e, fun p hp => absurd (show p ∈ ([] : List (Addr × Obj)) ++ [] from hp) (by simp)⟩
  have loop : codeAny (model X.prog X.w) X.A (.compLoop (.ListComp elt [⟨tg, iter, ifs, 0⟩] scope pos) 0 (.ref it) (.ref D) ce) (compPost (model X.prog X.w) X.A X.xe use Qf (.ref D) s3.heap.objs.size) s4 := by
    refine compLoop_any (fun n s' => ∃ i H', Inv (X.blk s3 H3 scope ce fp) [] (wipe σ (own.map (·.2))) H' s' ∧ tn i s'.heap ∧ (∀ b ∈ fp, H' b = none) ∧ W i n H') ?_ m0 ⟨0, H3, I4, st4, nfp, w0⟩
    rintro n s5 ⟨i, H5, I5, st5, n5, w5⟩
    rcases turn i n H5 w5 with ⟨stop, qq⟩ | ⟨go, Nx, hNx, step⟩
    · have td := T.done (X.blk s3 H3 scope ce fp) rfl rfl rfl (hc _ _ _ _) i [] s5 _ H5 (fun _ _ => False) I5 (stat I5 n5) st5 stop
      refine thnF td fun r s6 ⟨hr, I6⟩ => ?_
      subst hr
      -- back in the def's context
      have I7 : Inv X pins σ H5 s6 := I3.call' (ch := fp) I6.os I6.base I6.hok I6.bare fun b hb => ⟨(f3 b hb).1.2.2.2.1, (f3 b hb).1.2.1, (f3 b hb).1.2.2.2.2.1, (f3 b hb).1.2.2.2.2.2⟩
      have nC : H5 s3.heap.objs.size = none := by
        have z : H5 ce.locals = none := I6.free
        rw [cL] at z
        exact z
      obtain ⟨m, hn, _⟩ := I6.loc
      have hn : s6.heap.Ns ce.locals m := hn
      rw [cL] at hn
      exact hRR D s3.heap.objs.size s6 m H5 I7 qq hn (I3.fpOk (Nat.le_refl _) nC)
    · have ti := T.item (X.blk s3 H3 scope ce fp) rfl rfl rfl (hc _ _ _ _) i [] s5 _ H5 (fun _ _ => False) I5 (stat I5 n5) st5 go
      refine thnF ti fun r s6 ⟨u, hr, h6⟩ => ?_
      subst hr
      refine thnF h6 fun _ s7 ⟨x, H7, I7, r7, y7, st7, n7⟩ => ?_
      have I7' := I7.pinned (stat I7 n7) (T.obj _ _ st7)
      refine thnF (pg _ s7 _ H7 x u _ I7' r7 (step x H7 y7)) fun _ s8 ⟨σ8, H8, I8, hw8, q8⟩ => ?_
      refine thnF (pt _ s8 σ8 H8 _ I8 q8) fun b s9 ⟨H9, I9, q9⟩ => ?_
      -- the turn's end
      have fin : ∀ {s' : Shared} {H' : Hp}, Inv (X.blk s3 H3 scope ce fp) ([] ++ pinsAt fp s7.heap) σ8 H' s' → Nx H' → ∃ m, m < n ∧ ∃ i H', Inv (X.blk s3 H3 scope ce fp) [] (wipe σ (own.map (·.2))) H' s' ∧ tn i s'.heap ∧ (∀ b ∈ fp, H' b = none) ∧ W i m H' := fun {s' H'} I' nx => by
        obtain ⟨m', hm, w'⟩ := hNx H' nx
        have pin' : ∀ b ∈ fp, ∀ o, s7.heap.get? b = some o → s'.heap.get? b = some o ∧ H' b = none := fun b hb o e =>
          let z := I'.pin (b, o) (List.mem_append_right _ (List.mem_append_right _ (mem_pinsAt hb e)))
          ⟨z.1, z.2.1⟩
        have hl : (wipe σ (own.map (·.2))).length = σ8.length := by rw [← hw8, wipe_length]
        refine ⟨m', hm, i + 1, H', (I'.unpinned (pins := [])).weak hl (fun j v e => ?_), T.keep _ _ _ st7 fun b hb o e => (pin' b hb o e).1, fun b hb => ?_, w'⟩
        · rw [← hw8] at e
          exact (wipe_some e).1
        · obtain ⟨o, e, _⟩ := T.obj _ _ st7 b hb
          exact (pin' b hb o e).2
      cases b with
      | false =>
        simp only [Bool.false_eq_true, if_false] at q9 ⊢
        exact fin I9 q9
      | true =>
        simp only [if_true] at q9 ⊢
        refine thnF (pe _ s9 σ8 H9 _ I9 q9) fun z s10 ⟨yv, H10, I10, r10, acc, hD10, hz10, nx⟩ => ?_
        exact app_ok (X := X.blk s3 H3 scope ce fp) I10 hD10 hz10 r10 fun s11 I11 => fin I11 nx
  exact codeAny_compStart_list loop (T.self X.A 0 _ _ _ st4 loop)
theorem pe_lc {elt tg iter : Expr} {ifs : List Expr} {scope : Scope} {own : List (Str × Nat)} {pos : Pos} {wi : TI} {g : TG} {tt : TT} {te : TE} (hc : X.calm = true) (hN : X.N.Nodup) (hi : PI X tg iter wi) (ok : BlkOk X.N X.env.scope scope own)
    (hg : ∀ (s : Shared) (H : Hp) (C : Addr) (cl : List (Str × Addr)) (fp : List Addr), PG (X.blk s H scope (compEnvC scope cl C X.env) fp) tg g) (ht : ∀ (s : Shared) (H : Hp) (C : Addr) (cl : List (Str × Addr)) (fp : List Addr), PTs (X.blk s H scope (compEnvC scope cl C X.env) fp) ifs tt)
    (he : ∀ (s : Shared) (H : Hp) (C : Addr) (cl : List (Str × Addr)) (fp : List Addr), PE (X.blk s H scope (compEnvC scope cl C X.env) fp) elt te) (hs : ∀ x, foldedSetIterable iter X.env x = pure x := by intro _; rfl) :
    PE X (.ListComp elt [⟨tg, iter, ifs, 0⟩] scope pos) (tLc wi g tt te (own.map (·.2))) := by
  intro pins s σ H Q I h
  rw [eval_ListComp]
  refine lc_coreC (fun _ _ _ _ => hc) hN I hi ok hg ht he hs h fun D C s' m H' I' q hn f => ⟨m, hn, fun h'' sb => ?_⟩
  obtain ⟨f0, f1, f2, f3, f4, f5⟩ := f
  exact ⟨.ref D, H', I'.turned (t' := s'.toks) (fun b o hb e => (sb.2 b hb).trans e) f0 f1 f3 f4 f5, rfl, q⟩
theorem ps_setLc {i : Nat} {y : Str} {py : Pos} {elt tg iter : Expr} {ifs : List Expr} {scope : Scope} {own : List (Str × Nat)} {pos spos : Pos} {wi : TI} {g : TG} {tt : TT} {te : TE} (hc : X.calm = true) (hN : X.N.Nodup) (hy : X.N[i]? = some y) (hyl : X.env.scope.names.lookup y = some .local)
    (hsw : swapsWith (.ListComp elt [⟨tg, iter, ifs, 0⟩] scope pos) (some (.Name y py)) spos.line X.env = pure true) (hi : PI X tg iter wi) (ok : BlkOk X.N X.env.scope scope own)
    (hg : ∀ (s : Shared) (H : Hp) (C : Addr) (cl : List (Str × Addr)) (fp : List Addr), PG (X.blk s H scope (compEnvC scope cl C X.env) fp) tg g) (ht : ∀ (s : Shared) (H : Hp) (C : Addr) (cl : List (Str × Addr)) (fp : List Addr), PTs (X.blk s H scope (compEnvC scope cl C X.env) fp) ifs tt)
    (he : ∀ (s : Shared) (H : Hp) (C : Addr) (cl : List (Str × Addr)) (fp : List Addr), PE (X.blk s H scope (compEnvC scope cl C X.env) fp) elt te) (hs : ∀ x, foldedSetIterable iter X.env x = pure x := by intro _; rfl) :
    PS X (.Assign [.Name y py] (.ListComp elt [⟨tg, iter, ifs, 0⟩] scope pos) spos) (tAsg (tLc wi g tt te (own.map (·.2))) (gName i)) := by
  intro pins s σ H D I h
  rw [exec_Assign_Name_used _ _ _ _ hsw]
  refine wpAny_bind (wpAny_standAt (wpAny_bind ?_))
  show wpAny _ X.A (do let _ ← comprehension (.ListComp elt [⟨tg, iter, ifs, 0⟩] scope pos) scope X.env (firstIterPos [⟨tg, iter, ifs, 0⟩] pos) (newList []) false (eval iter X.env) (some (assign (.Name y py) X.env))) _ _ s
  have h : tLc wi g tt te (own.map (·.2)) σ H (fun x H1 => gName i x σ H1 D.nx) := h
  refine wpAny_bind (thn (lc_coreC (C0 := fun X => X.calm = true) (Qf := fun _ s' => SP X pins D .next s') (fun _ _ _ _ => hc) hN I hi ok hg ht he hs h fun L C s' m H' I' q hn f => ?_) fun _ s' hq => wpAny_pure (wpAny_pure hq))
  show wpAny _ _ (assign (.Name y py) X.env (.ref L)) _ _ _
  refine wpAny_assign_Name (store_ok2 (v := V.ref L) I' hN hy (.inl hyl) rfl (fun s2 I2 ⟨a, sb, ha⟩ => ?_) (.inr hyl))
  obtain ⟨f0, f1, f2, f3, f4, f5⟩ := f
  have haC : C ≠ a := by
    rcases ha with z | z
    · rw [z]; exact f1
    · exact fun e => f4 y a z e.symm
  refine ⟨m, hn.sameBut sb haC, fun h3 sb3 => ?_⟩
  exact ⟨_, H', I2.turned (t' := s2.toks) (fun b o hb e => (sb3.2 b hb).trans e) f0 f1 f3 f4 f5, q⟩
theorem sw_true {elt : Expr} {gs : List Comprehension} {scope : Scope} {pos py : Pos} {y : Str} {l : Nat} {env : Env} (hk : env.scope.kind = .function) (hy : env.scope.names.lookup y = some .local) (hl : (py.line == pos.line) = true)
    (ha : (scope.names.any fun (n, k) => n == y && (k == .local || k == .cell)) = false) : swapsWith (.ListComp elt gs scope pos) (some (.Name y py)) l env = pure true := by
  have ky : env.kindOf y = some .local := hy
  have hb : env.blockKind = .function := by unfold Env.blockKind; rw [hk]; rfl
  unfold swapsWith
  simp only [hb, ky, ha, Expr.pos, hl]
  rfl
end
def blkC (N : List Str) (sc scope : Scope) (own : List (Str × Nat)) : Bool :=
  (match scope.kind with | .function => true | _ => false) && (scope.names.all fun y => decide (scope.names.lookup y.1 = some y.2)) && (own.all fun p => decide (N[p.2]? = some p.1)) &&
    (scope.names.all fun y => match y.2 with
      | .free => (match sc.names.lookup y.1 with | some .cell => true | some .free => true | _ => false)
      | .local => decide (y.1 ∈ own.map (·.1)) || decide (y.1 ∉ N)
      | .cell => decide (y.1 ∈ own.map (·.1)) || decide (y.1 ∉ N)
      | _ => true)
theorem blkOk_by {N : List Str} {sc scope : Scope} {own : List (Str × Nat)} (h : blkC N sc scope own = true) : BlkOk N sc scope own := by
  unfold blkC at h
  simp only [Bool.and_eq_true, List.all_eq_true, decide_eq_true_eq] at h
  obtain ⟨⟨⟨h1, h2⟩, h3⟩, h4⟩ := h
  refine ⟨?_, h2, h3, fun y hy e => ?_, fun y hy e => ?_⟩
  · split at h1
    · assumption
    · cases h1
  · have q := h4 y hy
    simp only [e] at q
    split at q <;> first | exact .inl (by assumption) | exact .inr (by assumption) | cases q
  · have q := h4 y hy
    rcases e with e | e <;> (simp only [e, Bool.or_eq_true, decide_eq_true_eq] at q; exact q)
end L2
namespace L2
open PySem PySem.Spec PyProof.Rows
section
variable {prog : Program} {w : World} {A : Around} {R : Result → Shared → Prop} {s : Shared} {elt t0 i0 t1 i1 : Expr} {ifs0 ifs1 : List Expr} {scope : Scope} {pos : Pos} {it acc : Value} {env : Env}
end
section
variable {X : Cx}
end
end L2
namespace L2
open PySem PySem.Spec PyProof.Rows
section
variable {κ : Type} [DecidableEq κ]
def valV (kvs : List (κ × V)) (k : κ) : Option V := (kvs.find? fun kv => decide (kv.1 = k)).map (·.2)
def putK (kvs : List (κ × V)) (k : κ) (v : V) : List (κ × V) :=
  if (kvs.any fun kv => decide (kv.1 = k)) = true then kvs.map (fun kv => if kv.1 = k then (kv.1, v) else kv) else kvs ++ [(k, v)]
def dropK (kvs : List (κ × V)) (k : κ) : List (κ × V) := kvs.filter fun kv => decide (kv.1 ≠ k)
theorem valV_pos {p : κ × V} {r : List (κ × V)} {k : κ} (e : p.1 = k) : valV (p :: r) k = some p.2 := by simp [valV, List.find?_cons, e]
theorem valV_neg {p : κ × V} {r : List (κ × V)} {k : κ} (e : ¬ p.1 = k) : valV (p :: r) k = valV r k := by simp [valV, List.find?_cons, e]
theorem valV_any (k : κ) : ∀ kvs : List (κ × V), (kvs.any fun kv => decide (kv.1 = k)) = (valV kvs k).isSome
  | [] => rfl
  | p :: r => by
    rw [List.any_cons]
    by_cases e : p.1 = k
    · simp only [valV_pos e, decide_eq_true e, Bool.true_or, Option.isSome_some]
    · rw [valV_neg e, decide_eq_false e, Bool.false_or]; exact valV_any k r
theorem RelO.isSome_eq {o : Option V} {u : Option Value} (r : RelO o u) : o.isSome = u.isSome := by
  cases o with
  | none => cases u with
    | none => rfl
    | some _ => exact (show False from r).elim
  | some _ => cases u with
    | none => exact (show False from r).elim
    | some _ => rfl
theorem KV.any {kvs : List (κ × V)} {vs : List (κ × Value)} (r : KV kvs vs) (k : κ) : (kvs.any fun kv => decide (kv.1 = k)) = vs.any fun kv => decide (kv.1 = k) := by
  unfold KV at r
  induction r with
  | nil => rfl
  | cons h t ih => rw [List.any_cons, List.any_cons, ih, h.1]
theorem KV.repl {kvs : List (κ × V)} {vs : List (κ × Value)} (r : KV kvs vs) (k : κ) {y : V} {u : Value} (ry : RelV y u) :
    KV (kvs.map fun kv => if kv.1 = k then (kv.1, y) else kv) (vs.map fun kv => if kv.1 = k then (kv.1, u) else kv) := by
  unfold KV at r ⊢
  induction r with
  | nil => exact .nil
  | @cons p q ps qs h t ih =>
    rw [List.map_cons, List.map_cons]
    refine .cons ?_ ih
    obtain ⟨h1, h2⟩ := h
    by_cases e : p.1 = k
    · rw [if_pos e, if_pos (h1.symm.trans e)]; exact ⟨h1, ry⟩
    · rw [if_neg e, if_neg (fun z => e (h1.trans z))]; exact ⟨h1, h2⟩
theorem KV.put {kvs : List (κ × V)} {vs : List (κ × Value)} (r : KV kvs vs) (k : κ) {y : V} {u : Value} (ry : RelV y u) : KV (putK kvs k y) (stored vs k u) := by
  unfold putK stored
  rw [r.any k]
  by_cases e : (vs.any fun kv => decide (kv.1 = k)) = true
  · rw [if_pos e, if_pos e]; exact r.repl k ry
  · rw [if_neg e, if_neg e]; exact Paired.snoc r ⟨rfl, ry⟩
theorem KV.drop {kvs : List (κ × V)} {vs : List (κ × Value)} (r : KV kvs vs) (k : κ) : KV (dropK kvs k) (without vs k) := by
  unfold KV at r ⊢
  unfold dropK without
  induction r with
  | nil => exact .nil
  | @cons p q ps qs h t ih =>
    obtain ⟨h1, h2⟩ := h
    rw [List.filter_cons, List.filter_cons]
    by_cases e : p.1 = k
    · have a : ¬ decide (p.1 ≠ k) = true := by simp [e]
      have b : ¬ decide (q.1 ≠ k) = true := by simp [h1.symm.trans e]
      rw [if_neg a, if_neg b]; exact ih
    · have e' : ¬ q.1 = k := fun z => e (h1.trans z)
      have a : decide (p.1 ≠ k) = true := by simp [e]
      have b : decide (q.1 ≠ k) = true := by simp [e']
      rw [if_pos a, if_pos b]; exact .cons ⟨h1, h2⟩ ih
theorem KV.keys {kvs : List (κ × V)} {vs : List (κ × Value)} (r : KV kvs vs) : kvs.map (·.1) = vs.map (·.1) := by
  unfold KV at r
  induction r with
  | nil => rfl
  | cons h t ih => rw [List.map_cons, List.map_cons, ih, h.1]
theorem KV.length {kvs : List (κ × V)} {vs : List (κ × Value)} (r : KV kvs vs) : kvs.length = vs.length := Paired.length r
end
abbrev KT (H : Hp) : List (List Key × V) → List (List Key × Addr × Value) → Prop := Paired fun p q => p.1 = q.1 ∧ H q.2.1 = some (.tup (p.1.map kV)) ∧ RelV p.2 q.2.2
theorem KT.val {H : Hp} {kvs : List (List Key × V)} {xs : List (List Key × Addr × Value)} (r : KT H kvs xs) (k : List Key) : RelO (valV kvs k) ((atKey xs k).map (·.2)) := by
  induction r with
  | nil => exact True.intro
  | @cons p q ps qs h t ih =>
    obtain ⟨h1, _, h2⟩ := h
    by_cases e : p.1 = k
    · have e' : q.1 = k := h1.symm.trans e
      have b : atKey (q :: qs) k = some q.2 := by simp [atKey, List.find?_cons, e']
      rw [valV_pos e, b]; exact h2
    · have e' : ¬ q.1 = k := fun z => e (h1.trans z)
      have b : atKey (q :: qs) k = atKey qs k := by simp [atKey, List.find?_cons, e']
      rw [valV_neg e, b]; exact ih
theorem KT.repl {H : Hp} {kvs : List (List Key × V)} {xs : List (List Key × Addr × Value)} (r : KT H kvs xs) (k : List Key) {y : V} {u : Value} (ry : RelV y u) :
    KT H (kvs.map fun kv => if kv.1 = k then (kv.1, y) else kv) (xs.map (putAt k u)) := by
  induction r with
  | nil => exact .nil
  | @cons p q ps qs h t ih =>
    rw [List.map_cons, List.map_cons]
    refine .cons ?_ ih
    obtain ⟨h1, h2, h3⟩ := h
    unfold putAt
    by_cases e : p.1 = k
    · rw [if_pos e, if_pos (h1.symm.trans e)]; exact ⟨h1, h2, ry⟩
    · rw [if_neg e, if_neg (fun z => e (h1.trans z))]; exact ⟨h1, h2, h3⟩
theorem KT.put {H : Hp} {kvs : List (List Key × V)} {xs : List (List Key × Addr × Value)} (r : KT H kvs xs) (k : List Key) {b : Addr} {y : V} {u : Value} (hb : H b = some (.tup (k.map kV))) (ry : RelV y u) :
    KT H (putK kvs k y) (storedH xs k b u) := by
  have e : (kvs.any fun kv => decide (kv.1 = k)) = (atKey xs k).isSome := by
    rw [valV_any, (r.val k).isSome_eq, Option.isSome_map]
  unfold putK storedH
  rw [e]
  by_cases q : (atKey xs k).isSome = true
  · rw [if_pos q, if_pos q]; exact r.repl k ry
  · rw [if_neg q, if_neg q]; exact Paired.snoc r ⟨rfl, hb, ry⟩
theorem KT.keeps {H H' : Hp} {kvs : List (List Key × V)} {xs : List (List Key × Addr × Value)} (r : KT H kvs xs) (ht : ∀ b ys, H b = some (.tup ys) → H' b = some (.tup ys)) : KT H' kvs xs :=
  Paired.mapP r fun _ _ z => ⟨z.1, ht _ _ z.2.1, z.2.2⟩
section
variable {P : Program} {w : World} {H : Hp} {h : Heap} {a : Addr}
end
def DGet (H : Hp) (a : Addr) (y : V) (r : Option V) : Prop :=
  (∃ kvs k, Rd H a (.dK kvs) ∧ y = kV k ∧ r = valV kvs k) ∨ ∃ kvs k b, Rd H a (.dT kvs) ∧ y = .ref b ∧ H b = some (.tup (k.map kV)) ∧ r = valV kvs k
def DPut (H : Hp) (a : Addr) (y v : V) (H' : Hp) : Prop :=
  (∃ kvs k, H a = some (.dK kvs) ∧ y = kV k ∧ kvs.length < sizeLine ∧ H' = upd H a (.dK (putK kvs k v))) ∨
  ∃ kvs k b, H a = some (.dT kvs) ∧ y = .ref b ∧ H b = some (.tup (k.map kV)) ∧ kvs.length < sizeLine ∧ H' = upd H a (.dT (putK kvs k v))
theorem DGet.k {H : Hp} {a : Addr} {kvs : List (Key × V)} {k : Key} (e : H a = some (.dK kvs)) : DGet H a (kV k) (valV kvs k) := .inl ⟨kvs, k, .inl e, rfl, rfl⟩
theorem DGet.t {H : Hp} {a b : Addr} {kvs : List (List Key × V)} {k : List Key} (e : H a = some (.dT kvs)) (eb : H b = some (.tup (k.map kV))) : DGet H a (.ref b) (valV kvs k) := .inr ⟨kvs, k, b, .inl e, rfl, eb, rfl⟩
theorem DPut.k {H : Hp} {a : Addr} {kvs : List (Key × V)} {k : Key} {v : V} (e : H a = some (.dK kvs)) (hl : kvs.length < sizeLine) : DPut H a (kV k) v (upd H a (.dK (putK kvs k v))) := .inl ⟨kvs, k, e, rfl, hl, rfl⟩
theorem DPut.t {H : Hp} {a b : Addr} {kvs : List (List Key × V)} {k : List Key} {v : V} (e : H a = some (.dT kvs)) (eb : H b = some (.tup (k.map kV))) (hl : kvs.length < sizeLine) :
    DPut H a (.ref b) v (upd H a (.dT (putK kvs k v))) := .inr ⟨kvs, k, b, e, rfl, eb, hl, rfl⟩
section
variable {X : Cx} {pins : List (Addr × Obj)} {σ : St} {H : Hp} {s : Shared} {a : Addr} {y v : V} {u r : Value} {o : Option V} {A : Around} {E : Value → Shared → Prop}
end
section
variable {X : Cx} {pins : List (Addr × Obj)} {σ : St} {H : Hp} {s : Shared} {a : Addr} {kvs : List (Key × V)} {k : Key} {u : Value} {A : Around} {E : Value → Shared → Prop}
end
section
variable {X : Cx} {o i e value : Expr} {pos pos' tpos : Pos} {td ty tv : TE}
end
section
variable {X : Cx} {pos : Pos}
end
section
variable {X : Cx} {pins : List (Addr × Obj)} {σ : St} {H : Hp} {s : Shared} {a : Addr} {y d : V} {u r : Value} {o : Option V} {A : Around} {E : Value → Shared → Prop}
end
section
variable {X : Cx} {o e f : Expr} {apos cpos : Pos} {td ty tx : TE}
end
section
variable {X : Cx} {pins : List (Addr × Obj)} {σ : St} {H : Hp} {s : Shared} {a : Addr} {kvs : List (Key × V)} {A : Around} {E : Value → Shared → Prop}
end
section
variable {X : Cx} {pins : List (Addr × Obj)} {σ : St} {H : Hp} {s : Shared} {a : Addr} {y : V} {u : Value} {A : Around} {E : Value → Shared → Prop}
end
end L2
namespace L2
open PySem PySem.Spec PyProof.Rows
section
variable {prog : Program} {w : World} {A : Around} {E : Value → Shared → Prop}
end
section
variable {X : Cx}
end
end L2
namespace L2
open PySem PySem.Spec PyProof.Rows
section
variable {X : Cx} {pins : List (Addr × Obj)} {σ : St} {H : Hp} {s : Shared} {h' : Heap}
end
section
variable {X : Cx}
end
def RgC (i j c : Int) (n : Nat) : Prop := c ≠ 0 ∧ c.natAbs < 1073741824 ∧ Builtin.Range.small i j c = true ∧ Builtin.Range.rangeSize i j c = n
theorem RgC.neg {i j : Int} (ha : -(2 ^ 62) ≤ i) (ha' : i < 2 ^ 62) (hb : -(2 ^ 62) ≤ j) (hb' : j < 2 ^ 62) : RgC i j (-1) (i - j).toNat :=
  ⟨by decide, by decide, PySem.W.small_down ha ha' hb hb', PySem.W.rangeSize_downNat i j⟩
section
variable {X : Cx} {tg : Expr}
end
section
variable {X : Cx} {tg : Expr}
end
section
variable {prog : Program} {w : World} {A : Around} {E : Value → Shared → Prop} {s : Shared}
end
section
variable {X : Cx} {pins : List (Addr × Obj)} {σ : St} {H : Hp} {s : Shared} {d : Addr} {o : Obj}
end
section
variable {P : Program} {w : World} {K : PySem.W.Frag} {tg : Expr} {d : Addr} {o : Obj} {es : Array DictEntry} {ep : Nat}
end
section
variable {X : Cx} {tg e : Expr} {td : TE} {apos cpos : Pos}
end
end L2
section 
namespace Bits
open PySem PyProof.Rows
end Bits
end 
section 
namespace TL
open PySem PySem.Builtin PySem.Builtin.Str PySem.StrLaws
abbrev tl (x : Str) : List Nat := x.cps.toList
end TL
end 
namespace L2
open PySem PySem.Spec PyProof.Rows
section
variable {X : Cx} {pins : List (Addr × Obj)} {σ : St} {H : Hp} {s : Shared} {Q : VK}
end
section
variable {X : Cx}
end
section
variable {X : Cx} {o e : Expr} {to te : TE}
end
end L2
namespace L2
open PySem PySem.Spec PyProof.Rows
section
variable {X : Cx}
end
end L2
namespace Att
open PySem PySem.W PySem.Calls PyProof.Rows
theorem ints_of_wellAll {P : Params} {h : Heap} : ∀ (ns : List Int) (vs : List Value), WellAll P h vs (ns.map WData.int) → IntsAre vs ns := by
  intro ns
  induction ns with
  | nil =>
    intro vs w
    rw [List.map_nil] at w
    cases w
    exact .nil
  | cons n ns ih =>
    intro vs w
    rw [List.map_cons] at w
    cases w with
    | cons a b =>
      cases a
      exact .cons _ _ (ih _ b)
theorem script_of {l : OpenLaw} {n : Nat} (hn : l.most = some n) {P : Params} {h : Heap} {args : List WData} {vals : List Value}
    (hpre : l.row.toRowW.claim.pre args = true) (hwl : WellAll P h vals args) :
    ∃ a vs ns, vals = [Value.ref a] ∧ args = [WData.list (ns.map WData.int)] ∧ h.get? a = some { cls := .type "list", data := .seq vs.toArray } ∧ IntsAre vs ns ∧ ns.length ≤ n := by
  have hsh : WShape.hasAll [] args [.list .int] = true := (pre_splitW hpre).1
  have hc : l.pre.holds [] { args := args } = true := (pre_splitW hpre).2
  obtain ⟨d, r, rfl, h1, h2⟩ := hasAllW_cons hsh
  obtain rfl := hasAllW_nil h2
  obtain ⟨xs, rfl, h3⟩ := hasW_list h1
  obtain ⟨ns, rfl⟩ := items_int h3
  have hlen : ns.length ≤ n := by
    unfold OpenLaw.pre at hc
    have h4 : (WTm.not (.lt (.lit (.int (n : Int))) (.len (.arg 0)))).holds [] { args := [.list (ns.map .int)] } = true := by
      have h4 := (holds_andW hc).1
      rw [hn] at h4
      exact h4
    have h5 := condW_of h4 (w_not (w_lt w_lit (w_len_list (w_arg rfl))))
    rw [List.length_map] at h5
    refine Nat.le_of_not_lt fun q => ?_
    have q' : (n : Int) < ((ns.length : Nat) : Int) := by omega
    first
      | (rw [decide_eq_true q'] at h5; exact absurd h5 (by decide))
      | (simp at h5; omega)
  cases hwl with
  | cons w1 w2 =>
    cases w2
    cases w1 with
    | list ho hall => exact ⟨_, _, ns, rfl, rfl, ho, ints_of_wellAll ns _ hall, hlen⟩
theorem post_true (l : OpenLaw) (args : List WData) : l.row.toRowW.claim.post args (.bool true) args = true :=
  postW_of (r := l.row.toRowW) (X := (true == true))
    (show WShape.has [] (.bool true) .bool = true by first | rfl | decide | simp [WShape.has, WShape.arms, WShape.armsAll])
    (show (WTm.eq .res (.lit (.bool true))).value [] { args := args, res := some (.bool true), after := args } = some (.bool (true == true)) from w_eq_bool (w_res rfl) w_lit) rfl
theorem attach_call {l : OpenLaw} {n : Nat} {q : Program} {loose : List Str} {XP : (Str → Option Value) → Heap → Prop} {YP : World → Heap → Prop} {d : DefRec}
    (hn : l.most = some n) (hdf : d.params.defaults = [])
    (call : ∀ (w : World) (s₀ s₁ : Shared) (mg mb : Str → Option Value) (fa : Addr) (o : Obj) (pm cd doc : Value) (a : Addr) (vs : List Value) (ns : List Int),
      Ground q loose [] XP w s₀ mg mb s₁.heap → YP w s₁.heap →
      s₁.heap.get? fa = some o → o.data = .func (docDef d.name d.params d.body d.scope pm cd doc) → s₁.heap.CodeRec cd d.name → mg d.name = some (.ref fa) →
      s₁.heap.get? a = some { cls := .type "list", data := .seq vs.toArray } → IntsAre vs ns → ns.length ≤ n → s₁.gens = #[] →
      codeAny (model l.prog w) callerA (.call (.ref fa) ⟨[.ref a], []⟩) (fun r s' => r = .ok (.ret (.bool true)) ∧ OldK s₁.heap s'.heap ∧ s'.os = s₁.os ∧ AllBare s'.gens) s₁) :
    WalkO q loose XP YP l.row.toRowW d [] (fun f vs => PySem.call f vs) := by
  intro w s₀ s₁ mg mb G Y fa o pm cd doc dV kV ho hd hcd hD hmg hg args vals as hpre hlay hrd hwl hlo
  obtain rfl : dV = .none := Dflts.none hD hdf
  obtain rfl : kV = .none := Dflts.noKw hD
  obtain ⟨a, vs, ns, rfl, rfl, hobj, hints, hlen⟩ := script_of hn hpre hwl
  refine enter_call (codeAny_mono (call w s₀ s₁ mg mb fa o pm cd doc a vs ns G Y ho (fd_plain hd) hcd hmg hobj hints hlen hg) fun r s' hq => ?_)
  obtain ⟨rfl, h2, h3, h4⟩ := hq
  exact ⟨.inl ⟨.bool true, .bool true, [], rfl, fun _ => rfl, .bool true, post_true l _, fun _ => ⟨List.Pairwise.nil, fun _ hm => (nomatch hm)⟩⟩, h2, h3, h4⟩
section
variable {prog : Program} {w : World} {A : Around} {E : Value → Shared → Prop} {s : Shared} {K : Frag}
theorem call_fn {R : Result → Shared → Prop} {name qual : Str} {params : Arguments} {body : List Stmt} {scope : Scope} {dV kV doc pm cdv ct oc : Value} {an od : Option Addr} {osl : Array (Option Value)} {f : Addr} {args : Args} {binds : List (Str × Value)}
    (X : K.In s.heap) (hlim : s.heap.NoLimit) (ho : K.lookup f = some ⟨oc, od, .func (fnOf name qual params body scope dV kV doc pm an cdv ct), osl⟩) (hcd : codeIn K cdv qual = true) (hroom : A.depth < recursionLimit)
    (hbind : BindsTo s (fnOf name qual params body scope dV kV doc pm an cdv ct) args binds)
    (hkind : (binds.all fun y => scope.names.lookup y.1 == some .local || scope.names.lookup y.1 == some .cell) = true)
    (h : ∀ s₁, InCallC s s.heap.objs.size (bindL (envOfC qual scope s.heap.objs.size f cdv).kindOf binds fun _ => none) (cellsFrom (s.heap.objs.size + 1) scope.names [])
        (bindC (envOfC qual scope s.heap.objs.size f cdv).kindOf binds fun _ => none) s₁ →
      wpAny (model prog w) (A.deeper (envOfC qual scope s.heap.objs.size f cdv)) (execs body (envOfC qual scope s.heap.objs.size f cdv))
        (fun fl s' => R (.ok (.ret (match fl with | .ret v => v | _ => .none))) s')
        (fun e s' => wpAny (model prog w) (A.deeper (envOfC qual scope s.heap.objs.size f cdv)) (leaving (envOfC qual scope s.heap.objs.size f cdv) e) (fun _ s'' => R (.error e) s'') (fun e' s'' => R (.error e') s'') s') s₁)
    (hco : scope.isCoroutine = false) (hgen : scope.isGenerator = false) (hk : scope.kind = .function) : codeAny (model prog w) A (.call (.ref f) args) R s := by
  refine codeAny_call_function hroom (X _ _ ho) rfl hco hgen rfl (codeRec_of X hcd) (hbind _ _ _ _ ?_)
  refine wpAny_newFunctionEnv_cells hk (kindsX hkind _) fun env he s₁ x => ?_
  subst he
  exact ⟨hlim.keeps x.toInCall.keep, codeAny_func (h s₁ x)⟩
end
end Att
namespace L2
open PySem PySem.Spec PyProof.Rows
theorem vals_ints : ∀ {vs : List Value} {ns : List Int}, IntsAre vs ns → Vals (ns.map V.int) vs
  | _, _, .nil => .nil
  | _, _, .cons n t h => .cons ⟨t, rfl⟩ (vals_ints h)
def Only (H : Hp) : Prop := ∀ b, H b = none ∨ ∃ o xs, H b = some (.frz o (.lst xs))
theorem law_call {P : Program} {w : World} {K : PySem.W.Frag} {mg mb : Str → Option Value} {CX : CXT} {k : Nat} {fa a : Addr} {fd : FuncData} {x : Str} {sp : Sp} {s₁ : Shared} {vs : List Value} {ns : List Int}
    (KX : K.In s₁.heap) (hns : s₁.heap.Ns mainGlobals mg) (hb : s₁.heap.Ns builtinsNs mb) (hbb : ∀ x : Str, x ≠ "__name__" → mb x = bootBuiltins x) (hlim : s₁.heap.NoLimit) (hg : s₁.gens = #[])
    (ha : s₁.heap.get? a = some { cls := .type "list", data := .seq vs.toArray }) (hi : IntsAre vs ns) (hl : ns.length ≤ sizeLine) (hr : Room k callerA)
    (F : ∀ base : Heap, K.In base → base.Ns mainGlobals mg → FnOk P w K mg base CX k fa fd [x] sp) (hbind : ∀ (s : Shared) (u : Value), BindsTo s fd ⟨[u], []⟩ [(x, u)])
    (hsp : ∀ H : Hp, Only H → SqL K H a (ns.map V.int) → sp [.ref a] H (fun v _ => v = .bl true) fun _ _ _ => False)
    (hCX : ∀ H e s', CX [] H s₁ (fun _ _ _ => False) e s' → False) :
    codeAny (model P w) callerA (.call (.ref fa) ⟨[.ref a], []⟩) (fun r s' => r = .ok (.ret (.bool true)) ∧ OldK s₁.heap s'.heap ∧ s'.os = s₁.os ∧ AllBare s'.gens) s₁ := by
  have rv := vals_ints hi
  have lenV := hi.length
  -- from an abstract heap in which nothing but the script may be tracked
  have core : ∀ H : Hp, Only H → SqL K H a (ns.map V.int) → HOk P w H s₁.heap → (∀ b, H b ≠ none → b = a) → (H a ≠ none → K.lookup a = none) →
      codeAny (model P w) callerA (.call (.ref fa) ⟨[.ref a], []⟩) (fun r s' => r = .ok (.ret (.bool true)) ∧ OldK s₁.heap s'.heap ∧ s'.os = s₁.os ∧ AllBare s'.gens) s₁ := by
    intro H hO hS hok hA hK
    have base_of : ∀ {b : Addr} {o : Obj}, s₁.heap.get? b = some o → H b = none → (hidT s₁.heap H).get? b = some o := fun e n => hidT_get e n
    have noA : ∀ {b : Addr} {o : Obj} {es : Array DictEntry} {ep : Nat}, s₁.heap.get? b = some o → o.data = .dict es ep → H b = none := fun {b o es ep} e d => by
      cases q : H b with
      | none => rfl
      | some u =>
        have e' : b = a := hA b (by rw [q]; simp)
        subst e'
        rw [ha] at e; cases e
        have d' : Data.seq vs.toArray _ = Data.dict es ep := d
        cases d'
    have nsK : ∀ {b : Addr} {m : Str → Option Value}, s₁.heap.Ns b m → (hidT s₁.heap H).Ns b m := fun {b m} ⟨o, es, ep, e, d, r⟩ => ⟨o, es, ep, base_of e (noA e d), d, r⟩
    have hKb : K.In (hidT s₁.heap H) := fun b o e => base_of (KX b o e) (by
      cases q : H b with
      | none => rfl
      | some u =>
        have e' : b = a := hA b (by rw [q]; simp)
        subst e'
        rw [hK (by rw [q]; simp)] at e; cases e)
    have hM : Mod K mg (hidT s₁.heap H) := ⟨hKb, nsK hns, ⟨mb, nsK hb, hbb⟩, let ⟨mc, h1, h2⟩ := hlim; ⟨mc, nsK h1, h2⟩⟩
    have e0 : Env0 P w K mg (hidT s₁.heap H) callerA [] s₁ H := ⟨rfl, hM, fun b o e => of_hidT e, Nat.le_of_eq (hidT_size _ _), trivial, fun b hb => absurd (show b ∈ ([] : List Addr) from hb) (by simp), hok, .of_eq hg⟩
    refine codeAny_mono ((F _ hKb (nsK hns)).run callerA [] s₁ H ⟨[.ref a], []⟩ [.ref a] [.ref a] _ _ hr ⟨fun _ => rfl, .inl rfl⟩ e0 (hbind s₁ (.ref a)) (.cons rfl .nil) (hsp H hO hS)) fun r s' h => ?_
    cases r with
    | error e => exact (hCX H e s' h).elim
    | ok fl =>
      cases fl with
      | next => exact False.elim h
      | brk => exact False.elim h
      | cont => exact False.elim h
      | ret u =>
        obtain ⟨v, H', os, bare, un, hok', r', q⟩ := h
        have q' : v = .bl true := q
        subst q'
        obtain rfl : u = Value.bool true := r'
        refine ⟨rfl, OldK.of_keep fun b o e => ?_, os, bare⟩
        cases q : H b with
        | none => exact un.keep b o e q (by intro z; exact absurd (show b ∈ ([] : List Addr) from z) (by simp)) (by simp)
        | some u =>
          rcases hO b with z | ⟨ob, xs, z⟩
          · rw [q] at z; cases z
          · have z2 := un.frzs b ob _ z
            obtain ⟨e1, _⟩ := hok b _ z
            obtain ⟨e2, _⟩ := hok' b _ z2
            rw [e] at e1; cases e1
            exact e2
  cases hk : K.lookup a with
  | some o =>
    -- the script is one of the module's own objects
    have e := KX a o hk
    rw [ha] at e
    cases e
    refine core (fun _ => none) (fun _ => .inl rfl) (.inr ⟨_, vs.toArray, _, hk, rfl, rfl, rfl, by rw [List.size_toArray, lenV]; exact hl, by simpa using rv⟩) (fun b u z => by have z' : (none : Option HO) = some u := z; cases z') (fun b z => absurd rfl z) fun z => absurd rfl z
  | none =>
    refine core (fun b => if b = a then some (.frz { cls := .type "list", data := .seq vs.toArray } (.lst (ns.map V.int))) else none) (fun b => ?_) (.inl (.inr ⟨{ cls := .type "list", data := .seq vs.toArray }, if_pos rfl⟩)) (fun b u z => ?_) (fun b z => ?_) fun _ => hk
    · by_cases hb : b = a
      · exact .inr ⟨_, _, if_pos hb⟩
      · exact .inl (if_neg hb)
    · by_cases hb : b = a
      · have z' := (if_pos hb).symm.trans z
        cases z'
        subst hb
        exact ⟨ha, by rw [List.length_map]; exact hl, vs, _, rv, ha⟩
      · have z' := (if_neg hb).symm.trans z
        cases z'
    · by_cases hb : b = a
      · exact hb
      · exact absurd (if_neg hb) z
end L2
namespace L2
open PySem PySem.Spec PyProof.Rows
theorem walk_of {l : PySem.W.OpenLaw} {n k : Nat} {q : Program} {loose : List Str} {XP : (Str → Option Value) → Heap → Prop} {YP : World → Heap → Prop} {d : DefRec} {K : Params → PySem.W.Frag} {CX : World → CXT} {sp : World → Sp} {x : Str}
    (hn : l.most = some n) (hn2 : n ≤ sizeLine) (hdf : d.params.defaults = []) (hr : Room k callerA)
    (hY : ∀ (w : World) (h : Heap), YP w h → (K w.params).In h)
    (F : ∀ (w : World) (mg : Str → Option Value) (fa : Addr) (h : Heap), (K w.params).In h → h.Ns mainGlobals mg → mg d.name = some (.ref fa) →
      ∃ fd : FuncData, (∀ (s : Shared) (u : Value), BindsTo s fd ⟨[u], []⟩ [(x, u)]) ∧
        ∀ base : Heap, (K w.params).In base → base.Ns mainGlobals mg → FnOk l.prog w (K w.params) mg base (CX w) k fa fd [x] (sp w))
    (hsp : ∀ (w : World) (H : Hp) (a : Addr) (ns : List Int), ns.length ≤ n → Only H → SqL (K w.params) H a (ns.map V.int) → sp w [.ref a] H (fun v _ => v = .bl true) fun _ _ _ => False)
    (hCX : ∀ (w : World) (H : Hp) (s : Shared) (e : Value) (s' : Shared), CX w [] H s (fun _ _ _ => False) e s' → False) :
    PySem.W.WalkO q loose XP YP l.row.toRowW d [] (fun f vs => PySem.call f vs) := by
  refine Att.attach_call hn hdf fun w s₀ s₁ mg mb fa o pm cd doc a vs ns G Y ho hd hcd hmg hobj hints hlen hg => ?_
  have KX := hY w _ Y
  obtain ⟨fd, hb, hF⟩ := F w mg fa _ KX G.T.g hmg
  exact law_call KX G.T.g G.T.b G.T.builtins G.T.nolimit hg hobj hints (Nat.le_trans hlen hn2) hr hF hb (fun H hO hS => hsp w H a ns hlen hO hS) fun H e s' => hCX w H s₁ e s'
end L2
namespace L2
open PySem PySem.Spec PyProof.Rows
def inClass (s : Stmt) (j : Nat) : Stmt := match s with
  | .ClassDef _ _ _ body _ _ _ _ _ _ _ => body.getD j (.Pass ⟨0, 0, 0, 0⟩)
  | _ => .Pass ⟨0, 0, 0, 0⟩
def defArgs (s : Stmt) : Arguments := match s with
  | .FunctionDef _ a _ _ _ _ _ _ _ _ => a
  | _ => { posonlyargs := [], args := [], vararg := none, kwonlyargs := [], kw_defaults := [], kwarg := none, defaults := [] }
def defBody (s : Stmt) : List Stmt := match s with
  | .FunctionDef _ _ b _ _ _ _ _ _ _ => b
  | _ => []
def defScope (s : Stmt) : Scope := match s with
  | .FunctionDef _ _ _ _ _ _ sc _ _ _ => sc
  | _ => { kind := .function, names := [], isGenerator := false, isCoroutine := false }
abbrev CX0 : CXT := fun _ _ _ _ _ _ => False
abbrev E0 : XK := fun _ _ _ => False
theorem pass0 {X : Cx} : Passes CX0 X E0 := fun _ _ _ _ _ _ _ h => h.elim
structure Fun (K : PySem.W.Frag) (x qual : Str) (st : Stmt) (f : Addr) (fd : FuncData) : Prop where
  ex : ∃ (oc : Value) (od : Option Addr) (kV doc pm : Value) (an : Option Addr) (cdv ct : Value) (osl : Array (Option Value)),
    fd = PySem.W.fnOf x qual (defArgs st) (defBody st) (defScope st) .none kV doc pm an cdv ct ∧ K.lookup f = some ⟨oc, od, .func fd, osl⟩ ∧ PySem.W.codeIn K cdv qual = true
  kp : PySem.W.keepIn K (.ref f) = true
section
variable {P : Program} {w : World} {K : PySem.W.Frag} {mg : Str → Option Value} {base : Heap}
theorem Fun.ok {cb : Bool} {x qual : Str} {st : Stmt} {f : Addr} {fd : FuncData} {N ps : List Str} {k : Nat} {sp : Sp} (F : Fun K x qual st f fd) (S : FnScope N ps (defScope st)) (len : ∀ vs H Q E, sp vs H Q E → vs.length = ps.length)
    (hbody : ∀ (cdv : Value) (A : Around) (outer : List Env) (s : Shared) (H : Hp) (vs : List V) (Q : VK) (E : XK), Room k (A.deeper (envOfC qual (defScope st) s.heap.objs.size f cdv)) → sp vs H Q E →
      ∃ t, PSs (cxOfB cb CX0 P w K mg base N qual (defScope st) f cdv A outer s H E).nox (defBody st) t ∧ t { nx := fun _ H' => Q .non H', rt := Q } (start N vs) H) : FnOkC cb P w K mg base CX0 (k + 1) f fd ps sp := by
  obtain ⟨oc, od, kV, doc, pm, an, cdv, ct, osl, rfl, lk, hcd⟩ := F.ex
  refine fn_of lk hcd S len fun A outer s H vs Q E hr hsp => ?_
  obtain ⟨t, h, q⟩ := hbody cdv A outer s H vs Q E hr hsp
  exact ⟨t, h.nox, q⟩
theorem Fun.binds {x qual : Str} {st : Stmt} {f : Addr} {fd : FuncData} {ps : List Str} (F : Fun K x qual st f fd)
    (h : ∀ (kV doc pm : Value) (an : Option Addr) (cdv ct : Value) (us : List Value), us.length = ps.length → bindArgs (PySem.W.fnOf x qual (defArgs st) (defBody st) (defScope st) .none kV doc pm an cdv ct) ⟨us, []⟩ = pure (ps.zip us)) : Binds K fd ps [] := by
  obtain ⟨oc, od, kV, doc, pm, an, cdv, ct, osl, rfl, lk, hcd⟩ := F.ex
  exact .all (h kV doc pm an cdv ct)
theorem fun_mk {x qual : Str} {st : Stmt} {f : Addr} {oc : Value} {od an : Option Addr} {osl : Array (Option Value)} {kV doc pm cdv ct : Value} (l : K.lookup f = some ⟨oc, od, .func (PySem.W.fnOf x qual (defArgs st) (defBody st) (defScope st) .none kV doc pm an cdv ct), osl⟩)
    (c : PySem.W.codeIn K cdv qual = true) (k : PySem.W.keepIn K (.ref f) = true) : Fun K x qual st f (PySem.W.fnOf x qual (defArgs st) (defBody st) (defScope st) .none kV doc pm an cdv ct) := ⟨⟨oc, od, kV, doc, pm, an, cdv, ct, osl, rfl, l, c⟩, k⟩
end
theorem small1000 {n : Nat} (h : n ≤ 1000) : n < sizeLine := Nat.lt_of_le_of_lt h (by decide)
section
variable {X : Cx}
theorem pv (i : Nat) {x : Str} {pos : Pos} (hN : X.N[i]? = some x := by rfl) (hv : Vis X.env.scope x := by first | exact Or.inl rfl | exact Or.inr (Or.inl rfl) | exact Or.inr (Or.inr rfl)) (hd : (x == ("__debug__" : Str)) = false := by decide)
    (hcd : (x == ("__classdict__" : Str)) = false := by decide) : PE X (.Name x pos) (tVar i) := pe_var hN hv hd hcd
end
theorem iteF {A B : Prop} (h : B) : if false = true then A else B := by
  rw [if_neg Bool.false_ne_true]
  exact h
theorem iteT {A B : Prop} (h : A) : if true = true then A else B := by
  rw [if_pos rfl]
  exact h
def Same (H H' : Hp) : Prop := ∀ b o, H b = some o → H' b = some o
theorem Same.refl (H : Hp) : Same H H := fun _ _ h => h
theorem Same.trans {H H1 H2 : Hp} (a : Same H H1) (b : Same H1 H2) : Same H H2 := fun c o h => b c o (a c o h)
theorem Same.free {H H' : Hp} (e : Same H H') {l : Addr} (h : H' l = Option.none) : H l = Option.none := by
  cases q : H l with
  | none => rfl
  | some o =>
    rw [e l o q] at h
    cases h
theorem Same.seq {K : PySem.W.Frag} {H H' : Hp} {a : Addr} {xs : List V} (e : Same H H') (h : SqL K H a xs) : SqL K H' a xs := by
  rcases h with (h | ⟨o, h⟩) | h
  · exact .inl (.inl (e _ _ h))
  · exact .inl (.inr ⟨o, e _ _ h⟩)
  · exact .inr h
section
variable {κ : Type} [DecidableEq κ]
end
end L2
set_option Elab.async false
set_option linter.all false
set_option maxRecDepth 100000
namespace DL
open PySem L2
theorem sqT_same {K : PySem.W.Frag} {H H' : Hp} {a : Addr} {xs : List V} (e : Same H H') (h : SqT K H a xs) : SqT K H' a xs := by
  rcases h with (h | ⟨o, h⟩) | h
  · exact .inl (.inl (e _ _ h))
  · exact .inl (.inr ⟨o, e _ _ h⟩)
  · exact .inr h
mutual
theorem dpM {K : PySem.W.Frag} {H H' : Hp} (e : Same H H') : ∀ {v : V} {d : PyData}, Dp K H v d → Dp K H' v d
  | _, _, .non => .non
  | _, _, .bl b => .bl b
  | _, _, .int i => .int i
  | _, _, .str x => .str x
  | _, _, .lst h q => .lst (e.seq h) (dpAllM e q)
  | _, _, .tup h q => .tup (sqT_same e h) (dpAllM e q)
  | _, _, .dct h q k => .dct (e _ _ h) (dpAllM e q) k
theorem dpAllM {K : PySem.W.Frag} {H H' : Hp} (e : Same H H') : ∀ {vs : List V} {ds : List PyData}, DpAll K H vs ds → DpAll K H' vs ds
  | _, _, .nil => .nil
  | _, _, .cons h q => .cons (dpM e h) (dpAllM e q)
end
theorem DpAll.length {K : PySem.W.Frag} {H : Hp} : ∀ {vs : List V} {ds : List PyData}, DpAll K H vs ds → vs.length = ds.length
  | _, _, .nil => rfl
  | _, _, .cons _ q => congrArg (· + 1) (DpAll.length q)
theorem DpAll.get {K : PySem.W.Frag} {H : Hp} : ∀ {vs : List V} {ds : List PyData} {i : Nat} {d : PyData}, DpAll K H vs ds → ds[i]? = some d → ∃ v, vs[i]? = some v ∧ Dp K H v d
  | _, _, _, _, .nil, e => by simp at e
  | _, _, 0, _, .cons h _, e => by simp at e; subst e; exact ⟨_, rfl, h⟩
  | _, _, i + 1, d, .cons _ q, e => by
    obtain ⟨v, a, b⟩ := DpAll.get (i := i) (d := d) q (by simpa using e)
    exact ⟨v, by simpa using a, b⟩
theorem DpAll.app {K : PySem.W.Frag} {H : Hp} : ∀ {vs ws : List V} {ds es : List PyData}, DpAll K H vs ds → DpAll K H ws es → DpAll K H (vs ++ ws) (ds ++ es)
  | _, _, _, _, .nil, q => q
  | _, _, _, _, .cons h q, r => .cons h (DpAll.app q r)
theorem DpAll.set {K : PySem.W.Frag} {H : Hp} {v : V} {d : PyData} (h : Dp K H v d) : ∀ {vs : List V} {ds : List PyData} (i : Nat), DpAll K H vs ds → DpAll K H (vs.set i v) (ds.set i d)
  | _, _, _, .nil => .nil
  | _, _, 0, .cons _ q => .cons h q
  | _, _, i + 1, .cons g q => .cons g (DpAll.set h i q)
theorem DpAll.take {K : PySem.W.Frag} {H : Hp} : ∀ {vs : List V} {ds : List PyData} (n : Nat), DpAll K H vs ds → DpAll K H (vs.take n) (ds.take n)
  | _, _, 0, _ => .nil
  | _, _, _ + 1, .nil => .nil
  | _, _, n + 1, .cons h q => .cons h (DpAll.take n q)
theorem DpAll.drop {K : PySem.W.Frag} {H : Hp} : ∀ {vs : List V} {ds : List PyData} (n : Nat), DpAll K H vs ds → DpAll K H (vs.drop n) (ds.drop n)
  | _, _, 0, h => h
  | _, _, _ + 1, .nil => .nil
  | _, _, n + 1, .cons _ q => DpAll.drop n q
theorem DpAll.ints {K : PySem.W.Frag} {H : Hp} : ∀ {ns : List Int}, DpAll K H (ns.map V.int) (ns.map PyData.int)
  | [] => .nil
  | n :: _ => .cons (.int n) DpAll.ints
structure Xn where
  cls : Str
  args : List PyData
inductive OO where
  | lst (ds : List PyData)
  | dic (kvs : List (Key × PyData))
  | exc (z : Xn)
inductive R where
  | sh (d : PyData) | own (o : OO) | io (o : OO)
  /-- a new tuple; with true: a new list that nobody else holds -/
  | new (ps : List (PyData × Bool))
abbrev Rho := List (Option R)
abbrev DpKV (K : PySem.W.Frag) (F : Hp) : List (Key × V) → List (Key × PyData) → Prop := Paired fun p q => p.1 = q.1 ∧ Dp K F p.2 q.2
def XAt (K : PySem.W.Frag) (F : Hp) (cls : Value) (dx : Option Addr) (z : Xn) : Prop :=
  (∃ C, cls = .ref C ∧ PySem.W.nsIn K mainGlobals z.cls = some (some (.ref C))) ∧ match z.args with
    | [] => dx = none
    | [.str an, d] => ∃ a v, dx = some a ∧ F a = some (.xd [(an, v)]) ∧ Dp K F v d
    | _ => False
theorem XAt.mono {K : PySem.W.Frag} {F F' : Hp} {cls : Value} {dx : Option Addr} {z : Xn} (s : Same F F') (h : XAt K F cls dx z) : XAt K F' cls dx z := by
  obtain ⟨h1, h2⟩ := h
  refine ⟨h1, ?_⟩
  split at h2
  · exact h2
  · obtain ⟨a, v, e, f, d⟩ := h2
    exact ⟨a, v, e, s _ _ f, dpM s d⟩
  · exact h2.elim
def OOk (K : PySem.W.Frag) (F : Hp) : OO → HO → Prop
  | .exc z, ho => ∃ oe vs, ho = .frz oe (.own 0) ∧ oe.data = .fields vs ∧ XAt K F oe.cls oe.dict z
  | .lst ds, ho => ∃ vs, ho = .lst vs ∧ DpAll K F vs ds
  | .dic kvs, ho => ∃ ws, ho = .dK ws ∧ DpKV K F ws kvs
theorem pairedM {α β : Type} {r q : α → β → Prop} (h : ∀ a b, r a b → q a b) : ∀ {xs : List α} {ys : List β}, Paired r xs ys → Paired q xs ys
  | _, _, .nil => .nil
  | _, _, .cons a t => .cons (h _ _ a) (pairedM h t)
theorem ooM {K : PySem.W.Frag} {F F' : Hp} (e : Same F F') : ∀ {o : OO} {ho : HO}, OOk K F o ho → OOk K F' o ho
  | .lst _, _, ⟨vs, h, q⟩ => ⟨vs, h, dpAllM e q⟩
  | .dic _, _, ⟨ws, h, q⟩ => ⟨ws, h, pairedM (fun _ _ z => ⟨z.1, dpM e z.2⟩) q⟩
  | .exc _, _, ⟨oe, vs, h, q, x⟩ => ⟨oe, vs, h, q, x.mono e⟩
structure En where
  F0 : Hp
  Z : Hp
  io : List (Nat × Addr)
def Ow (ρ : Rho) (i : Nat) (o : OO) : Prop := ρ[i]? = some (some (R.own o)) ∨ ρ[i]? = some (some (R.io o))
structure J (K : PySem.W.Frag) (c : En) (F H : Hp) (σ : St) (ρ : Rho) : Prop where
  len : σ.length = ρ.length
  ff : Same c.F0 F
  fh : Same F H
  zh : Same c.Z H
  fz : ∀ b o, F b = some o → c.F0 b = some o ∨ c.Z b = none
  sh : ∀ (i : Nat) (d : PyData), ρ[i]? = some (some (R.sh d)) → ∃ v, σ[i]? = some (some v) ∧ Dp K F v d
  ow : ∀ (i : Nat) (o : OO), Ow ρ i o → ∃ a ho, σ[i]? = some (some (V.ref a)) ∧ H a = some ho ∧ OOk K F o ho ∧ F a = none ∧ c.Z a = none
  nd : ∀ (i j : Nat) (o o' : OO) (a : Addr), Ow ρ i o → Ow ρ j o' → σ[i]? = some (some (V.ref a)) → σ[j]? = some (some (V.ref a)) → i = j
  ios : ∀ p ∈ c.io, ∃ o, ρ[p.1]? = some (some (R.io o)) ∧ σ[p.1]? = some (some (V.ref p.2))
def Apart (σ : St) (ρ : Rho) (a : Addr) : Prop := ∀ (i : Nat) (o : OO), Ow ρ i o → σ[i]? ≠ some (some (V.ref a))
inductive NewP (K : PySem.W.Frag) (Z F : Hp) : List V → List (PyData × Bool) → Prop
  | nil : NewP K Z F [] []
  | dat {v : V} {vs : List V} {d : PyData} {ps : List (PyData × Bool)} (h : Dp K F v d) (t : NewP K Z F vs ps) : NewP K Z F (v :: vs) ((d, false) :: ps)
  | own {b : Addr} {ws : List V} {vs : List V} {ds : List PyData} {ps : List (PyData × Bool)} (h : F b = some (.lst ws)) (hz : Z b = none) (hd : DpAll K F ws ds)
      (ap : ∀ (k : Nat) (e : PyData), ps[k]? = some (e, true) → vs[k]? ≠ some (V.ref b)) (t : NewP K Z F vs ps) : NewP K Z F (.ref b :: vs) ((.list ds, true) :: ps)
theorem NewP.mono {K : PySem.W.Frag} {Z F F' : Hp} (s : Same F F') : ∀ {vs : List V} {ps : List (PyData × Bool)}, NewP K Z F vs ps → NewP K Z F' vs ps
  | _, _, .nil => .nil
  | _, _, .dat h t => .dat (dpM s h) (t.mono s)
  | _, _, .own h hz hd ap t => .own (s _ _ h) hz (dpAllM s hd) ap (t.mono s)
theorem NewP.zed {K : PySem.W.Frag} {Z Z' F : Hp} (s : ∀ b o, F b = some o → Z b = none → Z' b = none) : ∀ {vs : List V} {ps : List (PyData × Bool)}, NewP K Z F vs ps → NewP K Z' F vs ps
  | _, _, .nil => .nil
  | _, _, .dat h t => .dat h (t.zed s)
  | _, _, .own h hz hd ap t => .own h (s _ _ h hz) hd ap (t.zed s)
def RelR (K : PySem.W.Frag) (c : En) (F H : Hp) (σ : St) (ρ : Rho) (v : V) : R → Prop
  | .sh d => Dp K F v d
  | .own o => ∃ a ho, v = .ref a ∧ H a = some ho ∧ OOk K F o ho ∧ F a = none ∧ c.Z a = none ∧ Apart σ ρ a
  | .io _ => False
  | .new ps => ∃ t vs, v = .ref t ∧ F t = some (.tup vs) ∧ NewP K c.Z F vs ps
section
variable {K : PySem.W.Frag} {c : En} {F H : Hp} {σ : St} {ρ : Rho}
theorem same_new {H : Hp} {p : Addr} (h : H p = none) (o : HO) : Same H (upd H p o) := fun b u q => by rw [upd_ne (ne_of_none q h)]; exact q
theorem get_set {α : Type} {l : List α} {i j : Nat} {x : α} : (l.set i x)[j]? = if i = j then (if i < l.length then some x else none) else l[j]? := by
  rw [List.getElem?_set]
theorem ow_set {ρ : Rho} {i j : Nat} {x : Option R} {o : OO} (h : Ow (ρ.set i x) j o) : (i = j ∧ (x = some (.own o) ∨ x = some (.io o))) ∨ (i ≠ j ∧ Ow ρ j o) := by
  unfold Ow at h
  rw [get_set] at h
  by_cases e : i = j
  · refine .inl ⟨e, ?_⟩
    simp only [e, if_true] at h
    rcases h with h | h <;> (split at h <;> first | exact .inl (Option.some.inj h) | exact .inr (Option.some.inj h) | cases h)
  · rw [if_neg e] at h
    exact .inr ⟨e, h⟩
theorem J.lt (j : J K c F H σ ρ) {i : Nat} {o : OO} (h : Ow ρ i o) : i < ρ.length := by
  rcases h with h | h
  · exact (List.getElem?_eq_some_iff.mp h).1
  · exact (List.getElem?_eq_some_iff.mp h).1
theorem J.alloc (j : J K c F H σ ρ) {p : Addr} (hp : H p = none) (o : HO) : J K c F (upd H p o) σ ρ where
  len := j.len
  ff := j.ff
  fh := j.fh.trans (same_new hp o)
  zh := j.zh.trans (same_new hp o)
  fz := j.fz
  sh := j.sh
  ow := fun i q h => by
    obtain ⟨a, ho, h1, h2, h3⟩ := j.ow i q h
    exact ⟨a, ho, h1, by rw [upd_ne (ne_of_none h2 hp)]; exact h2, h3⟩
  nd := j.nd
  ios := j.ios
theorem J.zfree (j : J K c F H σ ρ) {p : Addr} (hp : H p = none) : c.Z p = none := j.zh.free hp
theorem J.ffree (j : J K c F H σ ρ) {p : Addr} (hp : H p = none) : F p = none := j.fh.free hp
theorem J.apart (j : J K c F H σ ρ) {p : Addr} (hp : H p = none) : Apart σ ρ p := fun i o h e => by
  obtain ⟨a, ho, h1, h2, _⟩ := j.ow i o h
  rw [h1] at e
  cases e
  rw [hp] at h2
  cases h2
theorem J.frz (j : J K c F H σ ρ) {p : Addr} {o : HO} (hp : H p = some o) (fp : F p = none) (zp : c.Z p = none) (ap : Apart σ ρ p) : J K c (upd F p o) H σ ρ where
  len := j.len
  ff := j.ff.trans (same_new fp o)
  fh := fun b u h => by
    by_cases e : b = p
    · subst e
      rw [upd_same] at h
      rw [hp]
      exact h
    · rw [upd_ne e] at h
      exact j.fh b u h
  zh := j.zh
  fz := fun b u h => by
    by_cases e : b = p
    · subst e
      exact .inr zp
    · rw [upd_ne e] at h
      exact j.fz b u h
  sh := fun i d h => by
    obtain ⟨v, h1, h2⟩ := j.sh i d h
    exact ⟨v, h1, dpM (same_new fp o) h2⟩
  ow := fun i q h => by
    obtain ⟨a, ho, h1, h2, h3, h4, h5⟩ := j.ow i q h
    have ne : a ≠ p := fun e => ap i q h (by rw [h1, e])
    exact ⟨a, ho, h1, h2, ooM (same_new fp o) h3, by rw [upd_ne ne]; exact h4, h5⟩
  nd := j.nd
  ios := j.ios
theorem J.drop (j : J K c F H σ ρ) {i : Nat} (hi : ∀ o, ρ[i]? ≠ some (some (R.io o))) : J K c F H σ (ρ.set i none) where
  len := by rw [List.length_set]; exact j.len
  ff := j.ff
  fh := j.fh
  zh := j.zh
  fz := j.fz
  sh := fun k d h => by
    rw [get_set] at h
    split at h
    · split at h <;> cases h
    · exact j.sh k d h
  ow := fun k q h => by
    rcases ow_set h with ⟨_, h | h⟩ | ⟨_, h⟩
    · cases h
    · cases h
    · exact j.ow k q h
  nd := fun k l o o' a h h' e e' => by
    rcases ow_set h with ⟨_, h | h⟩ | ⟨_, h⟩
    · cases h
    · cases h
    rcases ow_set h' with ⟨_, h' | h'⟩ | ⟨_, h'⟩
    · cases h'
    · cases h'
    exact j.nd k l o o' a h h' e e'
  ios := fun p hp => by
    obtain ⟨o, h1, h2⟩ := j.ios p hp
    have ne : i ≠ p.1 := fun e => hi o (by rw [e]; exact h1)
    exact ⟨o, by rw [get_set, if_neg ne]; exact h1, h2⟩
theorem J.assign (j : J K c F H σ ρ) {i : Nat} {v : V} {r : R} (hl : i < ρ.length) (hi : ∀ o, ρ[i]? ≠ some (some (R.io o))) (hv : RelR K c F H σ ρ v r) : J K c F H (σ.set i (some v)) (ρ.set i (some r)) where
  len := by rw [List.length_set, List.length_set]; exact j.len
  ff := j.ff
  fh := j.fh
  zh := j.zh
  fz := j.fz
  sh := fun k d h => by
    rw [get_set] at h
    rw [get_set]
    by_cases e : i = k
    · rw [if_pos e] at h
      rw [if_pos e, if_pos (by rw [j.len]; exact hl)]
      rw [if_pos hl] at h
      obtain rfl := Option.some.inj (Option.some.inj h)
      exact ⟨v, rfl, hv⟩
    · rw [if_neg e] at h
      rw [if_neg e]
      exact j.sh k d h
  ow := fun k q h => by
    rw [get_set]
    rcases ow_set h with ⟨e, h⟩ | ⟨e, h⟩
    · rw [if_pos e, if_pos (by rw [j.len]; exact hl)]
      rcases h with h | h
      · obtain rfl := Option.some.inj h
        obtain ⟨a, ho, rfl, h2, h3, h4, h5, _⟩ := hv
        exact ⟨a, ho, rfl, h2, h3, h4, h5⟩
      · obtain rfl := Option.some.inj h
        exact hv.elim
    · rw [if_neg e]
      exact j.ow k q h
  nd := fun k l o o' a h h' e e' => by
    rw [get_set] at e e'
    rcases ow_set h with ⟨z, w⟩ | ⟨z, w⟩
    · rcases ow_set h' with ⟨z', w'⟩ | ⟨z', w'⟩
      · exact z.symm.trans z'
      · rw [if_pos z, if_pos (by rw [j.len]; exact hl)] at e
        rw [if_neg z'] at e'
        have e := Option.some.inj (Option.some.inj e)
        rcases w with w | w
        · have w := Option.some.inj w
          rw [w] at hv
          obtain ⟨b, ho, hb, _, _, _, _, ap⟩ := hv
          rw [e] at hb
          cases hb
          exact (ap l o' w' e').elim
        · have w := Option.some.inj w
          rw [w] at hv
          exact hv.elim
    · rcases ow_set h' with ⟨z', w'⟩ | ⟨z', w'⟩
      · rw [if_neg z] at e
        rw [if_pos z', if_pos (by rw [j.len]; exact hl)] at e'
        have e' := Option.some.inj (Option.some.inj e')
        rcases w' with w' | w'
        · have w' := Option.some.inj w'
          rw [w'] at hv
          obtain ⟨b, ho, hb, _, _, _, _, ap⟩ := hv
          rw [e'] at hb
          cases hb
          exact (ap k o w e).elim
        · have w' := Option.some.inj w'
          rw [w'] at hv
          exact hv.elim
      · rw [if_neg z] at e
        rw [if_neg z'] at e'
        exact j.nd k l o o' a w w' e e'
  ios := fun p hp => by
    obtain ⟨o, h1, h2⟩ := j.ios p hp
    have ne : i ≠ p.1 := fun e => hi o (by rw [e]; exact h1)
    exact ⟨o, by rw [get_set, if_neg ne]; exact h1, by rw [get_set, if_neg ne]; exact h2⟩
def R.put (o : OO) : R → R
  | .own _ => .own o
  | .io _ => .io o
  | .sh d => .sh d
  | .new ps => .new ps
theorem J.put (j : J K c F H σ ρ) {i : Nat} {r : R} {o o' : OO} {a : Addr} {ho' : HO} (hr : ρ[i]? = some (some r)) (ho : r = .own o ∨ r = .io o) (ha : σ[i]? = some (some (V.ref a))) (hk : OOk K F o' ho') : J K c F (upd H a ho') σ (ρ.set i (some (r.put o'))) := by
  have hw : Ow ρ i o := by
    rcases ho with rfl | rfl
    · exact .inl hr
    · exact .inr hr
  have hl := j.lt hw
  obtain ⟨a1, ho1, h1, h2, h3, h4, h5⟩ := j.ow i o hw
  rw [ha] at h1
  cases h1
  have hp : (r.put o' = .own o' ∧ r = .own o) ∨ (r.put o' = .io o' ∧ r = .io o) := by
    rcases ho with rfl | rfl
    · exact .inl ⟨rfl, rfl⟩
    · exact .inr ⟨rfl, rfl⟩
  have back : ∀ {k q}, Ow (ρ.set i (some (r.put o'))) k q → (i = k ∧ q = o') ∨ (i ≠ k ∧ Ow ρ k q) := fun {k q} h => by
    rcases ow_set h with ⟨e, h | h⟩ | ⟨e, h⟩
    · refine .inl ⟨e, ?_⟩
      have h := Option.some.inj h
      rcases hp with ⟨z, _⟩ | ⟨z, _⟩ <;> rw [z] at h <;> cases h
      rfl
    · refine .inl ⟨e, ?_⟩
      have h := Option.some.inj h
      rcases hp with ⟨z, _⟩ | ⟨z, _⟩ <;> rw [z] at h <;> cases h
      rfl
    · exact .inr ⟨e, h⟩
  have fromO : ∀ {k q}, Ow (ρ.set i (some (r.put o'))) k q → ∃ q', Ow ρ k q' := fun {k q} h => by
    rcases back h with ⟨e, _⟩ | ⟨_, h⟩
    · exact ⟨o, e ▸ hw⟩
    · exact ⟨q, h⟩
  refine ⟨by rw [List.length_set]; exact j.len, j.ff, fun b u h => ?_, fun b u h => ?_, j.fz, fun k d h => ?_, fun k q h => ?_, fun k l q q' b h h' e e' => ?_, fun p hp' => ?_⟩
  · have ne : b ≠ a := fun e => by rw [e, h4] at h; cases h
    rw [upd_ne ne]
    exact j.fh b u h
  · have ne : b ≠ a := fun e => by rw [e, h5] at h; cases h
    rw [upd_ne ne]
    exact j.zh b u h
  · rw [get_set] at h
    by_cases e : i = k
    · rw [if_pos e, if_pos hl] at h
      have h := Option.some.inj (Option.some.inj h)
      rcases hp with ⟨z, _⟩ | ⟨z, _⟩ <;> rw [z] at h <;> cases h
    · rw [if_neg e] at h
      exact j.sh k d h
  · rcases back h with ⟨e, rfl⟩ | ⟨e, h⟩
    · subst e
      exact ⟨a, ho', ha, upd_same, hk, h4, h5⟩
    · obtain ⟨b, hb, g1, g2, g3⟩ := j.ow k q h
      have ne : b ≠ a := fun z => by
        subst z
        exact e (j.nd i k o q b hw h ha g1)
      exact ⟨b, hb, g1, by rw [upd_ne ne]; exact g2, g3⟩
  · obtain ⟨q1, h⟩ := fromO h
    obtain ⟨q2, h'⟩ := fromO h'
    exact j.nd k l q1 q2 b h h' e e'
  · obtain ⟨q, g1, g2⟩ := j.ios p hp'
    by_cases e : i = p.1
    · refine ⟨o', ?_, g2⟩
      rw [get_set, if_pos e, if_pos hl]
      rw [← e, hr] at g1
      cases g1
      rcases hp with ⟨z, z'⟩ | ⟨z, z'⟩
      · cases z'
      · rw [z]
    · exact ⟨q, by rw [get_set, if_neg e]; exact g1, g2⟩
end
end DL
set_option Elab.async false
set_option linter.all false
set_option maxRecDepth 100000
namespace DL
open PySem L2
abbrev KE := R → Rho → Prop
abbrev GE := Rho → KE → Prop
abbrev GT := Rho → (Bool → Rho → Prop) → Prop
def MonoE (G : GE) : Prop := ∀ ρ Q Q', (∀ r ρ', Q r ρ' → Q' r ρ') → G ρ Q → G ρ Q'
def MonoT (G : GT) : Prop := ∀ ρ Q Q', (∀ b ρ', Q b ρ' → Q' b ρ') → G ρ Q → G ρ Q'
def tDE (K : PySem.W.Frag) (G : GE) : TE := fun σ H Q => ∃ c F ρ, J K c F H σ ρ ∧ G ρ fun r ρ' => ∀ F' H' v, J K c F' H' σ ρ' → RelR K c F' H' σ ρ' v r → Q v H'
def tDT (K : PySem.W.Frag) (G : GT) : TT := fun σ H Q => ∃ c F ρ, J K c F H σ ρ ∧ G ρ fun b ρ' => ∀ F' H', J K c F' H' σ ρ' → Q b H'
structure DE (X : Cx) (e : Expr) (G : GE) : Prop where
  mono : MonoE G
  pe : PE X e (tDE X.K G)
structure DT (X : Cx) (e : Expr) (G : GT) : Prop where
  mono : MonoT G
  pt : PT X e (tDT X.K G)
structure DW (X : Cx) (e : Expr) (G : GT) : Prop where
  mono : MonoT G
  pw : PW X e (tDT X.K G)
theorem peI {X : Cx} {e : Expr} {t t' : TE} (h : PE X e t) (i : ∀ σ H Q, t' σ H Q → t σ H Q) : PE X e t' := fun pins s σ H Q I q => h pins s σ H Q I (i σ H Q q)
theorem ptI {X : Cx} {e : Expr} {t t' : TT} (h : PT X e t) (i : ∀ σ H Q, t' σ H Q → t σ H Q) : PT X e t' := fun pins s σ H Q I q => h pins s σ H Q I (i σ H Q q)
theorem pwI {X : Cx} {e : Expr} {t t' : TT} (h : PW X e t) (i : ∀ σ H Q, t' σ H Q → t σ H Q) : PW X e t' := fun w pins s σ H Q I q => h w pins s σ H Q I (i σ H Q q)
theorem J.anew {K : PySem.W.Frag} {c : En} {F H : Hp} {σ : St} {ρ : Rho} (j : J K c F H σ ρ) : J K ⟨F, c.Z, c.io⟩ F H σ ρ :=
  ⟨j.len, Same.refl _, j.fh, j.zh, fun _ _ h => .inl h, j.sh, j.ow, j.nd, j.ios⟩
theorem J.back {K : PySem.W.Frag} {c : En} {F1 F H H1 : Hp} {σ σ1 : St} {ρ ρ1 : Rho} (j1 : J K c F1 H1 σ1 ρ1) (j : J K ⟨F1, c.Z, c.io⟩ F H σ ρ) : J K c F H σ ρ :=
  ⟨j.len, j1.ff.trans j.ff, j.fh, j.zh, fun b o h => (j.fz b o h).elim (fun z => j1.fz b o z) .inr, j.sh, j.ow, j.nd, j.ios⟩
def R.dat : R → Option PyData
  | .sh d => some d
  | .own (.lst ds) => some (.list ds)
  | _ => none
theorem RelR.frz {K : PySem.W.Frag} {c : En} {F H : Hp} {σ : St} {ρ : Rho} {v : V} {r : R} {d : PyData} (j : J K c F H σ ρ) (h : RelR K c F H σ ρ v r) (e : r.dat = some d) : ∃ F', J K c F' H σ ρ ∧ Same F F' ∧ Dp K F' v d := by
  match r, h, e with
  | .sh _, h, e => cases e; exact ⟨F, j, Same.refl _, h⟩
  | .own (.lst ds), h, e =>
    cases e
    obtain ⟨a, ho, rfl, h2, ⟨vs, rfl, h3⟩, h4, h5, ap⟩ := h
    exact ⟨upd F a (.lst vs), j.frz h2 h4 h5 ap, same_new h4 _, .lst (SqL.of upd_same) (dpAllM (same_new h4 _) h3)⟩
  | .own (.dic _), _, e => cases e
  | .own (.exc _), _, e => cases e
  | .io _, _, e => cases e
  | .new _, _, e => cases e
def withD (r : R) (k : PyData → Prop) : Prop := match r.dat with
  | some d => k d
  | none => False
theorem withD_mono {r : R} {k k' : PyData → Prop} (h : ∀ d, k d → k' d) (q : withD r k) : withD r k' := by
  unfold withD at *
  split at q
  · exact h _ q
  · exact q
theorem withD_use {r : R} {k : PyData → Prop} (q : withD r k) : ∃ d, r.dat = some d ∧ k d := by
  unfold withD at q
  split at q
  · exact ⟨_, by assumption, q⟩
  · exact q.elim
section
variable {X : Cx}
def gVar (i : Nat) : GE := fun ρ Q => match ρ[i]? with
  | some (some (.sh d)) => Q (.sh d) ρ
  | some (some (.own (.lst ds))) => Q (.sh (.list ds)) (ρ.set i (some (.sh (.list ds))))
  | _ => False
theorem gVar_mono (i : Nat) : MonoE (gVar i) := fun ρ Q Q' h q => by
  unfold gVar at *
  split <;> simp_all
theorem de_var {i : Nat} {x : Str} {pos : Pos} (h : PE X (.Name x pos) (tVar i)) : DE X (.Name x pos) (gVar i) := ⟨gVar_mono i, peI h fun σ H Q ⟨c, F, ρ, j, q⟩ => by
  unfold gVar at q
  split at q
  · next d e =>
    obtain ⟨v, h1, h2⟩ := j.sh i d e
    exact ⟨v, h1, q F H v j h2⟩
  · next ds e =>
    obtain ⟨a, ho, h1, h2, ⟨vs, rfl, h3⟩, h4, h5⟩ := j.ow i _ (.inl e)
    have hl : i < ρ.length := (List.getElem?_eq_some_iff.mp e).1
    have hi : ∀ o, ρ[i]? ≠ some (some (R.io o)) := fun o z => by rw [e] at z; cases z
    have j1 := j.drop hi
    have ap : Apart σ (ρ.set i none) a := fun k o h z => by
      rcases ow_set h with ⟨_, w | w⟩ | ⟨ne, w⟩
      · cases w
      · cases w
      · exact ne (j.nd i k _ o a (.inl e) w h1 z)
    have j2 := j1.frz h2 h4 h5 ap
    have dp : Dp X.K (upd F a (.lst vs)) (.ref a) (.list ds) := .lst (SqL.of upd_same) (dpAllM (same_new h4 _) h3)
    have j3 := j2.assign (i := i) (v := .ref a) (r := .sh (.list ds)) (by rw [List.length_set]; exact hl) (fun o z => by rw [get_set, if_pos rfl, if_pos hl] at z; cases z) dp
    rw [List.set_set] at j3
    have es : σ.set i (some (.ref a)) = σ := by
      apply List.ext_getElem?
      intro k
      rw [get_set]
      by_cases z : i = k
      · rw [if_pos z, if_pos (by rw [j.len]; exact hl), ← z, h1]
      · rw [if_neg z]
    rw [es] at j3
    exact ⟨.ref a, h1, q _ H (.ref a) j3 dp⟩
  · exact q.elim⟩
def gC (d : PyData) : GE := fun ρ Q => Q (.sh d) ρ
theorem gC_mono (d : PyData) : MonoE (gC d) := fun ρ Q Q' h q => h _ _ q
theorem de_int {i : Int} {k : Nat} {pos : Pos} : DE X (.Constant (.int i) k pos) (gC (.int i)) := ⟨gC_mono _, peI pe_int fun σ H Q ⟨c, F, ρ, j, q⟩ => q F H _ j (.int i)⟩
theorem de_bl {b : Bool} {k : Nat} {pos : Pos} : DE X (.Constant (.bool b) k pos) (gC (.bool b)) := ⟨gC_mono _, peI pe_bl fun σ H Q ⟨c, F, ρ, j, q⟩ => q F H _ j (.bl b)⟩
theorem de_str {x : Str} {k : Nat} {pos : Pos} : DE X (.Constant (.str x) k pos) (gC (.str x)) := ⟨gC_mono _, peI pe_str fun σ H Q ⟨c, F, ρ, j, q⟩ => q F H _ j (.str x)⟩
abbrev W2 := PyData → PyData → (R → Prop) → Prop
structure OpD (K : PySem.W.Frag) (r : R2) (W : W2) : Prop where
  mono : ∀ d e Q Q', (∀ x, Q x → Q' x) → W d e Q → W d e Q'
  ok : ∀ (c : En) (F H : Hp) (σ : St) (ρ : Rho) (x y : V) (d e : PyData) (Q : R → Prop) (Qv : VK), J K c F H σ ρ → Dp K F x d → Dp K F y e → W d e Q →
    (∀ z F' H' v, Q z → J K c F' H' σ ρ → RelR K c F' H' σ ρ v z → Qv v H') → r x y H Qv
def gBin (W : W2) (a b : GE) : GE := fun ρ Q => a ρ fun r1 ρ1 => withD r1 fun d => b ρ1 fun r2 ρ2 => withD r2 fun e => W d e fun z => Q z ρ2
theorem gBin_mono {W : W2} {a b : GE} (hW : ∀ d e Q Q', (∀ x, Q x → Q' x) → W d e Q → W d e Q') (ha : MonoE a) (hb : MonoE b) : MonoE (gBin W a b) := fun ρ Q Q' h q =>
  ha _ _ _ (fun _ _ z => withD_mono (fun _ z => hb _ _ _ (fun _ _ z => withD_mono (fun _ z => hW _ _ _ _ (fun _ z => h _ _ z) z) z) z) z) q
theorem tOp_of {r : R2} {W : W2} {a b : Expr} {Ga Gb : GE} (D : OpD X.K r W) (ha : DE X a Ga) (hb : DE X b Gb) (σ : St) (H : Hp) (Q : VK) (h : tDE X.K (gBin W Ga Gb) σ H Q) : tOp r (tDE X.K Ga) (tDE X.K Gb) σ H Q := by
  obtain ⟨c, F, ρ, j, q⟩ := h
  refine ⟨c, F, ρ, j, ha.mono _ _ _ (fun r1 ρ1 q1 F1 H1 v1 j1 v1r => ?_) q⟩
  obtain ⟨d, hd, q1⟩ := withD_use q1
  obtain ⟨F2, j2, s2, dp⟩ := v1r.frz j1 hd
  refine ⟨⟨F2, c.Z, c.io⟩, F2, ρ1, j2.anew, hb.mono _ _ _ (fun r2 ρ2 q2 F3 H3 v3 j3 v3r => ?_) q1⟩
  obtain ⟨e, he, q2⟩ := withD_use q2
  obtain ⟨F4, j4, s4, dp4⟩ := v3r.frz j3 he
  have s24 : Same F2 F4 := j4.ff
  have j5 : J X.K c F4 H3 σ ρ2 := j2.back j4
  exact D.ok c F4 H3 σ ρ2 v1 v3 d e _ _ j5 (dpM s24 dp) dp4 q2 fun z F' H' v hz j' vr => hz F' H' v j' vr
theorem de_bin {op : Operator} {r : R2} {W : W2} {a b : Expr} {Ga Gb : GE} {pos : Pos} (ho : OpR X (binaryOp op) r) (D : OpD X.K r W) (ha : DE X a Ga) (hb : DE X b Gb) : DE X (.BinOp a op b pos) (gBin W Ga Gb) :=
  ⟨gBin_mono D.mono ha.mono hb.mono, peI (pe_op ho ha.pe hb.pe) (tOp_of D ha hb)⟩
theorem de_cmp {op : CmpOp} {r : R2} {W : W2} {a b : Expr} {Ga Gb : GE} {pos : Pos} (ho : OpR X (compareOp op) r) (D : OpD X.K r W) (ha : DE X a Ga) (hb : DE X b Gb) (hm : behindInMarks op b = false) : DE X (.Compare a [op] [b] pos) (gBin W Ga Gb) :=
  ⟨gBin_mono D.mono ha.mono hb.mono, peI (pe_cmpR ho ha.pe hb.pe hm) (tOp_of D ha hb)⟩
theorem de_ixR {r : R2} {W : W2} {a b : Expr} {Ga Gb : GE} {pos : Pos} (hr : IxR X r) (D : OpD X.K r W) (ha : DE X a Ga) (hb : DE X b Gb) (hs : PlainIx b) : DE X (.Subscript a b pos) (gBin W Ga Gb) :=
  ⟨gBin_mono D.mono ha.mono hb.mono, peI (pe_ix hr ha.pe hb.pe hs) (tOp_of D ha hb)⟩
def rOr (r q : R2) : R2 := fun x y H Q => r x y H Q ∨ q x y H Q
theorem opr_or {f : Value → Value → Sem Value} {r q : R2} (h : OpR X f r) (k : OpR X f q) : OpR X f (rOr r q) := fun pins s σ H x y v u Q I rx ry z => z.elim (h pins s σ H x y v u Q I rx ry) (k pins s σ H x y v u Q I rx ry)
def wI (C : Int → Int → Prop) (g : Int → Int → PyData) : W2
  | .int i, .int j, Q => C i j ∧ Q (.sh (g i j))
  | _, _, _ => False
theorem wI_mono {C : Int → Int → Prop} {g : Int → Int → PyData} : ∀ d e Q Q', (∀ x, Q x → Q' x) → wI C g d e Q → wI C g d e Q' := fun d e Q Q' h q => by
  unfold wI at *
  split <;> simp_all
theorem wI_use {C : Int → Int → Prop} {g : Int → Int → PyData} {d e : PyData} {Q : R → Prop} (q : wI C g d e Q) : ∃ i j, d = .int i ∧ e = .int j ∧ C i j ∧ Q (.sh (g i j)) := by
  unfold wI at q
  split at q
  · exact ⟨_, _, rfl, rfl, q⟩
  · exact q.elim
inductive Flat : V → PyData → Prop
  | non : Flat .non .none
  | bl (b : Bool) : Flat (.bl b) (.bool b)
  | int (i : Int) : Flat (.int i) (.int i)
  | str (x : Str) : Flat (.str x) (.str x)
theorem Flat.dp {K : PySem.W.Frag} {F : Hp} {v : V} {d : PyData} (h : Flat v d) : Dp K F v d := by
  cases h
  · exact .non
  · exact .bl _
  · exact .int _
  · exact .str _
theorem opdI {K : PySem.W.Frag} {C : Int → Int → Prop} {g : Int → Int → V} {g' : Int → Int → PyData} (hg : ∀ i j, Flat (g i j) (g' i j)) : OpD K (rI C g) (wI C g') := ⟨wI_mono, fun c F H σ ρ x y d e Q Qv j hx hy q k => by
  obtain ⟨i, l, rfl, rfl, hc, q⟩ := wI_use q
  cases hx
  cases hy
  exact ⟨i, l, rfl, rfl, hc, k _ F H _ q j (hg i l).dp⟩⟩
theorem opdI0 {K : PySem.W.Frag} {g : Int → Int → V} {g' : Int → Int → PyData} (hg : ∀ i j, Flat (g i j) (g' i j)) : OpD K (rI0 g) (wI (fun _ _ => True) g') := ⟨wI_mono, fun c F H σ ρ x y d e Q Qv j hx hy q k => by
  obtain ⟨i, l, rfl, rfl, hc, q⟩ := wI_use q
  cases hx
  cases hy
  exact ⟨i, l, rfl, rfl, k _ F H _ q j (hg i l).dp⟩⟩
variable {a b : Expr} {Ga Gb : GE} {pos : Pos}
theorem de_sub (ha : DE X a Ga) (hb : DE X b Gb) : DE X (.BinOp a .Sub b pos) (gBin (wI (fun _ _ => True) fun i j => .int (i - j)) Ga Gb) := de_bin op_sub (opdI0 fun _ _ => .int _) ha hb
theorem de_fdiv (ha : DE X a Ga) (hb : DE X b Gb) : DE X (.BinOp a .FloorDiv b pos) (gBin (wI CDiv fun i j => .int (i / j)) Ga Gb) := de_bin op_fdiv (opdI fun _ _ => .int _) ha hb
theorem de_mod (ha : DE X a Ga) (hb : DE X b Gb) : DE X (.BinOp a .Mod b pos) (gBin (wI (fun _ j => 0 < j) fun i j => .int (i % j)) Ga Gb) := de_bin op_mod (opdI fun _ _ => .int _) ha hb
def CPowB (i j : Int) : Prop := 0 ≤ j ∧ (Builtin.Int.intBits i : Int) * j ≤ 2 ^ 27
theorem op_powB : OpR X (binaryOp .Pow) (rI CPowB fun i j => .int (i ^ j.toNat)) := opI fun _ _ _ _ _ _ _ hc q => PyProof.Rows.pow_int hc.1 hc.2 q
theorem de_pow (ha : DE X a Ga) (hb : DE X b Gb) : DE X (.BinOp a .Pow b pos) (gBin (wI CPowB fun i j => .int (i ^ j.toNat)) Ga Gb) := de_bin op_powB (opdI fun _ _ => .int _) ha hb
theorem de_gt (ha : DE X a Ga) (hb : DE X b Gb) : DE X (.Compare a [.Gt] [b] pos) (gBin (wI (fun _ _ => True) fun i j => .bool (decide (j < i))) Ga Gb) := de_cmp op_gt (opdI0 fun _ _ => .bl _) ha hb (nomark _)
theorem de_ge (ha : DE X a Ga) (hb : DE X b Gb) : DE X (.Compare a [.GtE] [b] pos) (gBin (wI (fun _ _ => True) fun i j => .bool (decide (j ≤ i))) Ga Gb) := de_cmp op_ge (opdI0 fun _ _ => .bl _) ha hb (nomark _)
def wAdd : W2
  | .int i, .int j, Q => Q (.sh (.int (i + j)))
  | .list xs, .list ys, Q => xs.length + ys.length ≤ 1000000 ∧ Q (.own (.lst (xs ++ ys)))
  | .str x, .str y, Q => x.length + y.length ≤ 1000000 ∧ Q (.sh (.str (x ++ y)))
  | _, _, _ => False
theorem wAdd_mono : ∀ d e Q Q', (∀ x, Q x → Q' x) → wAdd d e Q → wAdd d e Q' := fun d e Q Q' h q => by
  unfold wAdd at *
  split <;> simp_all
def rCatS (K : PySem.W.Frag) : R2 := fun x y H Q => ∃ l b xs zs, x = .ref l ∧ y = .ref b ∧ SqL K H l xs ∧ SqL K H b zs ∧ xs.length + zs.length ≤ sizeLine ∧ ∀ p, H p = none → Q (.ref p) (upd H p (.lst (xs ++ zs)))
theorem million : (1000000 : Nat) ≤ sizeLine := by decide
end
end DL
set_option Elab.async false
set_option linter.all false
set_option maxRecDepth 100000
namespace DL
open PySem L2
section
variable {X : Cx} {a b : Expr} {Ga Gb : GE} {pos : Pos}
theorem op_catS : OpR X (binaryOp .Add) (rCatS X.K) := by
  intro pins s σ H x y v u Q I rx ry h
  obtain ⟨l, b, xs, zs, rfl, rfl, hH, hB, hz, q⟩ := h
  cases rx
  cases ry
  obtain ⟨its, r, ⟨⟨cls, dd, data, sl⟩, n, ho, hc, hdd, hd⟩, z1⟩ := I.list hH
  obtain ⟨its2, r2, ⟨⟨cls2, dd2, data2, sl2⟩, n2, ho2, hc2, hdd2, hd2⟩, z2⟩ := I.list hB
  simp only at hc hd hc2 hd2
  subst hc hd hc2 hd2
  have l1 := r.length
  have l2 := r2.length
  refine PySem.concat_meets ⟨_, ho, rfl⟩ ⟨_, ho2, rfl⟩ noFill_list_add seq_list_add PySem.F.slot_list_add PySem.F.entry_list_add (PySem.F.args_list_add_2 _ _) (PyProof.Rows.list_addW l b its.toArray its2.toArray n n2 dd dd2 sl sl2 (by rw [List.size_toArray, List.size_toArray]; omega)) ⟨ho, ho2, ?_⟩
  have ea : its.toArray ++ its2.toArray = (its ++ its2).toArray := by simp
  rw [ea]
  exact ⟨.ref _, _, I.lnew (t' := s.toks) (r.append r2) (by rw [List.length_append]; omega), rfl, q _ I.fresh⟩
theorem dp_lst {K : PySem.W.Frag} {F : Hp} {v : V} {ds : List PyData} (h : Dp K F v (.list ds)) : ∃ a xs, v = .ref a ∧ SqL K F a xs ∧ DpAll K F xs ds := by
  cases h
  exact ⟨_, _, rfl, by assumption, by assumption⟩
theorem dp_tup {K : PySem.W.Frag} {F : Hp} {v : V} {ds : List PyData} (h : Dp K F v (.tuple ds)) : ∃ a xs, v = .ref a ∧ SqT K F a xs ∧ DpAll K F xs ds := by
  cases h
  exact ⟨_, _, rfl, by assumption, by assumption⟩
theorem relNew {K : PySem.W.Frag} {c : En} {F H : Hp} {σ : St} {ρ : Rho} {p : Addr} {o : OO} {ho : HO} (j : J K c F H σ ρ) (hp : H p = none) (h : OOk K F o ho) : RelR K c F (upd H p ho) σ ρ (.ref p) (.own o) :=
  ⟨p, ho, rfl, upd_same, h, j.ffree hp, j.zfree hp, j.apart hp⟩
theorem opdAdd {K : PySem.W.Frag} : OpD K (rOr (rI0 fun i j => .int (i + j)) (rOr (rCatS K) (fun x y H Q => ∃ i j, x = .str i ∧ y = .str j ∧ i.length + j.length ≤ sizeLine ∧ Q (.str (i ++ j)) H))) wAdd := ⟨wAdd_mono, fun c F H σ ρ x y d e Q Qv j hx hy q k => by
  unfold wAdd at q
  have hm := million
  split at q
  · cases hx
    cases hy
    exact .inl ⟨_, _, rfl, rfl, k _ F H _ q j (.int _)⟩
  · obtain ⟨l, xs, rfl, h1, a1⟩ := dp_lst hx
    obtain ⟨b, ys, rfl, h2, a2⟩ := dp_lst hy
    refine .inr (.inl ⟨l, b, xs, ys, rfl, rfl, j.fh.seq h1, j.fh.seq h2, by rw [DpAll.length a1, DpAll.length a2]; omega, fun p hp => ?_⟩)
    exact k _ F _ _ q.2 (j.alloc hp _) (relNew j hp ⟨_, rfl, DpAll.app a1 a2⟩)
  · cases hx
    cases hy
    exact .inr (.inr ⟨_, _, rfl, rfl, by omega, k _ F H _ q.2 j (.str _)⟩)
  · exact q.elim⟩
def rEqR (K : PySem.W.Frag) (neg : Bool) : R2 := fun x y H Q => ∃ d e, Dp K H x d ∧ Dp K H y e ∧ d.canLay0 = true ∧ e.canLay0 = true ∧ min d.depth e.depth < 200 ∧ Q (.bl (if neg then !PyData.eqv d e else PyData.eqv d e)) H
theorem op_eqR (hr : X.A.units + 200 < cLine) : OpR X (compareOp .Eq) (rEqR X.K false) := by
  intro pins s σ H x y v u Q I rx ry h
  obtain ⟨d, e, hd, he, s1, s2, z, q⟩ := h
  obtain ⟨as, r1⟩ := Dp.reads I d x v hd rx
  obtain ⟨bs, r2⟩ := Dp.reads I e y u he ry
  exact SeqAt.compareEq_reads r1 r2 s1 s2 (by omega) ⟨.bl _, H, I, rfl, q⟩
theorem op_neR (hr : X.A.units + 200 < cLine) : OpR X (compareOp .NotEq) (rEqR X.K true) := by
  intro pins s σ H x y v u Q I rx ry h
  obtain ⟨d, e, hd, he, s1, s2, z, q⟩ := h
  obtain ⟨as, r1⟩ := Dp.reads I d x v hd rx
  obtain ⟨bs, r2⟩ := Dp.reads I e y u he ry
  exact SeqAt.compareNe_reads r1 r2 s1 s2 (by omega) ⟨.bl _, H, I, rfl, q⟩
theorem u200 {k : Nat} {A : Around} (r : Room k A) : A.units + 200 < cLine := by have := r.un; omega
def wEq (neg : Bool) : W2 := fun d e Q => d.canLay0 = true ∧ e.canLay0 = true ∧ min d.depth e.depth < 200 ∧ Q (.sh (.bool (if neg then !PyData.eqv d e else PyData.eqv d e)))
theorem opdEq {K : PySem.W.Frag} {neg : Bool} : OpD K (rEqR K neg) (wEq neg) := ⟨fun d e Q Q' h q => ⟨q.1, q.2.1, q.2.2.1, h _ q.2.2.2⟩, fun c F H σ ρ x y d e Q Qv j hx hy q k =>
  ⟨d, e, dpM j.fh hx, dpM j.fh hy, q.1, q.2.1, q.2.2.1, k _ F H _ q.2.2.2 j (.bl _)⟩⟩
theorem de_eq {k : Nat} (hr : Room k X.A) (ha : DE X a Ga) (hb : DE X b Gb) : DE X (.Compare a [.Eq] [b] pos) (gBin (wEq false) Ga Gb) := de_cmp (op_eqR (u200 hr)) opdEq ha hb (nomark _)
def gNeg (a : GE) : GE := fun ρ Q => a ρ fun r ρ' => match r with | .sh (.int i) => Q (.sh (.int (-i))) ρ' | _ => False
theorem gNeg_mono {a : GE} (h : MonoE a) : MonoE (gNeg a) := fun _ _ _ hq q => h _ _ _ (fun r ρ' z => by split at z <;> first | exact hq _ _ z | exact z.elim) q
theorem de_neg (ha : DE X a Ga) : DE X (.UnaryOp .USub a pos) (gNeg Ga) := ⟨gNeg_mono ha.mono, peI (pe_un un_neg ha.pe) fun σ H Q ⟨c, F, ρ, j, q⟩ => by
  refine ⟨c, F, ρ, j, ha.mono _ _ _ (fun r1 ρ1 q1 F1 H1 v1 j1 v1r => ?_) q⟩
  split at q1
  · cases v1r
    exact ⟨_, rfl, q1 F1 H1 _ j1 (.int _)⟩
  · exact q1.elim⟩
def gNot (a : GE) : GE := fun ρ Q => a ρ fun r ρ' => match r with | .sh (.bool i) => Q (.sh (.bool (!i))) ρ' | _ => False
def gAndV (a b : GE) : GE := fun ρ Q => a ρ fun r ρ' => match r with | .sh (.bool true) => b ρ' Q | .sh (.bool false) => Q (.sh (.bool false)) ρ' | _ => False
theorem gAndV_mono {a b : GE} (h : MonoE a) (k : MonoE b) : MonoE (gAndV a b) := fun _ _ _ hq q => h _ _ _ (fun r ρ' z => by split at z <;> first | exact hq _ _ z | exact k _ _ _ hq z | exact z.elim) q
variable {rest : List Expr}
theorem de_one {op : BoolOp} (ha : DE X a Ga) : DE X (.BoolOp op [a] pos) Ga := ⟨ha.mono, pe_one ha.pe⟩
theorem de_and (ha : DE X a Ga) (hb : DE X (.BoolOp .And (b :: rest) pos) Gb) : DE X (.BoolOp .And (a :: b :: rest) pos) (gAndV Ga Gb) := ⟨gAndV_mono ha.mono hb.mono, peI (pe_and ha.pe hb.pe) fun σ H Q ⟨c, F, ρ, j, q⟩ => by
  refine ⟨c, F, ρ, j, ha.mono _ _ _ (fun r1 ρ1 q1 F1 H1 v1 j1 v1r => ?_) q⟩
  split at q1
  · cases v1r
    exact ⟨_, rfl, iteT ⟨c, F1, ρ1, j1, q1⟩⟩
  · cases v1r
    exact ⟨_, rfl, iteF (q1 F1 H1 _ j1 (.bl _))⟩
  · exact q1.elim⟩
def gB (a : GE) : GT := fun ρ Q => a ρ fun r ρ' => match r with | .sh (.bool i) => Q i ρ' | _ => False
theorem gB_mono {a : GE} (h : MonoE a) : MonoT (gB a) := fun _ _ _ hq q => h _ _ _ (fun r ρ' z => by split at z <;> first | exact hq _ _ z | exact z.elim) q
theorem dt_val {e : Expr} {G : GE} (h : DE X e G) (he : ∀ whole, isTrue e X.env whole = (do let v ← whole; standAt e.pos; holding [v] (truthy v)) := by intro _; rfl) : DT X e (gB G) := ⟨gB_mono h.mono, ptI (pt_val h.pe he) fun σ H Q ⟨c, F, ρ, j, q⟩ => by
  refine ⟨c, F, ρ, j, h.mono _ _ _ (fun r1 ρ1 q1 F1 H1 v1 j1 v1r => ?_) q⟩
  split at q1
  · cases v1r
    exact ⟨_, rfl, q1 F1 H1 j1⟩
  · exact q1.elim⟩
def gAnd (a b : GT) : GT := fun ρ Q => a ρ fun t ρ' => if t = true then b ρ' Q else Q false ρ'
def gNt (a : GT) : GT := fun ρ Q => a ρ fun t ρ' => Q (!t) ρ'
variable {Ta Tb : GT}
theorem gAnd_mono (h : MonoT Ta) (k : MonoT Tb) : MonoT (gAnd Ta Tb) := fun _ _ _ hq q => h _ _ _ (fun r ρ' z => by cases r <;> simp only [if_true, if_false, Bool.false_eq_true] at z ⊢ <;> first | exact hq _ _ z | exact k _ _ _ hq z) q
theorem gNt_mono (h : MonoT Ta) : MonoT (gNt Ta) := fun _ _ _ hq q => h _ _ _ (fun r ρ' z => hq _ _ z) q
theorem dt_w {e : Expr} {T : GT} (h : DW X e T) : DT X e T := ⟨h.mono, h.pw.pt⟩
theorem dw_and1 (ha : DT X a Ta) : DW X (.BoolOp .And [a] pos) Ta := ⟨ha.mono, pw_and1 ha.pt⟩
theorem dw_and (ha : DT X a Ta) (hb : DW X (.BoolOp .And (b :: rest) pos) Tb) : DW X (.BoolOp .And (a :: b :: rest) pos) (gAnd Ta Tb) := ⟨gAnd_mono ha.mono hb.mono, pwI (pw_and ha.pt hb.pw) fun σ H Q ⟨c, F, ρ, j, q⟩ => by
  refine ⟨c, F, ρ, j, ha.mono _ _ _ (fun t ρ1 q1 F1 H1 j1 => ?_) q⟩
  cases t
  · exact iteF (q1 F1 H1 j1)
  · exact iteT ⟨c, F1, ρ1, j1, q1⟩⟩
theorem dt_not (ha : DT X a Ta) : DT X (.UnaryOp .Not a pos) (gNt Ta) := ⟨gNt_mono ha.mono, ptI (pt_not ha.pt) fun σ H Q ⟨c, F, ρ, j, q⟩ => ⟨c, F, ρ, j, ha.mono _ _ _ (fun t ρ1 q1 F1 H1 j1 => q1 F1 H1 j1) q⟩⟩
def gIfE (t : GT) (a b : GE) : GE := fun ρ Q => t ρ fun k ρ' => if k = true then a ρ' Q else b ρ' Q
theorem gIfE_mono {t : GT} {a b : GE} (h : MonoT t) (ha : MonoE a) (hb : MonoE b) : MonoE (gIfE t a b) := fun _ _ _ hq q => h _ _ _ (fun r ρ' z => by cases r <;> simp only [if_true, if_false, Bool.false_eq_true] at z ⊢ <;> first | exact ha _ _ _ hq z | exact hb _ _ _ hq z) q
theorem de_ifE {t : Expr} (ht : DT X t Ta) (ha : DE X a Ga) (hb : DE X b Gb) : DE X (.IfExp t a b pos) (gIfE Ta Ga Gb) := ⟨gIfE_mono ht.mono ha.mono hb.mono, peI (pe_ifExp ht.pt ha.pe hb.pe) fun σ H Q ⟨c, F, ρ, j, q⟩ => by
  refine ⟨c, F, ρ, j, ht.mono _ _ _ (fun t ρ1 q1 F1 H1 j1 => ?_) q⟩
  cases t
  · exact iteF ⟨c, F1, ρ1, j1, q1⟩
  · exact iteT ⟨c, F1, ρ1, j1, q1⟩⟩
def wIx : W2
  | .tuple ds, .int i, Q => (match atI ds i with | some d => Q (.sh d) | none => False)
  | .list ds, .int i, Q => (match atI ds i with | some d => Q (.sh d) | none => False)
  | _, _, _ => False
theorem wIx_mono : ∀ d e Q Q', (∀ x, Q x → Q' x) → wIx d e Q → wIx d e Q' := fun d e Q Q' h q => by
  unfold wIx at *
  split <;> simp_all <;> split at q <;> simp_all
theorem dpAt {K : PySem.W.Frag} {F : Hp} {xs : List V} {ds : List PyData} {i : Int} {d : PyData} (h : DpAll K F xs ds) (e : atI ds i = some d) : ∃ v, atI xs i = some v ∧ Dp K F v d := by
  unfold atI at *
  rw [DpAll.length h]
  cases z : ixN ds.length i with
  | none => rw [z] at e; cases e
  | some k =>
    rw [z] at e
    exact DpAll.get h e
theorem opdIx {K : PySem.W.Frag} : OpD K (rIx K) wIx := ⟨wIx_mono, fun c F H σ ρ x y d e Q Qv j hx hy q k => by
  unfold wIx at q
  split at q
  · obtain ⟨l, xs, rfl, h1, a1⟩ := dp_tup hx
    cases hy
    split at q
    · next d' e' =>
      obtain ⟨v, hv, dv⟩ := dpAt a1 e'
      exact .inr (.inl ⟨l, xs, _, v, rfl, rfl, sqT_same j.fh h1, hv, k _ F H _ q j dv⟩)
    · exact q.elim
  · obtain ⟨l, xs, rfl, h1, a1⟩ := dp_lst hx
    cases hy
    split at q
    · next d' e' =>
      obtain ⟨v, hv, dv⟩ := dpAt a1 e'
      exact .inl ⟨l, xs, _, v, rfl, rfl, j.fh.seq h1, hv, k _ F H _ q j dv⟩
    · exact q.elim
  · exact q.elim⟩
theorem de_ix (ha : DE X a Ga) (hb : DE X b Gb) (hs : PlainIx b := by exact fun _ _ => rfl) : DE X (.Subscript a b pos) (gBin wIx Ga Gb) := de_ixR ix_seq opdIx ha hb hs
end
end DL
set_option Elab.async false
set_option linter.all false
set_option maxRecDepth 100000
namespace DL
open PySem L2
section
variable {X : Cx} {a b e : Expr} {es : List Expr} {Ga Gb : GE} {pos : Pos}
abbrev GA := Rho → (List PyData → Rho → Prop) → Prop
def MonoA (G : GA) : Prop := ∀ ρ Q Q', (∀ r ρ', Q r ρ' → Q' r ρ') → G ρ Q → G ρ Q'
def tDA (K : PySem.W.Frag) (G : GA) : TA := fun σ H Q => ∃ c F ρ, J K c F H σ ρ ∧ G ρ fun ds ρ' => ∀ F' H' vs, J K c F' H' σ ρ' → DpAll K F' vs ds → Q vs H'
structure DA (X : Cx) (es : List Expr) (G : GA) : Prop where
  mono : MonoA G
  pa : PA X es (tDA X.K G)
def gNil : GA := fun ρ Q => Q [] ρ
def gCons (a : GE) (t : GA) : GA := fun ρ Q => a ρ fun r ρ1 => withD r fun d => t ρ1 fun ds ρ2 => Q (d :: ds) ρ2
theorem paI {t t' : TA} (h : PA X es t) (i : ∀ σ H Q, t' σ H Q → t σ H Q) : PA X es t' := fun p pins s σ H Q I q => h p pins s σ H Q I (i σ H Q q)
theorem da_nil : DA X [] gNil := ⟨fun _ _ _ h q => h _ _ q, paI pa_nil fun σ H Q ⟨c, F, ρ, j, q⟩ => q F H [] j .nil⟩
theorem gCons_mono {a : GE} {t : GA} (h : MonoE a) (k : MonoA t) : MonoA (gCons a t) := fun _ _ _ hq q => h _ _ _ (fun _ _ z => withD_mono (fun _ z => k _ _ _ (fun _ _ z => hq _ _ z) z) z) q
theorem da_cons {t : GA} (ha : DE X e Ga) (ht : DA X es t) (hs : starEach (e :: es) X.env = (false, eval e X.env) :: starEach es X.env := by rfl) : DA X (e :: es) (gCons Ga t) := ⟨gCons_mono ha.mono ht.mono, paI (pa_cons ha.pe ht.pa hs) fun σ H Q ⟨c, F, ρ, j, q⟩ => by
  refine ⟨c, F, ρ, j, ha.mono _ _ _ (fun r1 ρ1 q1 F1 H1 v1 j1 v1r => ?_) q⟩
  obtain ⟨d, hd, q1⟩ := withD_use q1
  obtain ⟨F2, j2, s2, dp⟩ := v1r.frz j1 hd
  refine ⟨⟨F2, c.Z, c.io⟩, F2, ρ1, j2.anew, ht.mono _ _ _ (fun ds ρ2 q2 F3 H3 vs j3 a3 => ?_) q1⟩
  exact q2 F3 H3 (v1 :: vs) (j2.back j3) (.cons (dpM j3.ff dp) a3)⟩
def gLst (t : GA) : GE := fun ρ Q => t ρ fun ds ρ' => ds.length ≤ 1000 ∧ Q (.own (.lst ds)) ρ'
def gTup (t : GA) : GE := fun ρ Q => t ρ fun ds ρ' => ds.length ≤ 1000 ∧ Q (.sh (.tuple ds)) ρ'
theorem de_lst {t : GA} (h : DA X es t) : DE X (.List es pos) (gLst t) := ⟨fun _ _ _ hq q => h.mono _ _ _ (fun _ _ z => ⟨z.1, hq _ _ z.2⟩) q, peI (pe_lst h.pa) fun σ H Q ⟨c, F, ρ, j, q⟩ =>
  ⟨c, F, ρ, j, h.mono _ _ _ (fun ds ρ1 q1 F1 H1 vs j1 a1 => ⟨Nat.le_of_lt (small1000 (by rw [DpAll.length a1]; exact q1.1)), fun p hp => q1.2 F1 _ _ (j1.alloc hp _) (relNew j1 hp ⟨vs, rfl, a1⟩)⟩) q⟩⟩
theorem de_tup {t : GA} {k : Nat} (h : DA X es t) : DE X (.Tuple es k pos) (gTup t) := ⟨fun _ _ _ hq q => h.mono _ _ _ (fun _ _ z => ⟨z.1, hq _ _ z.2⟩) q, peI (pe_tup h.pa) fun σ H Q ⟨c, F, ρ, j, q⟩ =>
  ⟨c, F, ρ, j, h.mono _ _ _ (fun ds ρ1 q1 F1 H1 vs j1 a1 => ⟨Nat.le_of_lt (small1000 (by rw [DpAll.length a1]; exact q1.1)), fun p hp =>
    q1.2 _ _ _ ((j1.alloc hp _).frz upd_same (j1.ffree hp) (j1.zfree hp) (j1.apart hp)) (.tup (SqT.of upd_same) (dpAllM (same_new (j1.ffree hp) _) a1))⟩) q⟩⟩
abbrev WC := List PyData → (R → Prop) → Prop
structure CallD (K : PySem.W.Frag) (r : List V → Hp → VK → Prop) (W : WC) : Prop where
  mono : ∀ ds Q Q', (∀ x, Q x → Q' x) → W ds Q → W ds Q'
  ok : ∀ (c : En) (F H : Hp) (σ : St) (ρ : Rho) (vs : List V) (ds : List PyData) (Q : R → Prop) (Qv : VK), J K c F H σ ρ → DpAll K F vs ds → W ds Q →
    (∀ z F' H' v, Q z → J K c F' H' σ ρ → RelR K c F' H' σ ρ v z → Qv v H') → r vs H Qv
def gBlt (W : WC) (t : GA) : GE := fun ρ Q => t ρ fun ds ρ' => W ds fun z => Q z ρ'
theorem gBlt_mono {W : WC} {t : GA} (hW : ∀ ds Q Q', (∀ x, Q x → Q' x) → W ds Q → W ds Q') (h : MonoA t) : MonoE (gBlt W t) := fun _ _ _ hq q => h _ _ _ (fun _ _ z => hW _ _ _ (fun _ z => hq _ _ z) z) q
theorem tCB_of {r : List V → Hp → VK → Prop} {W : WC} {t : GA} (D : CallD X.K r W) (h : DA X es t) (σ : St) (H : Hp) (Q : VK) (z : tDE X.K (gBlt W t) σ H Q) : tCB r (tDA X.K t) σ H Q := by
  obtain ⟨c, F, ρ, j, q⟩ := z
  exact ⟨c, F, ρ, j, h.mono _ _ _ (fun ds ρ1 q1 F1 H1 vs j1 a1 => D.ok c F1 H1 σ ρ1 vs ds _ _ j1 a1 q1 fun z F' H' v hz j' vr => hz F' H' v j' vr) q⟩
theorem de_blt {x : Str} {id : String} {r : List V → Hp → VK → Prop} {W : WC} {t : GA} {p : Pos} (D : CallD X.K r W) (hc : CallR X (.builtin id) r) (hg : Gl X x) (hm : X.mg x = none) (hv : bootBuiltins x = some (.builtin id)) (h : DA X (e :: es) t) (hn : x ≠ "__name__" := by decide) (hdb : (x == ("__debug__" : Str)) = false := by decide)
    (he : starEach (e :: es) X.env = (false, eval e X.env) :: starEach es X.env := by rfl) (hpl : (backTo pos (starEach es X.env)).any (·.1) = false := by rfl) : DE X (.Call (.Name x p) (e :: es) [] pos) (gBlt W t) :=
  ⟨gBlt_mono D.mono h.mono, peI (pe_callB hc hg hm hv h.pa hn hdb he hpl) (tCB_of D h)⟩
theorem de_bty {x : Str} {T : String} {r : List V → Hp → VK → Prop} {W : WC} {t : GA} {p : Pos} (D : CallD X.K r W) (hc : CallR X (.type T) r) (hg : Gl X x) (hm : X.mg x = none) (hv : bootBuiltins x = some (.type T)) (h : DA X (e :: es) t) (hn : x ≠ "__name__" := by decide) (hdb : (x == ("__debug__" : Str)) = false := by decide)
    (he : starEach (e :: es) X.env = (false, eval e X.env) :: starEach es X.env := by rfl) (hpl : (backTo pos (starEach es X.env)).any (·.1) = false := by rfl) : DE X (.Call (.Name x p) (e :: es) [] pos) (gBlt W t) :=
  ⟨gBlt_mono D.mono h.mono, peI (pe_callTy hc hg hm hv h.pa hn hdb he hpl) (tCB_of D h)⟩
def wLen : WC
  | [.list ds], Q => Q (.sh (.int ds.length))
  | [.tuple ds], Q => Q (.sh (.int ds.length))
  | _, _ => False
def wI2 (g : Int → Int → Int) : WC
  | [.int i, .int j], Q => Q (.sh (.int (g i j)))
  | _, _ => False
theorem cd_I2 {K : PySem.W.Frag} {g : Int → Int → Int} : CallD K (fun xs H Q => ∃ i j, xs = [.int i, .int j] ∧ Q (.int (g i j)) H) (wI2 g) := ⟨fun ds Q Q' h q => by unfold wI2 at *; split <;> simp_all, fun c F H σ ρ vs ds Q Qv j a q k => by
  unfold wI2 at q
  split at q
  · cases a with | cons h t => cases t with | cons h' t' => cases t' with | nil =>
    cases h
    cases h'
    exact ⟨_, _, rfl, k _ F H _ q j (.int _)⟩
  · exact q.elim⟩
def wAbs : WC
  | [.int i], Q => Q (.sh (.int (if i < 0 then -i else i)))
  | _, _ => False
theorem cd_abs {K : PySem.W.Frag} : CallD K (fun xs H Q => ∃ i, xs = [.int i] ∧ Q (.int (if i < 0 then -i else i)) H) wAbs := ⟨fun ds Q Q' h q => by unfold wAbs at *; split <;> simp_all, fun c F H σ ρ vs ds Q Qv j a q k => by
  unfold wAbs at q
  split at q
  · cases a with | cons h t => cases t with | nil =>
    cases h
    exact ⟨_, rfl, k _ F H _ q j (.int _)⟩
  · exact q.elim⟩
def wInt : WC
  | [.int i], Q => Q (.sh (.int i))
  | [.bool b], Q => Q (.sh (.int (if b then 1 else 0)))
  | _, _ => False
theorem cd_int {K : PySem.W.Frag} : CallD K (fun xs H Q => (∃ i, xs = [.int i] ∧ Q (.int i) H) ∨ ∃ k, xs = [.bl k] ∧ Q (.int (if k then 1 else 0)) H) wInt := ⟨fun ds Q Q' h q => by unfold wInt at *; split <;> simp_all, fun c F H σ ρ vs ds Q Qv j a q k => by
  unfold wInt at q
  split at q
  · cases a with | cons h t => cases t with | nil =>
    cases h
    exact .inl ⟨_, rfl, k _ F H _ q j (.int _)⟩
  · cases a with | cons h t => cases t with | nil =>
    cases h
    exact .inr ⟨_, rfl, k _ F H _ q j (.int _)⟩
  · exact q.elim⟩
abbrev Ct := List PyData → (R → Prop) → Prop
def RelF (K : PySem.W.Frag) (H F' H' : Hp) (v : V) : R → Prop
  | .sh d => Dp K F' v d
  | .own o => ∃ a ho, v = .ref a ∧ H a = none ∧ H' a = some ho ∧ OOk K F' o ho ∧ F' a = none
  | .io _ => False
  | .new ps => ∃ t vs, v = .ref t ∧ F' t = some (.tup vs) ∧ NewP K H F' vs ps
def spD (K : PySem.W.Frag) (C : Ct) : Sp := fun vs H Q _ => ∃ F ds, Same F H ∧ DpAll K F vs ds ∧ C ds fun r => ∀ F' H' v, Same F F' → Same F' H' → (∀ b o, F' b = some o → F b = some o ∨ H b = none) → Same H H' → RelF K H F' H' v r → Q v H'
def gCall (C : Ct) (t : GA) : GE := fun ρ Q => t ρ fun ds ρ' => C ds fun r => Q r ρ'
def MonoC (C : Ct) : Prop := ∀ ds Q Q', (∀ r, Q r → Q' r) → C ds Q → C ds Q'
theorem J.called {K : PySem.W.Frag} {c : En} {F H F' H' : Hp} {σ : St} {ρ : Rho} (j : J K c F H σ ρ) (sf : Same F F') (sh : Same F' H') (gr : ∀ b o, F' b = some o → F b = some o ∨ H b = none) (s : Same H H') : J K c F' H' σ ρ :=
  by
  refine ⟨j.len, j.ff.trans sf, sh, j.zh.trans s, fun b o h => (gr b o h).elim (j.fz b o) fun z => .inr (j.zfree z), fun i d h => ?_, fun i o h => ?_, j.nd, j.ios⟩
  · obtain ⟨v, a, b⟩ := j.sh i d h
    exact ⟨v, a, dpM sf b⟩
  · obtain ⟨a, ho, h1, h2, h3, h4, h5⟩ := j.ow i o h
    refine ⟨a, ho, h1, s _ _ h2, ooM sf h3, ?_, h5⟩
    cases e : F' a with
    | none => rfl
    | some u =>
      rcases gr a u e with z | z
      · rw [h4] at z; cases z
      · rw [h2] at z; cases z
theorem RelF.rel {K : PySem.W.Frag} {c : En} {F H F' H' : Hp} {σ : St} {ρ : Rho} {v : V} : ∀ {r : R}, J K c F H σ ρ → RelF K H F' H' v r → RelR K c F' H' σ ρ v r
  | .sh _, _, h => h
  | .own _, j, ⟨a, ho, h1, h2, h3, h4, h5⟩ => ⟨a, ho, h1, h3, h4, h5, j.zfree h2, j.apart h2⟩
  | .io _, _, h => h.elim
  | .new _, j, ⟨t, vs, h1, h2, h3⟩ => ⟨t, vs, h1, h2, h3.zed fun _ _ _ z => j.zfree z⟩
theorem de_call {bq : Bool} {C : Ct} {k : Nat} {f : Addr} {fd : FuncData} {ps : List Str} {x : Str} {t : GA} {p : Pos} (M : MonoC C) (Fn : FnOkC bq X.prog X.w X.K X.mg X.base CX0 k f fd ps (spD X.K C)) (hqt : Qt bq X) (hr : Room k X.A) (hg : Gl X x) (hm : X.mg x = some (.ref f)) (hk : PySem.W.keepIn X.K (.ref f) = true) (hb : Binds X.K fd ps []) (ha : DA X (e :: es) t)
    (hdb : (x == ("__debug__" : Str)) = false := by decide) (he : starEach (e :: es) X.env = (false, eval e X.env) :: starEach es X.env := by rfl) (hpl : (backTo pos (starEach es X.env)).any (·.1) = false := by rfl) : DE X (.Call (.Name x p) (e :: es) [] pos) (gCall C t) :=
  ⟨fun _ _ _ hq q => ha.mono _ _ _ (fun _ _ z => M _ _ _ (fun _ z => hq _ _ z) z) q, peI (pe_call Fn hqt hr hg hm hk hb .nil pass0 ha.pa hdb he hpl) fun σ H Q ⟨c, F, ρ, j, q⟩ => by
    refine ⟨c, F, ρ, j, ha.mono _ _ _ (fun ds ρ1 q1 F1 H1 vs j1 a1 => ?_) q⟩
    show spD X.K C (vs ++ []) H1 Q E0
    rw [List.append_nil]
    exact ⟨F1, ds, j1.fh, a1, M _ _ _ (fun r hq F' H' v s1 s2 gr s3 rf => hq F' H' v (j1.called s1 s2 gr s3) (rf.rel j1)) q1⟩⟩
abbrev Cp := OO → List PyData → (R → OO → Prop) → Prop
def MonoP (C : Cp) : Prop := ∀ o ds Q Q', (∀ r o', Q r o' → Q' r o') → C o ds Q → C o ds Q'
def spP (K : PySem.W.Frag) (C : Cp) : Sp := fun vs H Q _ => ∃ F a ho o us ds, vs = .ref a :: us ∧ Same F H ∧ F a = none ∧ H a = some ho ∧ OOk K F o ho ∧ DpAll K F us ds ∧ C o ds fun r o' => ∀ F' H' v ho', Same F F' → Same F' H' → (∀ b u, F' b = some u → F b = some u ∨ H b = none) →
  (∀ b u, b ≠ a → H b = some u → H' b = some u) → H' a = some ho' → OOk K F' o' ho' → RelF K H F' H' v r → Q v H'
end
end DL
set_option Elab.async false
set_option linter.all false
set_option maxRecDepth 100000
namespace DL
open PySem L2
def ownAt (ρ : Rho) (i : Nat) (k : OO → (OO → R) → Prop) : Prop := match ρ[i]? with
  | some (some (.own o)) => k o .own
  | some (some (.io o)) => k o .io
  | _ => False
theorem ownAt_mono {ρ : Rho} {i : Nat} {k k' : OO → (OO → R) → Prop} (h : ∀ o w, k o w → k' o w) (q : ownAt ρ i k) : ownAt ρ i k' := by
  unfold ownAt at *
  split <;> simp_all
theorem ownAt_use {ρ : Rho} {i : Nat} {k : OO → (OO → R) → Prop} (q : ownAt ρ i k) : ∃ o w, (w = R.own ∨ w = R.io) ∧ ρ[i]? = some (some (w o)) ∧ Ow ρ i o ∧ k o w := by
  unfold ownAt at q
  split at q
  · next o e => exact ⟨o, R.own, .inl rfl, e, .inl e, q⟩
  · next o e => exact ⟨o, R.io, .inr rfl, e, .inr e, q⟩
  · exact q.elim
section
variable {K : PySem.W.Frag} {c : En} {F H : Hp} {σ : St} {ρ : Rho}
theorem J.putW (j : J K c F H σ ρ) {i : Nat} {w : OO → R} {o o' : OO} {a : Addr} {ho' : HO} (hw : w = R.own ∨ w = R.io) (hr : ρ[i]? = some (some (w o))) (ha : σ[i]? = some (some (V.ref a))) (hk : OOk K F o' ho') : J K c F (upd H a ho') σ (ρ.set i (some (w o'))) := by
  rcases hw with rfl | rfl
  · exact j.put hr (.inl rfl) ha hk
  · exact j.put hr (.inr rfl) ha hk
theorem J.chg (j : J K c F H σ ρ) {a : Addr} (fa : F a = none) (za : c.Z a = none) (ap : Apart σ ρ a) (o : HO) : J K c F (upd H a o) σ ρ where
  len := j.len
  ff := j.ff
  fh := fun b u h => by rw [upd_ne (fun e => by rw [e, fa] at h; cases h)]; exact j.fh b u h
  zh := fun b u h => by rw [upd_ne (fun e => by rw [e, za] at h; cases h)]; exact j.zh b u h
  fz := j.fz
  sh := j.sh
  ow := fun i q h => by
    obtain ⟨b, ho, h1, h2, h3⟩ := j.ow i q h
    exact ⟨b, ho, h1, by rw [upd_ne (fun e => ap i q h (by rw [h1, e]))]; exact h2, h3⟩
  nd := j.nd
  ios := j.ios
theorem upd_back {H : Hp} {a : Addr} {o u : HO} (h : H a = some o) : upd (upd H a u) a o = H := by
  funext b
  unfold upd
  by_cases e : b = a
  · rw [if_pos e, e, h]
  · rw [if_neg e, if_neg e]
theorem J.calledBut {F' H' : Hp} {a : Addr} {ho : HO} (j : J K c F H σ ρ) (ha : H a = some ho) (fa : F a = none) (sf : Same F F') (sh : Same F' H') (gr : ∀ b u, F' b = some u → F b = some u ∨ H b = none) (s : ∀ b u, b ≠ a → H b = some u → H' b = some u) : F' a = none ∧ J K c F' (upd H' a ho) σ ρ := by
  have fa' : F' a = none := by
    cases e : F' a with
    | none => rfl
    | some u =>
      rcases gr a u e with z | z
      · rw [fa] at z; cases z
      · rw [ha] at z; cases z
  refine ⟨fa', j.called sf (fun b u h => ?_) gr fun b u h => ?_⟩
  · rw [upd_ne (fun e => by rw [e, fa'] at h; cases h)]
    exact sh b u h
  · by_cases e : b = a
    · rw [e, upd_same, ← ha, ← e, h]
    · rw [upd_ne e]
      exact s b u e h
end
section
variable {X : Cx} {a b e : Expr} {es : List Expr} {Ga Gb : GE} {pos : Pos}
def gCallO (C : Cp) (i : Nat) (t : GA) : GE := fun ρ Q => ownAt ρ i fun _ _ => t ρ fun ds ρ1 => ownAt ρ1 i fun o w => C o ds fun r o' => Q r (ρ1.set i (some (w o')))
theorem gCallO_mono {C : Cp} {i : Nat} {t : GA} (M : MonoP C) (h : MonoA t) : MonoE (gCallO C i t) := fun _ _ _ hq q => ownAt_mono (fun _ _ z => h _ _ _ (fun _ _ z => ownAt_mono (fun _ _ z => M _ _ _ _ (fun _ _ z => hq _ _ z) z) z) z) q
theorem de_callO {bq : Bool} {C : Cp} {k : Nat} {f : Addr} {fd : FuncData} {ps : List Str} {x y : Str} {i : Nat} {t : GA} {p py : Pos} (M : MonoP C) (Fn : FnOkC bq X.prog X.w X.K X.mg X.base CX0 k f fd ps (spP X.K C)) (hqt : Qt bq X) (hr : Room k X.A) (hg : Gl X x) (hm : X.mg x = some (.ref f)) (hk : PySem.W.keepIn X.K (.ref f) = true) (hb : Binds X.K fd ps [])
    (hy : PE X (.Name y py) (tVar i)) (ha : DA X es t) (hs : starEach (.Name y py :: es) X.env = (false, eval (.Name y py) X.env) :: starEach es X.env := by rfl)
    (hdb : (x == ("__debug__" : Str)) = false := by decide) (hpl : (backTo pos (starEach es X.env)).any (·.1) = false := by rfl) : DE X (.Call (.Name x p) (.Name y py :: es) [] pos) (gCallO C i t) :=
  ⟨gCallO_mono M ha.mono, peI (pe_call Fn hqt hr hg hm hk hb .nil pass0 (pa_cons hy ha.pa hs) hdb hs hpl) fun σ H Q ⟨c, F, ρ, j, q⟩ => by
    obtain ⟨o0, w0, _, _, ow0, q⟩ := ownAt_use q
    obtain ⟨a0, ho0, hσ, _⟩ := j.ow i o0 ow0
    refine ⟨.ref a0, hσ, c, F, ρ, j, ha.mono _ _ _ (fun ds ρ1 q1 F1 H1 vs j1 a1 => ?_) q⟩
    show spP X.K C ((.ref a0 :: vs) ++ []) H1 Q E0
    rw [List.append_nil]
    obtain ⟨o, w, hw, hρ, ow, q1⟩ := ownAt_use q1
    obtain ⟨a2, ho, hσ2, h2, h3, h4, h5⟩ := j1.ow i o ow
    rw [hσ] at hσ2
    cases hσ2
    refine ⟨F1, a0, ho, o, vs, ds, rfl, j1.fh, h4, h2, h3, a1, M _ _ _ _ (fun r o' hq F' H' v ho' s1 s2 gr s3 ha' ok' rf => ?_) q1⟩
    obtain ⟨fa', j2⟩ := j1.calledBut h2 h4 s1 s2 gr s3
    have j3 := j2.putW hw hρ hσ ok'
    rw [upd_back ha'] at j3
    refine hq F' H' v j3 ?_
    match r, rf with
    | .sh d, rf => exact rf
    | .own q, ⟨b, hb', e1, e2, e3, e4, e5⟩ =>
      refine ⟨b, hb', e1, e3, e4, e5, j1.zfree e2, fun k o2 h z => ?_⟩
      have : ∃ o3, Ow ρ1 k o3 := by
        rcases ow_set h with ⟨e, _⟩ | ⟨_, h⟩
        · exact ⟨o, e ▸ ow⟩
        · exact ⟨o2, h⟩
      obtain ⟨o3, h⟩ := this
      exact j1.apart e2 k o3 h z
    | .io _, rf => exact rf.elim
    | .new _, ⟨t, vs, e1, e2, e3⟩ => exact ⟨t, vs, e1, e2, e3.zed fun _ _ _ z => j1.zfree z⟩⟩
def gCallT (C : Cp) (a : GE) : GE := fun ρ Q => a ρ fun r ρ1 => match r with
  | .own o => C o [] fun r' _ => Q r' ρ1
  | _ => False
theorem de_callT {bq : Bool} {C : Cp} {k : Nat} {f : Addr} {fd : FuncData} {ps : List Str} {x : Str} {p : Pos} (M : MonoP C) (Fn : FnOkC bq X.prog X.w X.K X.mg X.base CX0 k f fd ps (spP X.K C)) (hqt : Qt bq X) (hr : Room k X.A) (hg : Gl X x) (hm : X.mg x = some (.ref f)) (hk : PySem.W.keepIn X.K (.ref f) = true) (hb : Binds X.K fd ps [])
    (ha : DE X a Ga) (hs : starEach [a] X.env = [(false, eval a X.env)] := by rfl)
    (hdb : (x == ("__debug__" : Str)) = false := by decide) (hpl : (backTo pos (starEach [] X.env)).any (·.1) = false := by rfl) : DE X (.Call (.Name x p) [a] [] pos) (gCallT C Ga) :=
  ⟨fun _ _ _ hq q => ha.mono _ _ _ (fun r _ z => by split at z <;> first | exact M _ _ _ _ (fun _ _ z => hq _ _ z) z | exact z.elim) q, peI (pe_call Fn hqt hr hg hm hk hb .nil pass0 (pa_cons ha.pe pa_nil hs) hdb hs hpl) fun σ H Q ⟨c, F, ρ, j, q⟩ => by
    refine ⟨c, F, ρ, j, ha.mono _ _ _ (fun r ρ1 q1 F1 H1 v1 j1 v1r => ?_) q⟩
    split at q1
    · obtain ⟨b, ho, rfl, h2, h3, h4, h5, ap⟩ := v1r
      show spP X.K C ([.ref b] ++ []) H1 Q E0
      rw [List.append_nil]
      refine ⟨F1, b, ho, _, [], [], rfl, j1.fh, h4, h2, h3, .nil, M _ _ _ _ (fun r o' hq F' H' v ho' s1 s2 gr s3 ha' ok' rf => ?_) q1⟩
      obtain ⟨fa', j2⟩ := j1.calledBut h2 h4 s1 s2 gr s3
      have j3 := j2.chg fa' h5 ap ho'
      rw [upd_back ha'] at j3
      exact hq F' H' v j3 (rf.rel j1)
    · exact q1.elim⟩
def gLenO (i : Nat) : GE := fun ρ Q => ownAt ρ i fun o _ => match o with
  | .lst ds => Q (.sh (.int ds.length)) ρ
  | .dic kvs => Q (.sh (.int kvs.length)) ρ
  | .exc _ => False
def gIxO (i : Nat) (b : GE) : GE := fun ρ Q => ownAt ρ i fun _ _ => b ρ fun r ρ1 => withD r fun d => ownAt ρ1 i fun o _ => match o, d with
  | .lst ds, .int k => (match atI ds k with | some x => Q (.sh x) ρ1 | none => False)
  | _, _ => False
structure MethD (K : PySem.W.Frag) (r : V → List V → Hp → VK → Prop) (W : Cp) : Prop where
  mono : MonoP W
  ok : ∀ (F H : Hp) (a : Addr) (xs vs : List V) (o : OO) (ds : List PyData) (Q : R → OO → Prop) (Qv : VK), H a = some (.lst xs) → Same F H → OOk K F o (.lst xs) → DpAll K F vs ds → W o ds Q →
    (∀ z o' v ys, Q (.sh z) o' → Dp K F v z → OOk K F o' (.lst ys) → Qv v (upd H a (.lst ys))) → r (.ref a) vs H Qv
def OO.isL : OO → Prop
  | .lst _ => True
  | .dic _ => False
  | .exc _ => False
def gMeth (W : Cp) (i : Nat) (t : GA) : GE := fun ρ Q => ownAt ρ i fun o0 _ => o0.isL ∧ t ρ fun ds ρ1 => ownAt ρ1 i fun o w => o.isL ∧ W o ds fun r o' => Q r (ρ1.set i (some (w o')))
theorem gMeth_mono {C : Cp} {i : Nat} {t : GA} (M : MonoP C) (h : MonoA t) : MonoE (gMeth C i t) := fun _ _ _ hq q => ownAt_mono (fun _ _ z => ⟨z.1, h _ _ _ (fun _ _ z => ownAt_mono (fun _ _ z => ⟨z.1, M _ _ _ _ (fun _ _ z => hq _ _ z) z.2⟩) z) z.2⟩) q
theorem isL_ho {K : PySem.W.Frag} {F : Hp} {ho : HO} : ∀ {o : OO}, o.isL → OOk K F o ho → ∃ xs, ho = .lst xs
  | .lst _, _, ⟨vs, e, _⟩ => ⟨vs, e⟩
theorem meth_of {r : V → List V → Hp → VK → Prop} {W : Cp} {i : Nat} {t : GA} (M : MethD X.K r W) (mt : MonoA t) (σ : St) (H : Hp) (Q : VK) (h : tDE X.K (gMeth W i t) σ H Q) : tBM X.K "list" r (tVar i) (tDA X.K t) σ H Q := by
  obtain ⟨c, F, ρ, j, q⟩ := h
  obtain ⟨o0, w0, hw0, hρ0, ow0, l0, q⟩ := ownAt_use q
  obtain ⟨a0, ho0, hσ, g2, g3, _⟩ := j.ow i o0 ow0
  obtain ⟨xs0, rfl⟩ := isL_ho l0 g3
  refine ⟨.ref a0, hσ, .inl ⟨rfl, _, SqL.of g2⟩, c, F, ρ, j, mt _ _ _ (fun ds ρ1 q1 F1 H1 vs j1 a1 => ?_) q⟩
  obtain ⟨o, w, hw, hρ, ow, l1, q1⟩ := ownAt_use q1
  obtain ⟨a2, ho, hσ2, h2, h3, h4, h5⟩ := j1.ow i o ow
  rw [hσ] at hσ2
  cases hσ2
  obtain ⟨xs, rfl⟩ := isL_ho l1 h3
  exact M.ok F1 H1 a0 xs vs o ds _ _ h2 j1.fh h3 a1 q1 fun z o' v ys hq dz ok' => hq F1 _ v (j1.putW hw hρ hσ ok') dz
theorem de_meth {id : String} {name : Str} {r : V → List V → Hp → VK → Prop} {W : Cp} {y : Str} {i : Nat} {t : GA} {py apos cpos : Pos} (M : MethD X.K r W) (slot : Slot "list" name id) (hty : typeOf (.builtin id) = pure (.type "method_descriptor")) (hm : MtR X id r) (hy : PE X (.Name y py) (tVar i)) (ha : DA X (e :: es) t)
    (hbase : attributeBase (.Name y py) name X.env (eval (.Name y py) X.env) = eval (.Name y py) X.env := by rfl)
    (hfew : ((backTo cpos (starEach (e :: es) X.env)).all (fun x => !x.1) && (backToKw cpos (keywordEach [] X.env)).all (fun x => x.1.isSome)
      && decide ((e :: es).length + ([] : List Keyword).length + (if ([] : List Keyword).isEmpty then 0 else 1) < 30)) = true := by rfl)
    (hline : (apos.endLine == cpos.line) = true := by rfl) (hs : starEach (e :: es) X.env = (false, eval e X.env) :: starEach es X.env := by rfl) (hplain : (backTo cpos (starEach es X.env)).any (·.1) = false := by rfl) :
    DE X (.Call (.Attribute (.Name y py) name apos) (e :: es) [] cpos) (gMeth W i t) :=
  ⟨gMeth_mono M.mono ha.mono, peI (pe_bm PySem.F.plainAttrs_list slot hty hm hy ha.pa hbase hfew hline hs hplain) (meth_of M ha.mono)⟩
def wAppend : Cp
  | .lst xs, [d], Q => xs.length < 1000000 ∧ Q (.sh .none) (.lst (xs ++ [d]))
  | _, _, _ => False
theorem md_append {K : PySem.W.Frag} : MethD K rAppend wAppend := ⟨fun o ds Q Q' h q => by unfold wAppend at *; split <;> simp_all, fun F H a xs vs o ds Q Qv hH fh ok al q k => by
  unfold wAppend at q
  have hm := million
  split at q
  · obtain ⟨ys, e, ax⟩ := ok
    cases e
    cases al with | cons h t => cases t with | nil =>
    have hl := DpAll.length ax
    exact ⟨a, _, _, rfl, rfl, hH, by omega, k _ _ _ _ q.2 .non ⟨_, rfl, DpAll.app ax (.cons h .nil)⟩⟩
  · exact q.elim⟩
end
end DL
set_option Elab.async false
set_option linter.all false
set_option maxRecDepth 100000
namespace DL
open PySem L2
structure Ek where
  nx : Rho → Prop
  rt : R → Rho → Prop
  bk : Rho → Prop := fun _ => False
  ct : Rho → Prop := fun _ => False
abbrev GS := Rho → Ek → Prop
structure Ek.Le (E E' : Ek) : Prop where
  nx : ∀ ρ, E.nx ρ → E'.nx ρ
  rt : ∀ r ρ, E.rt r ρ → E'.rt r ρ
  bk : ∀ ρ, E.bk ρ → E'.bk ρ
  ct : ∀ ρ, E.ct ρ → E'.ct ρ
def MonoS (G : GS) : Prop := ∀ ρ E E', E.Le E' → G ρ E → G ρ E'
def Ek.of (K : PySem.W.Frag) (c : En) (D : Ends) : Ek where
  nx := fun ρ' => ∀ F' H' σ', J K c F' H' σ' ρ' → D.nx σ' H'
  rt := fun r ρ' => ∀ F' H' σ' v, J K c F' H' σ' ρ' → RelR K c F' H' σ' ρ' v r → D.rt v H'
  bk := fun ρ' => ∀ F' H' σ', J K c F' H' σ' ρ' → D.bk σ' H'
  ct := fun ρ' => ∀ F' H' σ', J K c F' H' σ' ρ' → D.ct σ' H'
def tDS (K : PySem.W.Frag) (G : GS) : TS := fun D σ H => ∃ c F ρ, J K c F H σ ρ ∧ G ρ (Ek.of K c D)
structure DS (X : Cx) (st : Stmt) (G : GS) : Prop where
  mono : MonoS G
  ps : PS X st (tDS X.K G)
structure DSs (X : Cx) (st : List Stmt) (G : GS) : Prop where
  mono : MonoS G
  ps : PSs X st (tDS X.K G)
theorem psI {X : Cx} {e : Stmt} {t t' : TS} (h : PS X e t) (i : ∀ D σ H, t' D σ H → t D σ H) : PS X e t' := fun pins s σ H Q I q => h pins s σ H Q I (i Q σ H q)
theorem pssI {X : Cx} {e : List Stmt} {t t' : TS} (h : PSs X e t) (i : ∀ D σ H, t' D σ H → t D σ H) : PSs X e t' := fun pins s σ H Q I q => h pins s σ H Q I (i Q σ H q)
section
variable {X : Cx} {a b e : Expr} {es : List Expr} {Ga Gb : GE} {pos : Pos} {st : Stmt} {sts : List Stmt} {G G' : GS}
def gNext : GS := fun ρ E => E.nx ρ
def gSeq (G G' : GS) : GS := fun ρ E => G ρ { E with nx := fun ρ' => G' ρ' E }
theorem gNext_mono : MonoS gNext := fun _ _ _ h q => h.nx _ q
theorem gSeq_mono (h : MonoS G) (k : MonoS G') : MonoS (gSeq G G') := fun ρ E E' le q => h ρ { E with nx := fun ρ' => G' ρ' E } { E' with nx := fun ρ' => G' ρ' E' } ⟨fun _ z => k _ _ _ le z, le.rt, le.bk, le.ct⟩ q
theorem dss_nil : DSs X [] gNext := ⟨gNext_mono, pssI pss_nil fun D σ H ⟨c, F, ρ, j, q⟩ => q F H σ j⟩
theorem dss_one (h : DS X st G) : DSs X [st] G := ⟨h.mono, pss_one h.ps⟩
theorem dss_cons (h : DS X st G) (k : DSs X sts G') : DSs X (st :: sts) (gSeq G G') := ⟨gSeq_mono h.mono k.mono, pssI (pss_cons h.ps k.ps) fun D σ H ⟨c, F, ρ, j, q⟩ =>
  ⟨c, F, ρ, j, h.mono ρ { Ek.of X.K c D with nx := fun ρ' => G' ρ' (Ek.of X.K c D) } _ ⟨fun ρ' z F' H' σ' j' => ⟨c, F', ρ', j', z⟩, fun _ _ z => z, fun _ z => z, fun _ z => z⟩ q⟩⟩
def gRet (a : GE) : GS := fun ρ E => a ρ E.rt
theorem ds_ret (h : DE X e Ga) : DS X (.Return (some e) pos) (gRet Ga) := ⟨fun _ _ _ le q => h.mono _ _ _ le.rt q, psI (ps_ret h.pe) fun D σ H ⟨c, F, ρ, j, q⟩ => ⟨c, F, ρ, j, h.mono _ _ _ (fun r ρ' z F' H' v j' vr => z F' H' σ v j' vr) q⟩⟩
def gExp (a : GE) : GS := fun ρ E => a ρ fun _ ρ' => E.nx ρ'
theorem ds_expr (h : DE X e Ga) (hs : swapsWith e none pos.line X.env = pure false := by rfl) : DS X (.Expr e pos) (gExp Ga) := ⟨fun _ _ _ le q => h.mono _ _ _ (fun _ _ z => le.nx _ z) q, psI (ps_expr h.pe hs) fun D σ H ⟨c, F, ρ, j, q⟩ => ⟨c, F, ρ, j, h.mono _ _ _ (fun r ρ' z F' H' v j' vr => z F' H' σ j') q⟩⟩
def gIf (t : GT) (G G' : GS) : GS := fun ρ E => t ρ fun k ρ' => if k = true then G ρ' E else G' ρ' E
theorem ds_if {T : GT} {as bs : List Stmt} (ht : DT X a T) (h : DSs X as G) (k : DSs X bs G') : DS X (.If a as bs pos) (gIf T G G') := ⟨fun _ _ _ le q => ht.mono _ _ _ (fun b _ z => by
  cases b <;> simp only [if_true, if_false, Bool.false_eq_true] at z ⊢
  · exact k.mono _ _ _ le z
  · exact h.mono _ _ _ le z) q, psI (ps_if ht.pt h.ps k.ps) fun D σ H ⟨c, F, ρ, j, q⟩ => ⟨c, F, ρ, j, ht.mono _ _ _ (fun b ρ' z F' H' j' => by
  cases b
  · exact iteF ⟨c, F', ρ', j', z⟩
  · exact iteT ⟨c, F', ρ', j', z⟩) q⟩⟩
def OnlyAt (sl : List Nat) (σ σ' : St) : Prop := ∀ us : List Nat, (∀ v ∈ sl, v ∈ us) → wipe σ' us = wipe σ us
theorem wipe_set {σ : St} {i : Nat} {x : Option V} : ∀ {us : List Nat}, i ∈ us → wipe (σ.set i x) us = wipe σ us
  | [], h => by simp at h
  | u :: us, h => by
    unfold wipe
    by_cases e : i = u
    · subst e
      by_cases m : i ∈ us
      · rw [wipe_set m]
      · have : ∀ (vs : List Nat), i ∉ vs → wipe (σ.set i x) vs = (wipe σ vs).set i x := fun vs => by
          induction vs with
          | nil => intro _; rfl
          | cons v vs ih =>
            intro m
            unfold wipe
            rw [ih fun z => m (List.mem_cons_of_mem _ z), List.set_comm _ _ (fun e => m (by rw [e]; exact List.mem_cons_self))]
        rw [this us m, List.set_set]
    · rw [wipe_set ((List.mem_cons.mp h).resolve_left e)]
theorem onlyAt_set {σ : St} {i : Nat} {x : Option V} : OnlyAt [i] σ (σ.set i x) := fun us h => wipe_set (h i (by simp))
theorem OnlyAt.trans {sl sl' : List Nat} {σ σ' σ'' : St} (h : OnlyAt sl σ σ') (k : OnlyAt sl' σ' σ'') : OnlyAt (sl ++ sl') σ σ'' := fun us m => (k us fun v z => m v (List.mem_append.mpr (.inr z))).trans (h us fun v z => m v (List.mem_append.mpr (.inl z)))
abbrev GG := R → Rho → (Rho → Prop) → Prop
structure DG (X : Cx) (tg : Expr) (sl : List Nat) (G : GG) : Prop where
  mono : ∀ r ρ Q Q', (∀ ρ', Q ρ' → Q' ρ') → G r ρ Q → G r ρ Q'
  ex : ∃ g : TG, PG X tg g ∧ ∀ (c : En) (F H : Hp) (σ : St) (ρ : Rho) (v : V) (r : R) (Q : Rho → Prop) (Qv : St → Hp → Prop), J X.K c F H σ ρ → RelR X.K c F H σ ρ v r → G r ρ Q → (∀ F' σ' ρ', Q ρ' → J X.K c F' H σ' ρ' → OnlyAt sl σ σ' → Qv σ' H) → g v σ H Qv
def freeSlot (ρ : Rho) (i : Nat) : Prop := match ρ[i]? with
  | some (some (.io _)) => False
  | some _ => True
  | none => False
theorem freeSlot_use {ρ : Rho} {i : Nat} (h : freeSlot ρ i) : i < ρ.length ∧ ∀ o, ρ[i]? ≠ some (some (R.io o)) := by
  unfold freeSlot at h
  split at h
  · exact h.elim
  · next x ne e => exact ⟨(List.getElem?_eq_some_iff.mp e).1, fun o z => ne o (by rw [e] at z; exact Option.some.inj z)⟩
  · exact h.elim
def gN (i : Nat) : GG := fun r ρ Q => freeSlot ρ i ∧ Q (ρ.set i (some r))
theorem dg_name {i : Nat} {x : Str} (h : PG X (.Name x pos) (gName i)) : DG X (.Name x pos) [i] (gN i) := ⟨fun _ _ _ _ h q => ⟨q.1, h _ q.2⟩, gName i, h, fun c F H σ ρ v r Q Qv j vr q k => by
  obtain ⟨hl, hi⟩ := freeSlot_use q.1
  exact k F _ _ q.2 (j.assign hl hi vr) onlyAt_set⟩
abbrev GGs := List PyData → Rho → (Rho → Prop) → Prop
structure DGs (X : Cx) (tgs : List Expr) (sl : List Nat) (G : GGs) : Prop where
  mono : ∀ r ρ Q Q', (∀ ρ', Q ρ' → Q' ρ') → G r ρ Q → G r ρ Q'
  ex : ∃ g : TGs, PGs X tgs g ∧ ∀ (c : En) (F H : Hp) (σ : St) (ρ : Rho) (vs : List V) (ds : List PyData) (Q : Rho → Prop) (Qv : St → Hp → Prop), J X.K c F H σ ρ → DpAll X.K F vs ds → G ds ρ Q → (∀ F' σ' ρ', Q ρ' → J X.K c F' H σ' ρ' → OnlyAt sl σ σ' → Qv σ' H) → g vs σ H Qv
def gsNil : GGs := fun ds ρ Q => match ds with | [] => Q ρ | _ => False
def gsCons (g : GG) (t : GGs) : GGs := fun ds ρ Q => match ds with | d :: r => g (.sh d) ρ fun ρ' => t r ρ' Q | [] => False
theorem dgs_nil : DGs X [] [] gsNil := ⟨fun r _ _ _ h q => by unfold gsNil at *; split <;> simp_all, L2.gNil, pgs_nil, fun c F H σ ρ vs ds Q Qv j al q k => by
  unfold gsNil at q
  split at q
  · cases al
    exact ⟨rfl, k F σ ρ q j fun _ _ => rfl⟩
  · exact q.elim⟩
theorem dgs_cons {g : GG} {t : GGs} {sl sl' : List Nat} (h : DG X e sl g) (k : DGs X es sl' t) (hs : (assignEach (e :: es) X.env).map (·.2) = assign e X.env :: (assignEach es X.env).map (·.2) := by rfl) : DGs X (e :: es) (sl ++ sl') (gsCons g t) :=
  ⟨fun r _ _ _ hq q => by
    unfold gsCons at *
    split
    · exact h.mono _ _ _ _ (fun _ z => k.mono _ _ _ _ hq z) q
    · exact q, by
    obtain ⟨tg, p1, h1⟩ := h.ex
    obtain ⟨tt, p2, h2⟩ := k.ex
    refine ⟨L2.gCons tg tt, pgs_cons p1 p2 hs, fun c F H σ ρ vs ds Q Qv j al q kk => ?_⟩
    unfold gsCons at q
    split at q
    · cases al with | cons hv hr =>
      refine ⟨_, _, rfl, h1 ⟨F, c.Z, c.io⟩ F H σ ρ _ (.sh _) _ _ j.anew hv q fun F' σ' ρ' q' j' o' => ?_⟩
      exact h2 c F' H σ' ρ' _ _ _ _ (j.back j') (dpAllM j'.ff hr) q' fun F2 σ2 ρ2 q2 j2 o2 => kk F2 σ2 ρ2 q2 j2 (o'.trans o2)
    · exact q.elim⟩
def gAsg (a : GE) (g : GG) : GS := fun ρ E => a ρ fun r ρ' => g r ρ' E.nx
theorem ds_asg {tg : Expr} {g : GG} {sl : List Nat} (he : DE X e Ga) (hg : DG X tg sl g) (hs : swapsWithSole [tg] e pos.line X.env = pure false := by rfl) (hw : swappedStores [tg] e X.env = pure none := by rfl) (h1 : (assignEach [tg] X.env).map (·.2) = [assign tg X.env] := by rfl) : DS X (.Assign [tg] e pos) (gAsg Ga g) :=
  ⟨fun _ _ _ le q => he.mono _ _ _ (fun _ _ z => hg.mono _ _ _ _ le.nx z) q, by
    obtain ⟨tg, p, k⟩ := hg.ex
    exact psI (ps_asg he.pe p hs hw h1) fun D σ H ⟨c, F, ρ, j, q⟩ => ⟨c, F, ρ, j, he.mono _ _ _ (fun r ρ' z F' H' v j' vr => k c F' H' σ ρ' v r _ _ j' vr z fun F2 σ2 ρ2 q2 j2 _ => q2 F2 H' σ2 j2) q⟩⟩
theorem ds_set {i : Nat} {x : Str} {pos' : Pos} (hN : X.N.Nodup) (hi : X.N[i]? = some x) (hx : Loc X.env.scope x) (he : DE X e Ga) (hs : swapsWith e (some (.Name x pos')) pos.line X.env = pure false := by rfl) (hf : X.fn x = true ∨ X.env.scope.names.lookup x = some .local := by first | exact .inl rfl | exact .inr rfl | assumption) :
    DS X (.Assign [.Name x pos'] e pos) (gAsg Ga (gN i)) := ⟨fun _ _ _ le q => he.mono _ _ _ (fun _ _ z => ⟨z.1, le.nx _ z.2⟩) q, psI (ps_set hN hi hx he.pe hs hf) fun D σ H ⟨c, F, ρ, j, q⟩ =>
  ⟨c, F, ρ, j, he.mono _ _ _ (fun r ρ' z F' H' v j' vr => by
    obtain ⟨hl, hi⟩ := freeSlot_use z.1
    exact z.2 F' H' _ (j'.assign hl hi vr)) q⟩⟩
end
end DL
set_option Elab.async false
set_option linter.all false
set_option maxRecDepth 100000
namespace DL
open PySem L2
theorem MonoS.use {G : GS} {ρ : Rho} {E E' : Ek} (h : MonoS G) (q : G ρ E) (le : E.Le E') : G ρ E' := h ρ E E' le q
abbrev GI := Rho → (List PyData → Rho → Prop) → Prop
structure ItOk (K : PySem.W.Frag) (F Z : Hp) (I : It) (ds : List PyData) : Prop where
  go : ∀ i H, Same F H → Same Z H → i < ds.length → I.go i H
  yld : ∀ (i : Nat) (c : En) (F1 H1 : Hp) (σ : St) (ρ : Rho) (x : V) (H2 : Hp), J K c F1 H1 σ ρ → Same F F1 → Same Z H1 → I.yld i H1 x H2 → ∀ d, ds[i]? = some d → ∃ F2, J K c F2 H2 σ ρ ∧ Same F1 F2 ∧ Dp K F2 x d ∧ Same H1 H2
  stop : ∀ i H, Same F H → Same Z H → ds.length ≤ i → I.stop i H
structure DI (X : Cx) (tg iter : Expr) (G : GI) : Prop where
  mono : ∀ ρ Q Q', (∀ ds ρ', Q ds ρ' → Q' ds ρ') → G ρ Q → G ρ Q'
  ex : ∃ wi : TI, PI X tg iter wi ∧ ∀ (c : En) (F H : Hp) (σ : St) (ρ : Rho) (Q : List PyData → Rho → Prop) (R : It → Hp → Prop), J X.K c F H σ ρ → G ρ Q →
    (∀ ds ρ' F' H' I, Q ds ρ' → J X.K c F' H' σ ρ' → ItOk X.K F' c.Z I ds → R I H') → wi σ H R
section
variable {X : Cx} {tg a b e : Expr} {es : List Expr} {Ga Gb : GE} {pos : Pos}
theorem pi_seq {l : Expr} {tl : TE} (hl : PE X l tl) : PI X tg l (fun σ H R => tl σ H fun x H1 => ∃ a, x = .ref a ∧ (((∃ xs, SqL X.K H1 a xs) ∧ R (Itl X.K a) H1) ∨ ((∃ xs, SqT X.K H1 a xs) ∧ R (Itt X.K a) H1))) := by
  intro pins s σ H R I h
  refine thn (hl pins s σ H _ I h) fun v s1 ⟨x, H1, I1, r1, q1⟩ => ?_
  obtain ⟨a, e, q⟩ := q1
  subst e
  cases r1
  rcases q with ⟨⟨xs, hq⟩, q⟩ | ⟨⟨xs, hq⟩, q⟩
  · obtain ⟨its, rv, p, hz⟩ := I1.list hq
    refine wpAny_pyIter_list p.isList ?_
    refine ⟨s1.heap.objs.size, [s1.heap.objs.size], _, _, H1, rfl, I1.kept (t' := s1.toks) fun b o e => Heap.get?_push_of_some _ e, turn_list a _, ⟨_, Heap.get?_push_size _ rfl, rfl, rfl⟩, fun b hb => ?_, q⟩
    have e : b = s1.heap.objs.size := by simpa using hb
    subst e
    exact I1.fpOk (Nat.le_refl _) (I1.hok.fresh (Nat.le_refl _))
  · obtain ⟨its, rv, p, hz⟩ := I1.tuple hq
    refine wpAny_pyIter_tuple (show s1.heap.IsTuple a its.toArray from p) ?_
    refine ⟨s1.heap.objs.size, [s1.heap.objs.size], _, _, H1, rfl, I1.kept (t' := s1.toks) fun b o e => Heap.get?_push_of_some _ e, turn_tuple a _, ⟨_, Heap.get?_push_size _ rfl, rfl, rfl⟩, fun b hb => ?_, q⟩
    have e : b = s1.heap.objs.size := by simpa using hb
    subst e
    exact I1.fpOk (Nat.le_refl _) (I1.hok.fresh (Nat.le_refl _))
theorem it_lst {K : PySem.W.Frag} {F Z : Hp} {a : Addr} {xs : List V} {ds : List PyData} (h : SqL K F a xs) (al : DpAll K F xs ds) : ItOk K F Z (Itl K a) ds where
  go := fun i H s _ l => by
    have hl := DpAll.length al
    exact ⟨xs, xs[i], s.seq h, by simp [hl, l]⟩
  yld := fun i c F1 H1 σ ρ x H2 j s _ y d hd => by
    obtain ⟨rfl, y⟩ := y
    obtain ⟨v, hv, dv⟩ := DpAll.get al hd
    rw [y xs (j.fh.seq (s.seq h))] at hv
    cases hv
    exact ⟨F1, j, Same.refl _, dpM s dv, Same.refl _⟩
  stop := fun i H s _ l => ⟨xs, s.seq h, by rw [DpAll.length al]; exact l⟩
theorem it_tup {K : PySem.W.Frag} {F Z : Hp} {a : Addr} {xs : List V} {ds : List PyData} (h : SqT K F a xs) (al : DpAll K F xs ds) : ItOk K F Z (Itt K a) ds where
  go := fun i H s _ l => by
    have hl := DpAll.length al
    exact ⟨xs, xs[i], sqT_same s h, by simp [hl, l]⟩
  yld := fun i c F1 H1 σ ρ x H2 j s _ y d hd => by
    obtain ⟨rfl, y⟩ := y
    obtain ⟨v, hv, dv⟩ := DpAll.get al hd
    rw [y xs (sqT_same j.fh (sqT_same s h))] at hv
    cases hv
    exact ⟨F1, j, Same.refl _, dpM s dv, Same.refl _⟩
  stop := fun i H s _ l => ⟨xs, sqT_same s h, by rw [DpAll.length al]; exact l⟩
def giSeq (a : GE) : GI := fun ρ Q => a ρ fun r ρ' => withD r fun d => match d with
  | .list ds => Q ds ρ'
  | .tuple ds => Q ds ρ'
  | _ => False
theorem di_seq (h : DE X a Ga) : DI X tg a (giSeq Ga) := ⟨fun _ _ _ hq q => h.mono _ _ _ (fun _ _ z => withD_mono (fun d z => by cases d <;> first | exact hq _ _ z | exact z) z) q, _, pi_seq h.pe, fun c F H σ ρ Q R j q k => by
  refine ⟨c, F, ρ, j, h.mono _ _ _ (fun r ρ' z F' H' v j' vr => ?_) q⟩
  obtain ⟨d, hd, z⟩ := withD_use z
  obtain ⟨F2, j2, s2, dp⟩ := vr.frz j' hd
  split at z
  · obtain ⟨p, xs, rfl, h1, a1⟩ := dp_lst dp
    exact ⟨p, rfl, .inl ⟨⟨xs, j2.fh.seq h1⟩, k _ _ F2 H' _ z j2 (it_lst h1 a1)⟩⟩
  · obtain ⟨p, xs, rfl, h1, a1⟩ := dp_tup dp
    exact ⟨p, rfl, .inr ⟨⟨xs, sqT_same j2.fh h1⟩, k _ _ F2 H' _ z j2 (it_tup h1 a1)⟩⟩
  · exact z.elim⟩
def rangeD (lo : Int) (n : Nat) : List PyData := (List.range n).map fun (i : Nat) => .int (lo + i)
theorem rangeD_len (lo : Int) (n : Nat) : (rangeD lo n).length = n := by unfold rangeD; rw [List.length_map, List.length_range]
theorem it_rng {K : PySem.W.Frag} {F Z : Hp} {lo : Int} {n : Nat} : ItOk K F Z (Itr lo n) (rangeD lo n) where
  go := fun i H s _ l => by
    rw [rangeD_len] at l
    exact l
  yld := fun i c F1 H1 σ ρ x H2 j s _ y d hd => by
    obtain ⟨rfl, rfl⟩ := y
    unfold rangeD at hd
    rw [List.getElem?_map] at hd
    cases e : (List.range n)[i]? with
    | none => rw [e] at hd; cases hd
    | some k =>
      rw [e] at hd
      have : k = i := by
        have := List.getElem?_eq_some_iff.mp e
        obtain ⟨h1, h2⟩ := this
        simpa using h2.symm
      subst this
      obtain rfl := Option.some.inj hd
      exact ⟨F1, j, Same.refl _, .int _, Same.refl _⟩
  stop := fun i H s _ l => by
    rw [rangeD_len] at l
    exact l
def giRng1 (t : GA) : GI := fun ρ Q => t ρ fun ds ρ' => match ds with
  | [.int j] => j < 4611686018427387904 ∧ -4611686018427387904 ≤ j ∧ Q (rangeD 0 j.toNat) ρ'
  | _ => False
theorem di_rng1 {t : GA} {p : Pos} (hg : Gl X "range") (hm : X.mg "range" = none) (h : DA X [a] t) (hs : starEach [a] X.env = [(false, eval a X.env)] := by rfl) : DI X tg (.Call (.Name "range" p) [a] [] pos) (giRng1 t) :=
  ⟨fun _ _ _ hq q => h.mono _ _ _ (fun ds _ z => by split at z <;> first | exact ⟨z.1, z.2.1, hq _ _ z.2.2⟩ | exact z) q, _, pi_range1 hg hm h.pa hs, fun c F H σ ρ Q R j q k => by
    refine ⟨c, F, ρ, j, h.mono _ _ _ (fun ds ρ' z F' H' vs j' al => ?_) q⟩
    split at z
    · cases al with | cons h t => cases t with | nil =>
      cases h
      exact ⟨_, rfl, z.2.1, z.1, k _ _ F' H' _ z.2.2 j' it_rng⟩
    · exact z.elim⟩
def forW (g : GG) (G : GS) : List PyData → Rho → Ek → Prop
  | [], ρ, E => E.nx ρ
  | d :: ds, ρ, E => g (.sh d) ρ fun ρ' => G ρ' { nx := fun ρ2 => forW g G ds ρ2 E, ct := fun ρ2 => forW g G ds ρ2 E, bk := E.nx, rt := E.rt }
def gFor (i : GI) (g : GG) (G : GS) : GS := fun ρ E => i ρ fun ds ρ' => forW g G ds ρ' E
theorem forW_mono {g : GG} {G : GS} (hg : ∀ r ρ Q Q', (∀ ρ', Q ρ' → Q' ρ') → g r ρ Q → g r ρ Q') (hG : MonoS G) {E E' : Ek} (le : E.Le E') : ∀ ds ρ, forW g G ds ρ E → forW g G ds ρ E'
  | [], ρ, q => le.nx _ q
  | d :: ds, ρ, q => by
    refine hg _ _ _ _ ?_ q
    exact fun ρ' z => hG.use z ⟨fun ρ2 z => forW_mono hg hG le ds ρ2 z, le.rt, le.nx, fun ρ2 z => forW_mono hg hG le ds ρ2 z⟩
theorem ds_for {iter : Expr} {body : List Stmt} {i : GI} {g : GG} {sl : List Nat} {G : GS} (hc : X.calm = true) (hi : DI X tg iter i) (hg : DG X tg sl g) (hb : DSs X body G) (hp : PassesOwn (model X.prog X.w) X.A X.env X.xe) (hs : ∀ x, foldedSetIterable iter X.env x = pure x := by intro _; rfl) :
    DS X (.For tg iter body [] pos) (gFor i g G) := ⟨fun _ _ _ le q => hi.mono _ _ _ (fun ds ρ' z => forW_mono hg.mono hb.mono le ds ρ' z) q, by
  obtain ⟨wi, pi, hwi⟩ := hi.ex
  obtain ⟨tg', pg, hpg⟩ := hg.ex
  refine psI (ps_for hp hc pi pg hb.ps hs) fun D σ H ⟨c, F, ρ, j, q⟩ => ?_
  refine hwi c F H σ ρ _ _ j q fun ds ρ1 F1 H1 I q1 j1 ok => ?_
  refine ⟨fun n m σ' H' => m = ds.length - n ∧ n ≤ ds.length ∧ ∃ F' ρ', J X.K ⟨F1, c.Z, c.io⟩ F' H' σ' ρ' ∧ forW g G (ds.drop n) ρ' (Ek.of X.K c D), ⟨ds.length, rfl, Nat.zero_le _, F1, ρ1, j1.anew, q1⟩, ?_⟩
  rintro n m σ' H' ⟨rfl, hn, F', ρ', j', q'⟩
  have sF : Same F1 H' := j'.ff.trans j'.fh
  by_cases hlt : n < ds.length
  · rw [List.drop_eq_getElem_cons hlt] at q'
    refine .inr ⟨ok.go n H' sF j'.zh hlt, fun σ2 H2 => ∃ F' ρ', J X.K ⟨F1, c.Z, c.io⟩ F' H2 σ2 ρ' ∧ forW g G (ds.drop (n + 1)) ρ' (Ek.of X.K c D), fun σ2 H2 z => ⟨ds.length - (n + 1), by omega, rfl, hlt, z⟩, fun x H2 y => ?_⟩
    obtain ⟨F2, j2, s2, dp, _⟩ := ok.yld n _ F' H' σ' ρ' x H2 j' j'.ff j'.zh y _ (List.getElem?_eq_getElem hlt)
    refine hpg _ F2 H2 σ' ρ' x (.sh _) _ _ j2 dp q' fun F3 σ3 ρ3 q3 j3 _ => ?_
    refine ⟨⟨F1, c.Z, c.io⟩, F3, ρ3, j3, hb.mono.use q3 ⟨fun ρ4 z F4 H4 σ4 j4 => ⟨F4, ρ4, j4, z⟩, fun r ρ4 z F4 H4 σ4 v j4 vr => ?_, fun ρ4 z F4 H4 σ4 j4 => ?_, fun ρ4 z F4 H4 σ4 j4 => ⟨F4, ρ4, j4, z⟩⟩⟩
    · refine z F4 H4 σ4 v (j1.back j4) ?_
      cases r <;> exact vr
    · exact z F4 H4 σ4 (j1.back j4)
  · have e : n = ds.length := by omega
    subst e
    rw [List.drop_length] at q'
    exact .inl ⟨ok.stop _ H' sF j'.zh (Nat.le_refl _), q' F' H' σ' (j1.back j')⟩⟩
def whileW (t : GT) (G : GS) : Nat → Rho → Ek → Prop
  | 0, _, _ => False
  | n + 1, ρ, E => t ρ fun k ρ' => if k = true then G ρ' { nx := fun ρ2 => whileW t G n ρ2 E, ct := fun ρ2 => whileW t G n ρ2 E, bk := E.nx, rt := E.rt } else E.nx ρ'
def gWhile (t : GT) (G : GS) : GS := fun ρ E => ∃ n, whileW t G n ρ E
theorem whileW_mono {t : GT} {G : GS} (ht : MonoT t) (hG : MonoS G) {E E' : Ek} (le : E.Le E') : ∀ n ρ, whileW t G n ρ E → whileW t G n ρ E'
  | 0, _, q => q
  | n + 1, ρ, q => ht _ _ _ (fun b ρ' z => by
    cases b <;> simp only [if_true, if_false, Bool.false_eq_true] at z ⊢
    · exact le.nx _ z
    · exact hG.use z ⟨fun ρ2 z => whileW_mono ht hG le n ρ2 z, le.rt, le.nx, fun ρ2 z => whileW_mono ht hG le n ρ2 z⟩) q
theorem ds_while {t : Expr} {T : GT} {body : List Stmt} {G : GS} (hp : PassesOwn (model X.prog X.w) X.A X.env X.xe) (ht : DT X t T) (hb : DSs X body G) : DS X (.While t body [] pos) (gWhile T G) :=
  ⟨fun _ _ _ le ⟨n, q⟩ => ⟨n, whileW_mono ht.mono hb.mono le n _ q⟩, psI (ps_while hp ht.pt hb.ps) fun D σ H ⟨c, F, ρ, j, n, q⟩ => by
    refine ⟨fun m σ' H' => ∃ F' ρ', J X.K c F' H' σ' ρ' ∧ whileW T G m ρ' (Ek.of X.K c D), ⟨n, F, ρ, j, q⟩, ?_⟩
    rintro m σ' H' ⟨F', ρ', j', q'⟩
    cases m with
    | zero => exact q'.elim
    | succ m =>
      refine ⟨c, F', ρ', j', ht.mono _ _ _ (fun b ρ2 z F2 H2 j2 => ?_) q'⟩
      cases b
      · exact iteF (z F2 H2 σ' j2)
      · refine iteT ⟨fun σ2 H2 => ∃ F' ρ', J X.K c F' H2 σ2 ρ' ∧ whileW T G m ρ' (Ek.of X.K c D), fun σ2 H2 z => ⟨m, Nat.lt_succ_self _, z⟩, c, F2, ρ2, j2, ?_⟩
        exact hb.mono.use z ⟨fun ρ4 z F4 H4 σ4 j4 => ⟨F4, ρ4, j4, z⟩, fun r ρ4 z => z, fun ρ4 z => z, fun ρ4 z F4 H4 σ4 j4 => ⟨F4, ρ4, j4, z⟩⟩⟩
end
end DL
set_option Elab.async false
set_option linter.all false
set_option maxRecDepth 100000
namespace DL
open PySem L2
def wipeR (ρ : Rho) : List Nat → Rho
  | [] => ρ
  | v :: vs => (wipeR ρ vs).set v none
def restR (ρ' ρ : Rho) : List Nat → Rho
  | [] => ρ'
  | v :: vs => (restR ρ' ρ vs).set v (ρ[v]?.join)
def calmR (ρ : Rho) (vs : List Nat) : Prop := ∀ v ∈ vs, match ρ[v]? with
  | some (some (.own _)) => False
  | some (some (.io _)) => False
  | _ => True
theorem calmR_no {ρ : Rho} {vs : List Nat} (h : calmR ρ vs) {v : Nat} (m : v ∈ vs) : ∀ o, ¬ Ow ρ v o := fun o z => by
  have q := h v m
  rcases z with z | z <;> (rw [z] at q; exact q)
section
variable {K : PySem.W.Frag} {c : En} {F H : Hp} {σ : St} {ρ : Rho}
theorem wipe_get (σ : St) (vs : List Nat) (i : Nat) : (wipe σ vs)[i]? = if i ∈ vs ∧ i < σ.length then some none else σ[i]? := by
  induction vs with
  | nil => simp [wipe]
  | cons v vs ih =>
    unfold wipe
    rw [get_set, wipe_length, ih]
    by_cases e : v = i
    · subst e
      by_cases l : v < σ.length
      · simp [l]
      · simp [l, List.getElem?_eq_none (Nat.le_of_not_lt l)]
    · have e' : ¬ i = v := fun z => e z.symm
      simp [e, e']
theorem wipe_wipe (σ : St) (vs : List Nat) : L2.wipe (L2.wipe σ vs) vs = L2.wipe σ vs := by
  apply List.ext_getElem?
  intro i
  rw [wipe_get, wipe_length, wipe_get]
  split <;> rfl
theorem wipeR_get (ρ : Rho) (vs : List Nat) (i : Nat) : (wipeR ρ vs)[i]? = if i ∈ vs ∧ i < ρ.length then some none else ρ[i]? := by
  have len : ∀ us, (wipeR ρ us).length = ρ.length := fun us => by induction us with | nil => rfl | cons u us ih => unfold wipeR; rw [List.length_set, ih]
  induction vs with
  | nil => simp [wipeR]
  | cons v vs ih =>
    unfold wipeR
    rw [get_set, len, ih]
    by_cases e : v = i
    · subst e
      by_cases l : v < ρ.length
      · simp [l]
      · simp [l, List.getElem?_eq_none (Nat.le_of_not_lt l)]
    · have e' : ¬ i = v := fun z => e z.symm
      simp [e, e']
theorem wipeR_len (ρ : Rho) : ∀ us, (wipeR ρ us).length = ρ.length
  | [] => rfl
  | u :: us => by unfold wipeR; rw [List.length_set, wipeR_len ρ us]
theorem restR_len (ρ' ρ : Rho) : ∀ us, (restR ρ' ρ us).length = ρ'.length
  | [] => rfl
  | u :: us => by unfold restR; rw [List.length_set, restR_len ρ' ρ us]
theorem restR_get (ρ' ρ : Rho) (vs : List Nat) (i : Nat) : (restR ρ' ρ vs)[i]? = if i ∈ vs ∧ i < ρ'.length then some (ρ[i]?.join) else ρ'[i]? := by
  induction vs with
  | nil => simp [restR]
  | cons v vs ih =>
    unfold restR
    rw [get_set, restR_len, ih]
    by_cases e : v = i
    · subst e
      by_cases l : v < ρ'.length
      · simp [l]
      · simp [l, List.getElem?_eq_none (Nat.le_of_not_lt l)]
    · have e' : ¬ i = v := fun z => e z.symm
      simp [e, e']
theorem wipeR_some {vs : List Nat} {i : Nat} {r : R} (h : (wipeR ρ vs)[i]? = some (some r)) : i ∉ vs ∧ ρ[i]? = some (some r) := by
  rw [wipeR_get] at h
  by_cases z : i ∈ vs ∧ i < ρ.length
  · rw [if_pos z] at h; cases h
  · rw [if_neg z] at h
    exact ⟨fun m => z ⟨m, (List.getElem?_eq_some_iff.mp h).1⟩, h⟩
theorem J.wipe (j : J K c F H σ ρ) {vs : List Nat} (cm : calmR ρ vs) : J K c F H (L2.wipe σ vs) (wipeR ρ vs) := by
  have go : ∀ {i : Nat} {v : V}, i ∉ vs → σ[i]? = some (some v) → (L2.wipe σ vs)[i]? = some (some v) := fun {i v} m e => by rw [wipe_get, if_neg (fun z => m z.1)]; exact e
  have back : ∀ {i : Nat} {v : V}, (L2.wipe σ vs)[i]? = some (some v) → σ[i]? = some (some v) := fun {i v} e => (wipe_some e).1
  have ow : ∀ {i o}, Ow (wipeR ρ vs) i o → i ∉ vs ∧ Ow ρ i o := fun {i o} h => by
    rcases h with h | h
    · exact ⟨(wipeR_some h).1, .inl (wipeR_some h).2⟩
    · exact ⟨(wipeR_some h).1, .inr (wipeR_some h).2⟩
  refine ⟨by rw [wipe_length, wipeR_len]; exact j.len, j.ff, j.fh, j.zh, j.fz, fun i d h => ?_, fun i o h => ?_, fun i k o o' a h h' e e' => ?_, fun p hp => ?_⟩
  · obtain ⟨m, h⟩ := wipeR_some h
    obtain ⟨v, h1, h2⟩ := j.sh i d h
    exact ⟨v, go m h1, h2⟩
  · obtain ⟨m, h⟩ := ow h
    obtain ⟨a, ho, h1, h2⟩ := j.ow i o h
    exact ⟨a, ho, go m h1, h2⟩
  · exact j.nd i k o o' a (ow h).2 (ow h').2 (back e) (back e')
  · obtain ⟨o, h1, h2⟩ := j.ios p hp
    have m : p.1 ∉ vs := fun m => calmR_no cm m o (.inr h1)
    exact ⟨o, by rw [wipeR_get, if_neg (fun z => m z.1)]; exact h1, go m h2⟩
theorem J.unwipe {F' H' : Hp} {ρ' : Rho} (j : J K c F H σ ρ) {vs : List Nat} (cm : calmR ρ vs) (j' : J K ⟨F, c.Z, c.io⟩ F' H' (L2.wipe σ vs) ρ') : J K c F' H' σ (restR ρ' ρ vs) := by
  have j2 := j.back j'
  have hlen : ρ'.length = ρ.length := by rw [← j'.len, wipe_length, j.len]
  have back : ∀ {i : Nat} {v : V}, (L2.wipe σ vs)[i]? = some (some v) → σ[i]? = some (some v) ∧ i ∉ vs := fun {i v} e => wipe_some e
  have cs : ∀ {i r}, (restR ρ' ρ vs)[i]? = some (some r) → (i ∈ vs ∧ ρ[i]? = some (some r)) ∨ (i ∉ vs ∧ ρ'[i]? = some (some r)) := fun {i r} h => by
    rw [restR_get] at h
    by_cases m : i ∈ vs
    · by_cases l : i < ρ'.length
      · rw [if_pos ⟨m, l⟩] at h
        refine .inl ⟨m, ?_⟩
        have h := Option.some.inj h
        rw [Option.join_eq_some_iff] at h
        exact h
      · rw [if_neg (fun z => l z.2)] at h
        exact absurd (List.getElem?_eq_some_iff.mp h).1 l
    · rw [if_neg (fun z => m z.1)] at h
      exact .inr ⟨m, h⟩
  have ow : ∀ {i o}, Ow (restR ρ' ρ vs) i o → i ∉ vs ∧ Ow ρ' i o := fun {i o} h => by
    rcases h with h | h <;> rcases cs h with ⟨m, e⟩ | ⟨m, e⟩
    · exact (calmR_no cm m o (.inl e)).elim
    · exact ⟨m, .inl e⟩
    · exact (calmR_no cm m o (.inr e)).elim
    · exact ⟨m, .inr e⟩
  have up : ∀ {i : Nat} {v : V}, i ∉ vs → σ[i]? = some (some v) → (L2.wipe σ vs)[i]? = some (some v) := fun {i v} m e => by rw [wipe_get, if_neg (fun z => m z.1)]; exact e
  refine ⟨by rw [restR_len, hlen]; exact j.len, j2.ff, j2.fh, j2.zh, j2.fz, fun i d h => ?_, fun i o h => ?_, fun i k o o' a h h' e e' => ?_, fun p hp => ?_⟩
  · rcases cs h with ⟨m, e⟩ | ⟨m, e⟩
    · obtain ⟨v, h1, h2⟩ := j.sh i d e
      exact ⟨v, h1, dpM j'.ff h2⟩
    · obtain ⟨v, h1, h2⟩ := j'.sh i d e
      exact ⟨v, (back h1).1, h2⟩
  · obtain ⟨m, h⟩ := ow h
    obtain ⟨a, ho, h1, h2⟩ := j2.ow i o h
    exact ⟨a, ho, (back h1).1, h2⟩
  · exact j2.nd i k o o' a (ow h).2 (ow h').2 (up (ow h).1 e) (up (ow h').1 e')
  · obtain ⟨o, h1, h2⟩ := j2.ios p hp
    obtain ⟨h3, m⟩ := back h2
    exact ⟨o, by rw [restR_get, if_neg (fun z => m z.1)]; exact h1, h3⟩
end
section
variable {K : PySem.W.Frag} {c : En} {F H : Hp} {σ : St} {ρ : Rho}
theorem J.guard (j : J K c F H σ ρ) {D : Addr} {o : HO} (h : H D = some o) (f : F D = none) (ap : Apart σ ρ D) : J K ⟨c.F0, upd c.Z D o, c.io⟩ F H σ ρ where
  len := j.len
  ff := j.ff
  fh := j.fh
  zh := fun b u z => by
    by_cases e : b = D
    · have z : upd c.Z D o b = some u := z
      rw [e, upd_same] at z
      rw [e, h]
      exact z
    · have z : upd c.Z D o b = some u := z
      rw [upd_ne e] at z
      exact j.zh b u z
  fz := fun b u z => by
    have e : b ≠ D := fun e => by rw [e, f] at z; cases z
    rcases j.fz b u z with q | q
    · exact .inl q
    · exact .inr (by show upd c.Z D o b = none; rw [upd_ne e]; exact q)
  sh := j.sh
  ow := fun i q h' => by
    obtain ⟨a, ho, h1, h2, h3, h4, h5⟩ := j.ow i q h'
    exact ⟨a, ho, h1, h2, h3, h4, by show upd c.Z D o a = none; rw [upd_ne (fun e => ap i q h' (by rw [h1, e]))]; exact h5⟩
  nd := j.nd
  ios := j.ios
theorem J.unguard {F0 Z : Hp} {io : List (Nat × Addr)} {D : Addr} {o : HO} (j : J K ⟨F0, upd Z D o, io⟩ F H σ ρ) (zD : Z D = none) (fD : F0 D = none) : J K ⟨F0, Z, io⟩ F H σ ρ ∧ H D = some o ∧ F D = none ∧ Apart σ ρ D := by
  have hF : F D = none := by
    cases e : F D with
    | none => rfl
    | some u =>
      rcases j.fz D u e with q | q
      · have q : F0 D = some u := q
        rw [fD] at q; cases q
      · have q : upd Z D o D = none := q
        rw [upd_same] at q; cases q
  have zz : ∀ {a}, upd Z D o a = none → Z a = none ∧ a ≠ D := fun {a} q => by
    have e : a ≠ D := fun e => by rw [e, upd_same] at q; cases q
    rw [upd_ne e] at q
    exact ⟨q, e⟩
  refine ⟨⟨j.len, j.ff, j.fh, fun b u z => j.zh b u ?_, fun b u z => ?_, j.sh, fun i q h => ?_, j.nd, j.ios⟩, j.zh D o upd_same, hF, fun i q h e => ?_⟩
  · have e : b ≠ D := fun e => by
      have z : Z b = some u := z
      rw [e, zD] at z; cases z
    show upd Z D o b = some u
    rw [upd_ne e]
    exact z
  · rcases j.fz b u z with q | q
    · exact .inl q
    · exact .inr (zz q).1
  · obtain ⟨a, ho, h1, h2, h3, h4, h5⟩ := j.ow i q h
    exact ⟨a, ho, h1, h2, h3, h4, (zz h5).1⟩
  · obtain ⟨a, ho, h1, h2, h3, h4, h5⟩ := j.ow i q h
    rw [h1] at e
    cases e
    exact (zz h5).2 rfl
theorem J.reguard {F0 Z : Hp} {io : List (Nat × Addr)} {D : Addr} {o o' : HO} (j : J K ⟨F0, upd Z D o, io⟩ F H σ ρ) (zD : Z D = none) (fD : F0 D = none) : J K ⟨F0, upd Z D o', io⟩ F (upd H D o') σ ρ := by
  obtain ⟨j1, h1, h2, h3⟩ := j.unguard zD fD
  exact (j1.chg h2 zD h3 o').guard upd_same h2 h3
end
def lcW (vs : List Nat) (g : GG) (T : GT) (Ge : GE) : List PyData → List PyData → Rho → (List PyData → Rho → Prop) → Prop
  | [], acc, ρ, Q => Q acc ρ
  | d :: ds, acc, ρ, Q => g (.sh d) ρ fun ρ1 => T ρ1 fun k ρ2 => if k = true then Ge ρ2 fun r ρ3 => withD r fun y => acc.length < 1000000 ∧ calmR ρ3 vs ∧ lcW vs g T Ge ds (acc ++ [y]) (wipeR ρ3 vs) Q else calmR ρ2 vs ∧ lcW vs g T Ge ds acc (wipeR ρ2 vs) Q
def gLc (i : GI) (vs : List Nat) (g : GG) (T : GT) (Ge : GE) : GE := fun ρ Q => i ρ fun ds ρ1 => calmR ρ1 vs ∧ lcW vs g T Ge ds [] (wipeR ρ1 vs) fun acc ρ2 => Q (.own (.lst acc)) (restR ρ2 ρ1 vs)
theorem lcW_mono {vs : List Nat} {g : GG} {T : GT} {Ge : GE} (hg : ∀ r ρ Q Q', (∀ ρ', Q ρ' → Q' ρ') → g r ρ Q → g r ρ Q') (hT : MonoT T) (he : MonoE Ge) {Q Q' : List PyData → Rho → Prop} (h : ∀ a ρ, Q a ρ → Q' a ρ) : ∀ ds acc ρ, lcW vs g T Ge ds acc ρ Q → lcW vs g T Ge ds acc ρ Q'
  | [], acc, ρ, q => h _ _ q
  | d :: ds, acc, ρ, q => by
    refine hg _ _ _ _ ?_ q
    intro ρ1 q
    refine hT _ _ _ ?_ q
    intro k ρ2 q
    cases k <;> simp only [if_true, if_false, Bool.false_eq_true] at q ⊢
    · exact ⟨q.1, lcW_mono hg hT he h ds acc _ q.2⟩
    · refine he _ _ _ ?_ q
      intro r ρ3 q
      exact withD_mono (fun y z => ⟨z.1, z.2.1, lcW_mono hg hT he h ds _ _ z.2.2⟩) q
structure DTs (X : Cx) (es : List Expr) (T : GT) : Prop where
  mono : MonoT T
  pt : PTs X es (tDT X.K T)
section
variable {X : Cx} {tg a b e : Expr} {es : List Expr} {Ga Gb : GE} {pos : Pos}
theorem dts_one {T : GT} (h : DT X a T) : DTs X [a] T := ⟨h.mono, pts_one h.pt⟩
theorem tLc_core {vs : List Nat} {g : GG} {T : GT} {Ge : GE} {tg' : TG} (hK : MonoT T) (hE : MonoE Ge) {sl : List Nat} (hsl : ∀ v ∈ sl, v ∈ vs)
    (hpg : ∀ (c : En) (F H : Hp) (σ : St) (ρ : Rho) (v : V) (r : R) (Q : Rho → Prop) (Qv : St → Hp → Prop), J X.K c F H σ ρ → RelR X.K c F H σ ρ v r → g r ρ Q → (∀ F' σ' ρ', Q ρ' → J X.K c F' H σ' ρ' → OnlyAt sl σ σ' → Qv σ' H) → tg' v σ H Qv)
    {c : En} {F1 H1 : Hp} {σ : St} {ρ1 : Rho} {ds : List PyData} {I : It} {Q : VK} (j1 : J X.K c F1 H1 σ ρ1) (ok : ItOk X.K F1 c.Z I ds) (cm : calmR ρ1 vs)
    (q1 : lcW vs g T Ge ds [] (wipeR ρ1 vs) fun acc ρ2 => ∀ F' H' v, J X.K c F' H' σ (restR ρ2 ρ1 vs) → RelR X.K c F' H' σ (restR ρ2 ρ1 vs) v (.own (.lst acc)) → Q v H') (D : Addr) (hD : H1 D = none) :
    ∃ W : Nat → Nat → Hp → Prop, (∃ m, W 0 m (upd H1 D (.lst []))) ∧ ∀ i m H, W i m H →
      (I.stop i H ∧ Q (.ref D) H) ∨ (I.go i H ∧ ∃ Nx : Hp → Prop, (∀ H', Nx H' → ∃ m', m' < m ∧ W (i + 1) m' H') ∧ ∀ x H', I.yld i H x H' → tg' x (L2.wipe σ vs) H' fun σ2 H2 => L2.wipe σ2 vs = L2.wipe σ vs ∧ tDT X.K T σ2 H2 fun b H3 =>
        if b = true then tDE X.K Ge σ2 H3 fun y H4 => ∃ acc, H4 D = some (.lst acc) ∧ acc.length < sizeLine ∧ Nx (upd H4 D (.lst (acc ++ [y]))) else Nx H3) := by
  have zD : c.Z D = none := j1.zfree hD
  have f1D : F1 D = none := j1.ffree hD
  let P : Nat → Hp → Prop := fun n H' => n ≤ ds.length ∧ ∃ F' ρ' acc ys, J X.K ⟨F1, upd c.Z D (.lst ys), c.io⟩ F' H' (L2.wipe σ vs) ρ' ∧ DpAll X.K F' ys acc ∧ lcW vs g T Ge (ds.drop n) acc ρ' fun acc ρ2 => ∀ F' H' v, J X.K c F' H' σ (restR ρ2 ρ1 vs) → RelR X.K c F' H' σ (restR ρ2 ρ1 vs) v (.own (.lst acc)) → Q v H'
  have jw := (j1.wipe cm).anew
  refine ⟨fun n m H' => m = ds.length - n ∧ P n H', ⟨ds.length, rfl, Nat.zero_le _, F1, wipeR ρ1 vs, [], [], (jw.alloc hD _).guard upd_same f1D (jw.apart hD), .nil, q1⟩, ?_⟩
  rintro n m H' ⟨rfl, hn, F', ρ', acc, ys, j', ay, q'⟩
  have sF : Same F1 H' := j'.ff.trans j'.fh
  have zF : Same c.Z H' := (j'.unguard zD f1D).1.zh
  have f'D : F' D = none := (j'.unguard zD f1D).2.2.1
  by_cases hlt : n < ds.length
  · rw [List.drop_eq_getElem_cons hlt] at q'
    refine .inr ⟨ok.go n H' sF zF hlt, P (n + 1), fun H2 z => ⟨ds.length - (n + 1), by omega, rfl, z⟩, fun x H2 y => ?_⟩
    obtain ⟨F2, j2, s2, dp, _⟩ := ok.yld n ⟨F', upd c.Z D (.lst ys), c.io⟩ F' H' _ ρ' x H2 j'.anew j'.ff zF y _ (List.getElem?_eq_getElem hlt)
    refine hpg _ F2 H2 _ ρ' x (.sh _) _ _ j2 dp q' fun F3 σ3 ρ3 q3 j3 o3 => ?_
    have ew : L2.wipe σ3 vs = L2.wipe σ vs := by
      rw [o3 vs hsl]
      exact wipe_wipe σ vs
    refine ⟨ew, _, F3, ρ3, j3, hK _ _ _ (fun k ρ4 z F4 H4 j4 => ?_) q3⟩
    cases k <;> simp only [if_true, if_false, Bool.false_eq_true] at z ⊢
    · refine ⟨hlt, F4, wipeR ρ4 vs, acc, ys, ?_, dpAllM j4.ff ay, z.2⟩
      have j5 := (j'.back j4).wipe z.1
      rw [ew] at j5
      exact j5
    · refine ⟨_, F4, ρ4, j4, hE _ _ _ (fun r ρ5 z F5 H5 v j5 vr => ?_) z⟩
      obtain ⟨d, hd, hl, cm5, z⟩ := withD_use z
      obtain ⟨F6, j6, s6, dp6⟩ := vr.frz j5 hd
      have hm := million
      have hy := DpAll.length ay
      refine ⟨ys, (j6.unguard zD f'D).2.1, by omega, hlt, F6, wipeR ρ5 vs, acc ++ [d], ys ++ [v], ?_, DpAll.app (dpAllM j6.ff ay) (.cons dp6 .nil), z⟩
      have j7 := j6.reguard (o' := .lst (ys ++ [v])) zD f'D
      obtain ⟨ja, _, _, _⟩ := j'.unguard zD f1D
      have j8 : J X.K ⟨F1, upd c.Z D (.lst (ys ++ [v])), c.io⟩ F6 (upd H5 D (.lst (ys ++ [v]))) σ3 ρ5 :=
        ⟨j7.len, j'.ff.trans j7.ff, j7.fh, j7.zh, fun b o h => (j7.fz b o h).elim (fun w => (ja.fz b o w).elim .inl fun u => .inr (by
          show upd c.Z D _ b = none
          rw [upd_ne (fun e => by
            have w : F' b = some o := w
            rw [e, f'D] at w; cases w)]
          exact u)) .inr, j7.sh, j7.ow, j7.nd, j7.ios⟩
      have j9 := j8.wipe cm5
      rw [ew] at j9
      exact j9
  · have e : n = ds.length := by omega
    subst e
    rw [List.drop_length] at q'
    refine .inl ⟨ok.stop _ H' sF zF (Nat.le_refl _), ?_⟩
    obtain ⟨ja, hD', fD', ap⟩ := j'.unguard zD f1D
    have jb := j1.unwipe cm ja
    refine q' F' H' (.ref D) jb ⟨D, _, rfl, hD', ⟨ys, rfl, ay⟩, fD', zD, fun i o h e => ?_⟩
    obtain ⟨a, ho, h1, h2, h3, h4, h5⟩ := jb.ow i o h
    rw [h1] at e
    cases e
    have m : i ∉ vs ∧ Ow ρ' i o := by
      rcases h with h | h
      · rw [restR_get] at h
        by_cases m : i ∈ vs ∧ i < ρ'.length
        · rw [if_pos m] at h
          have h := Option.some.inj h
          rw [Option.join_eq_some_iff] at h
          exact (calmR_no cm m.1 o (.inl h)).elim
        · rw [if_neg m] at h
          exact ⟨fun z => m ⟨z, (List.getElem?_eq_some_iff.mp h).1⟩, .inl h⟩
      · rw [restR_get] at h
        by_cases m : i ∈ vs ∧ i < ρ'.length
        · rw [if_pos m] at h
          have h := Option.some.inj h
          rw [Option.join_eq_some_iff] at h
          exact (calmR_no cm m.1 o (.inr h)).elim
        · rw [if_neg m] at h
          exact ⟨fun z => m ⟨z, (List.getElem?_eq_some_iff.mp h).1⟩, .inr h⟩
    exact ap i o m.2 (by rw [wipe_get, if_neg (fun z => m.1 z.1)]; exact h1)
theorem tLc_of {i : GI} {vs : List Nat} {g : GG} {T : GT} {Ge : GE} {tg' : TG} {wi : TI} (hK : MonoT T) (hE : MonoE Ge)
    (hgm : ∀ r ρ Q Q', (∀ ρ', Q ρ' → Q' ρ') → g r ρ Q → g r ρ Q') {sl : List Nat} (hsl : ∀ v ∈ sl, v ∈ vs)
    (hwi : ∀ (c : En) (F H : Hp) (σ : St) (ρ : Rho) (Q : List PyData → Rho → Prop) (R : It → Hp → Prop), J X.K c F H σ ρ → i ρ Q → (∀ ds ρ' F' H' I, Q ds ρ' → J X.K c F' H' σ ρ' → ItOk X.K F' c.Z I ds → R I H') → wi σ H R)
    (hpg : ∀ (c : En) (F H : Hp) (σ : St) (ρ : Rho) (v : V) (r : R) (Q : Rho → Prop) (Qv : St → Hp → Prop), J X.K c F H σ ρ → RelR X.K c F H σ ρ v r → g r ρ Q → (∀ F' σ' ρ', Q ρ' → J X.K c F' H σ' ρ' → OnlyAt sl σ σ' → Qv σ' H) → tg' v σ H Qv)
    (σ : St) (H : Hp) (Q : VK) (h : tDE X.K (gLc i vs g T Ge) σ H Q) : tLc wi tg' (tDT X.K T) (tDE X.K Ge) vs σ H Q := by
  obtain ⟨c, F, ρ, j, q⟩ := h
  refine hwi c F H σ ρ _ _ j q fun ds ρ1 F1 H1 I q1 j1 ok => tLc_core hK hE hsl hpg j1 ok q1.1 q1.2
variable {elt iter : Expr} {ifs : List Expr} {scope : Scope} {own : List (Str × Nat)} {i : GI} {g : GG} {T : GT} {Ge : GE} {sl : List Nat} {tg' : TG}
structure DGB (X : Cx) (scope : Scope) (tg : Expr) (sl : List Nat) (G : GG) : Prop where
  mono : ∀ r ρ Q Q', (∀ ρ', Q ρ' → Q' ρ') → G r ρ Q → G r ρ Q'
  ex : ∃ g : TG, (∀ (s : Shared) (H : Hp) (C : Addr) (cl : List (Str × Addr)) (fp : List Addr), PG (X.blk s H scope (compEnvC scope cl C X.env) fp) tg g) ∧ ∀ (c : En) (F H : Hp) (σ : St) (ρ : Rho) (v : V) (r : R) (Q : Rho → Prop) (Qv : St → Hp → Prop), J X.K c F H σ ρ → RelR X.K c F H σ ρ v r → G r ρ Q → (∀ F' σ' ρ', Q ρ' → J X.K c F' H σ' ρ' → OnlyAt sl σ σ' → Qv σ' H) → g v σ H Qv
theorem dgb_name {k : Nat} {x : Str} (h : ∀ (s : Shared) (H : Hp) (C : Addr) (cl : List (Str × Addr)) (fp : List Addr), PG (X.blk s H scope (compEnvC scope cl C X.env) fp) (.Name x pos) (gName k)) : DGB X scope (.Name x pos) [k] (gN k) := ⟨fun _ _ _ _ h q => ⟨q.1, h _ q.2⟩, gName k, h, fun c F H σ ρ v r Q Qv j vr q k => by
  obtain ⟨hl, hi⟩ := freeSlot_use q.1
  exact k F _ _ q.2 (j.assign hl hi vr) onlyAt_set⟩
theorem de_lc (hc : X.calm = true) (hN : X.N.Nodup) (hi : DI X tg iter i) (ok : BlkOk X.N X.env.scope scope own) (hg : DGB X scope tg sl g) (hsl : ∀ v ∈ sl, v ∈ own.map (·.2))
    (ht : ∀ (s : Shared) (H : Hp) (C : Addr) (cl : List (Str × Addr)) (fp : List Addr), DTs (X.blk s H scope (compEnvC scope cl C X.env) fp) ifs T)
    (he : ∀ (s : Shared) (H : Hp) (C : Addr) (cl : List (Str × Addr)) (fp : List Addr), DE (X.blk s H scope (compEnvC scope cl C X.env) fp) elt Ge) (hs : ∀ x, foldedSetIterable iter X.env x = pure x := by intro _; rfl) :
    DE X (.ListComp elt [⟨tg, iter, ifs, 0⟩] scope pos) (gLc i (own.map (·.2)) g T Ge) := by
  obtain ⟨wi, pi, hwi⟩ := hi.ex
  obtain ⟨tg', pg, hpg⟩ := hg.ex
  have mT : MonoT T := (ht {} (fun _ => none) 0 [] []).mono
  have mE : MonoE Ge := (he {} (fun _ => none) 0 [] []).mono
  refine ⟨fun _ _ _ hq q => hi.mono _ _ _ (fun ds ρ z => ⟨z.1, lcW_mono hg.mono mT mE (fun a ρ2 z => hq _ _ z) ds [] _ z.2⟩) q, ?_⟩
  exact peI (pe_lc (tt := tDT X.K T) (te := tDE X.K Ge) hc hN pi ok pg (fun s H C cl fp => (ht s H C cl fp).pt) (fun s H C cl fp => (he s H C cl fp).pe) hs) (tLc_of mT mE hg.mono hsl hwi hpg)
theorem ds_setLc {k : Nat} {y : Str} {py spos : Pos} (hc : X.calm = true) (hN : X.N.Nodup) (hy : X.N[k]? = some y) (hyl : X.env.scope.names.lookup y = some .local)
    (hsw : swapsWith (.ListComp elt [⟨tg, iter, ifs, 0⟩] scope pos) (some (.Name y py)) spos.line X.env = pure true) (hi : DI X tg iter i) (ok : BlkOk X.N X.env.scope scope own) (hg : DGB X scope tg sl g) (hsl : ∀ v ∈ sl, v ∈ own.map (·.2))
    (ht : ∀ (s : Shared) (H : Hp) (C : Addr) (cl : List (Str × Addr)) (fp : List Addr), DTs (X.blk s H scope (compEnvC scope cl C X.env) fp) ifs T)
    (he : ∀ (s : Shared) (H : Hp) (C : Addr) (cl : List (Str × Addr)) (fp : List Addr), DE (X.blk s H scope (compEnvC scope cl C X.env) fp) elt Ge) (hs : ∀ x, foldedSetIterable iter X.env x = pure x := by intro _; rfl) :
    DS X (.Assign [.Name y py] (.ListComp elt [⟨tg, iter, ifs, 0⟩] scope pos) spos) (gAsg (gLc i (own.map (·.2)) g T Ge) (gN k)) := by
  obtain ⟨wi, pi, hwi⟩ := hi.ex
  obtain ⟨tg', pg, hpg⟩ := hg.ex
  have mT : MonoT T := (ht {} (fun _ => none) 0 [] []).mono
  have mE : MonoE Ge := (he {} (fun _ => none) 0 [] []).mono
  have mL : MonoE (gLc i (own.map (·.2)) g T Ge) := fun _ _ _ hq q => hi.mono _ _ _ (fun ds ρ z => ⟨z.1, lcW_mono hg.mono mT mE (fun a ρ2 z => hq _ _ z) ds [] _ z.2⟩) q
  refine ⟨fun _ _ _ le q => mL _ _ _ (fun _ _ z => ⟨z.1, le.nx _ z.2⟩) q, ?_⟩
  refine psI (ps_setLc (tt := tDT X.K T) (te := tDE X.K Ge) hc hN hy hyl hsw pi ok pg (fun s H C cl fp => (ht s H C cl fp).pt) (fun s H C cl fp => (he s H C cl fp).pe) hs) fun D σ H ⟨c, F, ρ, j, q⟩ => ?_
  refine tLc_of mT mE hg.mono hsl hwi hpg σ H _ ⟨c, F, ρ, j, mL _ _ _ (fun r ρ' z F' H' v j' vr => ?_) q⟩
  obtain ⟨hl, hi⟩ := freeSlot_use z.1
  exact z.2 F' H' _ (j'.assign hl hi vr)
end
end DL
set_option Elab.async false
set_option linter.all false
set_option maxRecDepth 100000
namespace DL
open PySem PyProof.Rows L2
def rho0 (n : Nat) (rs : List R) : Rho := rs.map some ++ List.replicate (n - rs.length) none
section
variable {P : Program} {w : World} {K : PySem.W.Frag} {mg : Str → Option Value} {base : Heap}
theorem start_get {N : List Str} {vs : List V} {i : Nat} {v : V} (h : vs[i]? = some v) : (L2.start N vs)[i]? = some (some v) := by
  unfold L2.start
  have hl : i < vs.length := (List.getElem?_eq_some_iff.mp h).1
  rw [List.getElem?_append_left (by rw [List.length_map]; exact hl), List.getElem?_map, h]
  rfl
theorem rho0_get {n : Nat} {rs : List R} {i : Nat} {r : R} (h : (rho0 n rs)[i]? = some (some r)) : rs[i]? = some r := by
  unfold rho0 at h
  by_cases hl : i < rs.length
  · rw [List.getElem?_append_left (by rw [List.length_map]; exact hl), List.getElem?_map] at h
    cases e : rs[i]? with
    | none => rw [e] at h; cases h
    | some r' => rw [e] at h; exact Option.some.inj h
  · rw [List.getElem?_append_right (by rw [List.length_map]; omega)] at h
    rw [List.getElem?_replicate] at h
    split at h <;> cases h
theorem start_len {N : List Str} {vs : List V} (h : vs.length ≤ N.length) : (L2.start N vs).length = N.length := by
  unfold L2.start
  rw [List.length_append, List.length_map, List.length_replicate]
  omega
theorem rho0_len {n : Nat} {rs : List R} (h : rs.length ≤ n) : (rho0 n rs).length = n := by
  unfold rho0
  rw [List.length_append, List.length_map, List.length_replicate]
  omega
theorem okD {cb : Bool} {x qual : Str} {st : Stmt} {f : Addr} {fd : FuncData} {N ps : List Str} {k : Nat} {C : Ct} (Fn : Fun K x qual st f fd) (S : FnScope N ps (defScope st)) (hN : ps.length ≤ N.length) (len : ∀ ds Q, C ds Q → ds.length = ps.length)
    (hb : ∀ (cdv : Value) (A : Around) (outer : List Env) (s : Shared) (H : Hp) (E : XK), Room k (A.deeper (envOfC qual (defScope st) s.heap.objs.size f cdv)) →
      ∃ G, DSs (cxOfB cb CX0 P w K mg base N qual (defScope st) f cdv A outer s H E).nox (defBody st) G ∧ ∀ ds Q, C ds Q → G (rho0 N.length (ds.map R.sh)) { nx := fun _ => Q (.sh .none), rt := fun r _ => Q r }) : FnOkC cb P w K mg base CX0 (k + 1) f fd ps (spD K C) := by
  refine Fn.ok S (fun vs H Q E h => ?_) (fun cdv A outer s H vs Q E hr h => ?_)
  · obtain ⟨F, ds, _, al, c⟩ := h
    rw [DpAll.length al]
    exact len _ _ c
  · obtain ⟨F, ds, fh, al, c⟩ := h
    obtain ⟨G, hG, q⟩ := hb cdv A outer s H E hr
    have hl := len _ _ c
    have hv := DpAll.length al
    have j : J K ⟨F, H, []⟩ F H (L2.start N vs) (rho0 N.length (ds.map R.sh)) := by
      refine ⟨?_, Same.refl _, fh, Same.refl _, fun _ _ z => .inl z, fun i d z => ?_, fun i o z => ?_, fun i j o o' a z => ?_, fun p hp => ?_⟩
      · rw [start_len (by omega), rho0_len (by rw [List.length_map]; omega)]
      · have z := rho0_get z
        rw [List.getElem?_map] at z
        cases e : ds[i]? with
        | none => rw [e] at z; cases z
        | some d' =>
          rw [e] at z
          cases z
          obtain ⟨v, h1, h2⟩ := DpAll.get al e
          exact ⟨v, start_get h1, h2⟩
      · rcases z with z | z
        all_goals
          have z := rho0_get z
          rw [List.getElem?_map] at z
          cases e : ds[i]? with
          | none => rw [e] at z; cases z
          | some d' => rw [e] at z; cases z
      · rcases z with z | z
        all_goals
          have z := rho0_get z
          rw [List.getElem?_map] at z
          cases e : ds[i]? with
          | none => rw [e] at z; cases z
          | some d' => rw [e] at z; cases z
      · cases hp
    refine ⟨_, hG.ps, ⟨F, H, []⟩, F, _, j, hG.mono.use (q ds _ c) ⟨fun ρ' z F' H' σ' j' => ?_, fun r ρ' z F' H' σ' v j' vr => ?_, fun _ z => z.elim, fun _ z => z.elim⟩⟩
    · exact z F' H' .non j'.ff j'.fh j'.fz j'.zh .non
    · refine z F' H' v j'.ff j'.fh j'.fz j'.zh ?_
      match r, vr with
      | .sh d, vr => exact vr
      | .own o, ⟨a, ho, h1, h2, h3, h4, h5, _⟩ => exact ⟨a, ho, h1, h5, h2, h3, h4⟩
      | .io _, vr => exact vr.elim
      | .new _, ⟨t, vs, h1, h2, h3⟩ => exact ⟨t, vs, h1, h2, h3⟩
def endP (Q : R → OO → Prop) (r : R) (ρ : Rho) : Prop := match (ρ[0]? : Option (Option R)) with
  | some (some (R.io o)) => Q r o
  | _ => False
theorem endP_use {Q : R → OO → Prop} {r : R} {ρ : Rho} (h : endP Q r ρ) : ∃ o, ρ[0]? = some (some (R.io o)) ∧ Q r o := by
  unfold endP at h
  split at h
  · exact ⟨_, by assumption, h⟩
  · exact h.elim
theorem okP {cb : Bool} {x qual : Str} {st : Stmt} {f : Addr} {fd : FuncData} {N ps : List Str} {k : Nat} {C : Cp} (Fn : Fun K x qual st f fd) (S : FnScope N ps (defScope st)) (hN : ps.length ≤ N.length) (len : ∀ o ds Q, C o ds Q → ds.length + 1 = ps.length)
    (hb : ∀ (cdv : Value) (A : Around) (outer : List Env) (s : Shared) (H : Hp) (E : XK), Room k (A.deeper (envOfC qual (defScope st) s.heap.objs.size f cdv)) →
      ∃ G, DSs (cxOfB cb CX0 P w K mg base N qual (defScope st) f cdv A outer s H E).nox (defBody st) G ∧ ∀ o ds Q, C o ds Q → G (rho0 N.length (.io o :: ds.map R.sh)) { nx := endP Q (.sh .none), rt := endP Q }) : FnOkC cb P w K mg base CX0 (k + 1) f fd ps (spP K C) := by
  refine Fn.ok S (fun vs H Q E h => ?_) (fun cdv A outer s H vs Q E hr h => ?_)
  · obtain ⟨F, a, ho, o, us, ds, rfl, _, _, _, _, al, c⟩ := h
    rw [List.length_cons, DpAll.length al]
    exact len _ _ _ c
  · obtain ⟨F, a, ho, o, us, ds, rfl, fh, fa, ha, hok, al, c⟩ := h
    obtain ⟨G, hG, q⟩ := hb cdv A outer s H E hr
    have hl := len _ _ _ c
    have hv := DpAll.length al
    let Z : Hp := fun b => if b = a then none else H b
    have Za : Z a = none := if_pos rfl
    have Zn : ∀ {b}, b ≠ a → Z b = H b := fun {b} e => if_neg e
    have g0 : ∀ {i r}, (rho0 N.length (R.io o :: ds.map R.sh))[i]? = some (some r) → (i = 0 ∧ r = .io o) ∨ ∃ m d, i = m + 1 ∧ ds[m]? = some d ∧ r = .sh d := fun {i r} z => by
      have z := rho0_get z
      cases i with
      | zero => exact .inl ⟨rfl, (Option.some.inj z).symm⟩
      | succ m =>
        rw [List.getElem?_cons_succ, List.getElem?_map] at z
        cases e : ds[m]? with
        | none => rw [e] at z; cases z
        | some d => rw [e] at z; exact .inr ⟨m, d, rfl, e, (Option.some.inj z).symm⟩
    have r0 : (rho0 N.length (R.io o :: ds.map R.sh))[0]? = some (some (.io o)) := rfl
    have own0 : ∀ {i q}, Ow (rho0 N.length (R.io o :: ds.map R.sh)) i q → i = 0 ∧ q = o := fun {i q} z => by
      rcases z with z | z <;> rcases g0 z with ⟨e, z⟩ | ⟨m, d, _, _, z⟩ <;> cases z
      exact ⟨e, rfl⟩
    have j : J K ⟨F, Z, [(0, a)]⟩ F H (L2.start N (.ref a :: us)) (rho0 N.length (R.io o :: ds.map R.sh)) := by
      refine ⟨?_, Same.refl _, fh, fun b u z => ?_, fun _ _ z => .inl z, fun i d z => ?_, fun i q z => ?_, fun i j q q' b z z' _ _ => ?_, fun p hp => ?_⟩
      · rw [start_len (by rw [List.length_cons]; omega), rho0_len (by rw [List.length_cons, List.length_map]; omega)]
      · by_cases e : b = a
        · have z : Z b = some u := z
          rw [e, Za] at z; cases z
        · have z : Z b = some u := z
          rw [Zn e] at z; exact z
      · rcases g0 z with ⟨_, z⟩ | ⟨m, d', rfl, e, z⟩
        · cases z
        · cases z
          obtain ⟨v, h1, h2⟩ := DpAll.get al e
          exact ⟨v, start_get (by rw [List.getElem?_cons_succ]; exact h1), h2⟩
      · obtain ⟨rfl, rfl⟩ := own0 z
        exact ⟨a, ho, rfl, ha, hok, fa, Za⟩
      · rw [(own0 z).1, (own0 z').1]
      · cases List.mem_singleton.mp hp
        exact ⟨o, r0, rfl⟩
    have fin : ∀ (ρ' : Rho) (F' H' : Hp) (σ' : L2.St) (o' : OO), J K ⟨F, Z, [(0, a)]⟩ F' H' σ' ρ' → ρ'[0]? = some (some (R.io o')) → ∃ ho', H' a = some ho' ∧ OOk K F' o' ho' ∧ (∀ b u, F' b = some u → F b = some u ∨ H b = none) ∧ (∀ b u, b ≠ a → H b = some u → H' b = some u) ∧ σ'[0]? = some (some (V.ref a)) ∧ F' a = none := fun ρ' F' H' σ' o' j' e => by
      obtain ⟨o2, e2, s2⟩ := j'.ios (0, a) (by simp)
      have s2 : σ'[0]? = some (some (V.ref a)) := s2
      obtain ⟨b, ho', h1, h2, h3, h4, h5⟩ := j'.ow 0 o' (.inr e)
      rw [s2] at h1
      cases h1
      refine ⟨ho', h2, h3, fun b u q => (j'.fz b u q).imp id fun w => ?_, fun b u ne q => j'.zh b u (by show Z b = some u; rw [Zn ne]; exact q), s2, h4⟩
      have w : Z b = none := w
      by_cases ne : b = a
      · rw [ne, h4] at q; cases q
      · rw [Zn ne] at w; exact w
    refine ⟨_, hG.ps, ⟨F, Z, [(0, a)]⟩, F, _, j, hG.mono.use (q o ds _ c) ⟨fun ρ' z F' H' σ' j' => ?_, fun r ρ' z F' H' σ' v j' vr => ?_, fun _ z => z.elim, fun _ z => z.elim⟩⟩
    · obtain ⟨o', e, z⟩ := endP_use (Q := fun r o' => ∀ (F' H' : Hp) (v : V) (ho' : HO), Same F F' → Same F' H' → (∀ b u, F' b = some u → F b = some u ∨ H b = none) → (∀ b u, b ≠ a → H b = some u → H' b = some u) → H' a = some ho' → OOk K F' o' ho' → RelF K H F' H' v r → Q v H') z
      obtain ⟨ho', h2, h3, gr, s3, _, _⟩ := fin ρ' F' H' σ' o' j' e
      exact z F' H' _ ho' j'.ff j'.fh gr s3 h2 h3 .non
    · obtain ⟨o', e, z⟩ := endP_use (Q := fun r o' => ∀ (F' H' : Hp) (v : V) (ho' : HO), Same F F' → Same F' H' → (∀ b u, F' b = some u → F b = some u ∨ H b = none) → (∀ b u, b ≠ a → H b = some u → H' b = some u) → H' a = some ho' → OOk K F' o' ho' → RelF K H F' H' v r → Q v H') z
      obtain ⟨ho', h2, h3, gr, s3, s2, h4⟩ := fin ρ' F' H' σ' o' j' e
      refine z F' H' _ ho' j'.ff j'.fh gr s3 h2 h3 ?_
      match r, vr with
      | .sh d, vr => exact vr
      | .own q, ⟨b, hb, g1, g2, g3, g4, g5, ap⟩ =>
        refine ⟨b, hb, g1, ?_, g2, g3, g4⟩
        have w : Z b = none := g5
        have ne : b ≠ a := fun e' => ap 0 o' (.inr e) (by rw [s2, e'])
        rw [Zn ne] at w; exact w
      | .io _, vr => exact vr.elim
      | .new _, ⟨t, vs, g1, g2, g3⟩ =>
        refine ⟨t, vs, g1, g2, g3.zed fun b o fb w => ?_⟩
        have w : Z b = none := w
        have ne : b ≠ a := fun e' => by
          obtain ⟨a1, _, w1, _, _, w4, _⟩ := j'.ow 0 o' (.inr e)
          rw [s2] at w1
          cases w1
          rw [e', w4] at fb
          cases fb
        rw [Zn ne] at w; exact w
end
end DL
set_option Elab.async false
set_option linter.all false
set_option maxRecDepth 100000
namespace DL
open PySem L2
section
variable {X : Cx} {tg a b e : Expr} {es : List Expr} {Ga Gb : GE} {pos : Pos}
def gLstT (K : PySem.W.Frag) (n : Nat) (t : TGs) : TG := fun v σ H Q => ∃ a xs, v = .ref a ∧ (SqL K H a xs ∨ SqT K H a xs) ∧ xs.length = n ∧ t xs σ H Q
theorem pg_seq {k : Nat} {t : TGs} {n : Nat} (hc : X.calm = true) (h : PGs X es t)
    (hn : (assignEach es X.env).length = n := by rfl) (hst : (assignEach es X.env).findIdx? (·.1) = none := by rfl) : PG X (.Tuple es k pos) (gLstT X.K n t) := by
  intro pins s σ H v u Q I r hw
  obtain ⟨a, xs, e1, hq, hl, hw⟩ := hw
  rcases hq with hq | hq
  · subst e1
    cases r
    obtain ⟨its, rv, p, hz⟩ := I.list hq
    rw [PyProof.Rows.assign_Tuple]
    refine wpAny_bind (wpAny_standAt ?_)
    unfold unpack
    have e2 : (assignEach es X.env).length = its.toArray.size := by simp [hn, ← hl, rv.length]
    rw [e2, hst]
    refine wpAny_bind (wpAny_holding (PySem.W.kun_itemsOf (I.ok.hd hc) p.isList fun h' hx => ?_))
    have I1 : Inv X pins σ H { s with heap := h' } := I.kept (t' := s.toks) fun b o e => hx b o (Nat.ne_of_lt (Heap.lt_size e)) e
    exact h pins _ σ H xs _ Q I1 (by simpa using rv) hw
  · exact pg_tup hc h hn hst pins s σ H v u Q I r ⟨a, xs, e1, hq, hl, hw⟩
def gT2 (n : Nat) (t : GGs) : GG := fun r ρ Q => withD r fun d => match d with
  | .tuple ds => ds.length = n ∧ t ds ρ Q
  | .list ds => ds.length = n ∧ t ds ρ Q
  | _ => False
theorem dg_seq {t : GGs} {k n : Nat} {sl : List Nat} (hc : X.calm = true) (h : DGs X es sl t) (hn : (assignEach es X.env).length = n := by rfl) (hst : (assignEach es X.env).findIdx? (·.1) = none := by rfl) : DG X (.Tuple es k pos) sl (gT2 n t) :=
  ⟨fun r _ _ _ hq q => withD_mono (fun d z => by
    split at z
    · exact ⟨z.1, h.mono _ _ _ _ hq z.2⟩
    · exact ⟨z.1, h.mono _ _ _ _ hq z.2⟩
    · exact z) q, by
    obtain ⟨tt, p2, h2⟩ := h.ex
    refine ⟨gLstT X.K n tt, pg_seq hc p2 hn hst, fun c F H σ ρ v r Q Qv j vr q kk => ?_⟩
    obtain ⟨d, hd, q⟩ := withD_use q
    obtain ⟨F2, j2, s2, dp⟩ := vr.frz j hd
    split at q
    · obtain ⟨p, xs, rfl, h1, a1⟩ := dp_tup dp
      exact ⟨p, xs, rfl, .inr (sqT_same j2.fh h1), by rw [DpAll.length a1]; exact q.1, h2 c F2 H σ ρ _ _ _ _ j2 a1 q.2 kk⟩
    · obtain ⟨p, xs, rfl, h1, a1⟩ := dp_lst dp
      exact ⟨p, xs, rfl, .inl (j2.fh.seq h1), by rw [DpAll.length a1]; exact q.1, h2 c F2 H σ ρ _ _ _ _ j2 a1 q.2 kk⟩
    · exact q.elim⟩
def gSetIx (i : Nat) (a b : GE) : GS := fun ρ E => a ρ fun r ρ1 => withD r fun d => ownAt ρ1 i fun _ _ => b ρ1 fun r2 ρ2 => withD r2 fun k => ownAt ρ2 i fun o w => match o, k with
  | .lst ds, .int n => (match ixN ds.length n with | some m => E.nx (ρ2.set i (some (w (.lst (ds.set m d))))) | none => False)
  | _, _ => False
theorem ds_setIx {y : Str} {i : Nat} {py tpos : Pos} (ha : DE X a Ga) (hy : PE X (.Name y py) (tVar i)) (hb : DE X b Gb)
    (hs : swapsWithSole [.Subscript (.Name y py) b tpos] a pos.line X.env = pure false := by rfl) (hw : swappedStores [.Subscript (.Name y py) b tpos] a X.env = pure none := by rfl) (h1 : (assignEach [.Subscript (.Name y py) b tpos] X.env).map (·.2) = [assign (.Subscript (.Name y py) b tpos) X.env] := by rfl)
    (h2 : ∀ v, assign (.Subscript (.Name y py) b tpos) X.env v = (do
      let ov ← holding [v] (eval (.Name y py) X.env)
      let iv ← holding [v, ov] (eval b X.env)
      standAt tpos
      holding [v, ov, iv] (setItem ov iv v)
      release [v, ov, iv] []) := by intro _; rfl) : DS X (.Assign [.Subscript (.Name y py) b tpos] a pos) (gSetIx i Ga Gb) :=
  ⟨fun _ _ _ le q => ha.mono _ _ _ (fun _ _ z => withD_mono (fun _ z => ownAt_mono (fun _ _ z => hb.mono _ _ _ (fun _ _ z => withD_mono (fun _ z => ownAt_mono (fun _ _ z => by
    split at z
    · split at z
      · exact le.nx _ z
      · exact z
    · exact z) z) z) z) z) z) q, psI (ps_asg ha.pe (pg_sub hy hb.pe set_list h2) hs hw h1) fun D σ H ⟨c, F, ρ, j, q⟩ => by
    refine ⟨c, F, ρ, j, ha.mono _ _ _ (fun r1 ρ1 q1 F1 H1 v1 j1 v1r => ?_) q⟩
    obtain ⟨d, hd, q1⟩ := withD_use q1
    obtain ⟨F2, j2, s2, dp⟩ := v1r.frz j1 hd
    obtain ⟨o0, w0, _, _, ow0, q1⟩ := ownAt_use q1
    obtain ⟨a0, ho0, hσ, _⟩ := j2.ow i o0 ow0
    refine ⟨.ref a0, hσ, ⟨F2, c.Z, c.io⟩, F2, ρ1, j2.anew, hb.mono _ _ _ (fun r3 ρ3 q3 F3 H3 v3 j3 v3r => ?_) q1⟩
    obtain ⟨k, hk, q3⟩ := withD_use q3
    obtain ⟨F4, j4, s4, dp4⟩ := v3r.frz j3 hk
    obtain ⟨o, w, hw, hρ, ow, q3⟩ := ownAt_use q3
    obtain ⟨a4, ho, hσ4, g2, g3, _⟩ := j4.ow i o ow
    rw [hσ] at hσ4
    cases hσ4
    split at q3
    · obtain ⟨vs, rfl, al⟩ := g3
      cases dp4
      split at q3
      · next m em =>
        have j5 := (j2.back j4).putW hw hρ hσ (o' := .lst (List.set _ m d)) ⟨_, rfl, DpAll.set (dpM j4.ff dp) m al⟩
        exact ⟨a0, vs, _, m, rfl, rfl, g2, by rw [DpAll.length al]; exact em, q3 F4 _ σ j5⟩
      · exact q3.elim
    · exact q3.elim⟩
end
end DL
set_option Elab.async false
set_option linter.all false
set_option maxRecDepth 100000
namespace DL
open PySem L2
section
variable {X : Cx} {tg a b e : Expr} {es : List Expr} {Ga Gb : GE} {pos : Pos}
section
variable {elt : Expr} {ifs : List Expr} {scope : Scope} {own : List (Str × Nat)} {i : Nat} {g : GG} {T : GT} {Ge : GE} {sl : List Nat} {y : Str} {py : Pos}
end
abbrev GO := Rho → (Option Int → Rho → Prop) → Prop
structure DO (X : Cx) (e : Option Expr) (G : GO) : Prop where
  mono : ∀ ρ Q Q', (∀ r ρ', Q r ρ' → Q' r ρ') → G ρ Q → G ρ Q'
  po : PO X e (fun σ H Q => ∃ c F ρ, J X.K c F H σ ρ ∧ G ρ fun r ρ' => ∀ F' H', J X.K c F' H' σ ρ' → Q r H')
def goN : GO := fun ρ Q => Q none ρ
def goS (a : GE) : GO := fun ρ Q => a ρ fun r ρ' => match r with | .sh (.int i) => Q (some i) ρ' | _ => False
theorem poI {e : Option Expr} {t t' : TO} (h : PO X e t) (i : ∀ σ H Q, t' σ H Q → t σ H Q) : PO X e t' := fun pins s σ H Q I q => h pins s σ H Q I (i σ H Q q)
theorem do_none : DO X none goN := ⟨fun _ _ _ h q => h _ _ q, poI po_none fun σ H Q ⟨c, F, ρ, j, q⟩ => q F H j⟩
theorem do_some (h : DE X a Ga) : DO X (some a) (goS Ga) := ⟨fun _ _ _ hq q => h.mono _ _ _ (fun _ _ z => by split at z <;> first | exact hq _ _ z | exact z) q, poI (po_some h.pe) fun σ H Q ⟨c, F, ρ, j, q⟩ => ⟨c, F, ρ, j, h.mono _ _ _ (fun r ρ1 z F1 H1 v j1 vr => by
  split at z
  · cases vr
    exact ⟨_, rfl, z F1 H1 j1⟩
  · exact z.elim) q⟩⟩
def cutD (ds : List PyData) (lo hi : Option Int) : List PyData := (ds.drop (HT.sIx ds.length 0 lo)).take (HT.sIx ds.length ds.length hi - HT.sIx ds.length 0 lo)
end
end DL
set_option Elab.async false
set_option linter.all false
set_option maxRecDepth 100000
namespace DL
open PySem PyProof.Rows L2
abbrev wLt : W2 := wI (fun _ _ => True) fun i j => .bool (decide (i < j))
abbrev wGt : W2 := wI (fun _ _ => True) fun i j => .bool (decide (j < i))
section
variable {X : Cx} {tg a b c e : Expr} {es : List Expr} {Ga Gb Gc : GE} {pos : Pos}
variable {p : Pos} {t : GA}
abbrev wMin2 : WC := wI2 fun i j => if j < i then j else i
abbrev wMax2 : WC := wI2 fun i j => if j > i then j else i
theorem de_min2 (hcm : X.calm = true) (hg : Gl X "min") (hm : X.mg "min" = none) (h : DA X [a, b] t) (he : starEach [a, b] X.env = (false, eval a X.env) :: starEach [b] X.env := by rfl) (hpl : (backTo pos (starEach [b] X.env)).any (·.1) = false := by rfl) : DE X (.Call (.Name "min" p) [a, b] [] pos) (gBlt wMin2 t) := de_blt cd_I2 (call_min2 hcm) hg hm (by decide +kernel) h (by decide) (by decide) he hpl
theorem de_max2 (hcm : X.calm = true) (hg : Gl X "max") (hm : X.mg "max" = none) (h : DA X [a, b] t) (he : starEach [a, b] X.env = (false, eval a X.env) :: starEach [b] X.env := by rfl) (hpl : (backTo pos (starEach [b] X.env)).any (·.1) = false := by rfl) : DE X (.Call (.Name "max" p) [a, b] [] pos) (gBlt wMax2 t) := de_blt cd_I2 (call_max2 hcm) hg hm (by decide +kernel) h (by decide) (by decide) he hpl
theorem de_abs (hg : Gl X "abs") (hm : X.mg "abs" = none) (h : DA X [a] t) (he : starEach [a] X.env = [(false, eval a X.env)] := by rfl) (hpl : (backTo pos (starEach [] X.env)).any (·.1) = false := by rfl) : DE X (.Call (.Name "abs" p) [a] [] pos) (gBlt wAbs t) := de_blt cd_abs call_abs hg hm (by decide +kernel) h (by decide) (by decide) he hpl
theorem de_intB (hg : Gl X "int") (hm : X.mg "int" = none) (h : DA X [a] t) (he : starEach [a] X.env = [(false, eval a X.env)] := by rfl) (hpl : (backTo pos (starEach [] X.env)).any (·.1) = false := by rfl) : DE X (.Call (.Name "int" p) [a] [] pos) (gBlt wInt t) := de_bty cd_int call_int1 hg hm (by decide +kernel) h (by decide) (by decide) he hpl
variable {y : Str} {i : Nat} {py apos cpos : Pos}
theorem de_append (hy : PE X (.Name y py) (tVar i)) (ha : DA X [a] t) (hbase : attributeBase (.Name y py) "append" X.env (eval (.Name y py) X.env) = eval (.Name y py) X.env := by rfl)
    (hfew : ((backTo cpos (starEach [a] X.env)).all (fun x => !x.1) && (backToKw cpos (keywordEach [] X.env)).all (fun x => x.1.isSome) && decide ([a].length + ([] : List Keyword).length + (if ([] : List Keyword).isEmpty then 0 else 1) < 30)) = true := by rfl)
    (hline : (apos.endLine == cpos.line) = true := by rfl) (hs : starEach [a] X.env = [(false, eval a X.env)] := by rfl) (hplain : (backTo cpos (starEach [] X.env)).any (·.1) = false := by rfl) : DE X (.Call (.Attribute (.Name y py) "append" apos) [a] [] cpos) (gMeth wAppend i t) :=
  de_meth md_append PySem.F.slot_list_append PySem.F.type_list_append mt_append hy ha hbase hfew hline hs hplain
end
def Df (K : PySem.W.Frag) (mg : Str → Option Value) (x : Str) (st : Stmt) (ps : List Str) : Prop := ∃ f fd, Fun K x x st f fd ∧ mg x = some (.ref f) ∧ Binds K fd ps []
structure CalB (b : Bool) (P : Program) (w : World) (K : PySem.W.Frag) (mg : Str → Option Value) (base : Heap) (k : Nat) (x : Str) (ps : List Str) (sp : Sp) : Prop where
  ex : ∃ f fd, FnOkC b P w K mg base CX0 k f fd ps sp ∧ mg x = some (.ref f) ∧ PySem.W.keepIn K (.ref f) = true ∧ Binds K fd ps []
abbrev Cal (P : Program) (w : World) (K : PySem.W.Frag) (mg : Str → Option Value) (base : Heap) (k : Nat) (x : Str) (ps : List Str) (sp : Sp) : Prop := CalB true P w K mg base k x ps sp
section
variable {cb : Bool} {P : Program} {w : World} {K : PySem.W.Frag} {mg : Str → Option Value} {base : Heap} {x : Str} {st : Stmt} {ps N : List Str} {k : Nat}
theorem calD {C : Ct} (D : Df K mg x st ps) (S : FnScope N ps (defScope st)) (hN : ps.length ≤ N.length) (len : ∀ ds Q, C ds Q → ds.length = ps.length) {G : GS}
    (hb : ∀ (f : Addr) (cdv : Value) (A : Around) (outer : List Env) (s : Shared) (H : Hp) (E : XK), Room k (A.deeper (envOfC x (defScope st) s.heap.objs.size f cdv)) → DSs (cxOfB cb CX0 P w K mg base N x (defScope st) f cdv A outer s H E).nox (defBody st) G)
    (r : ∀ ds Q, C ds Q → G (rho0 N.length (ds.map R.sh)) { nx := fun _ => Q (.sh .none), rt := fun r _ => Q r }) : CalB cb P w K mg base (k + 1) x ps (spD K C) := by
  obtain ⟨f, fd, Fn, hm, hbd⟩ := D
  exact ⟨f, fd, okD Fn S hN len fun cdv A outer s H E hr => ⟨G, hb f cdv A outer s H E hr, r⟩, hm, Fn.kp, hbd⟩
theorem calP {C : Cp} (D : Df K mg x st ps) (S : FnScope N ps (defScope st)) (hN : ps.length ≤ N.length) (len : ∀ o ds Q, C o ds Q → ds.length + 1 = ps.length) {G : GS}
    (hb : ∀ (f : Addr) (cdv : Value) (A : Around) (outer : List Env) (s : Shared) (H : Hp) (E : XK), Room k (A.deeper (envOfC x (defScope st) s.heap.objs.size f cdv)) → DSs (cxOfB cb CX0 P w K mg base N x (defScope st) f cdv A outer s H E).nox (defBody st) G)
    (r : ∀ o ds Q, C o ds Q → G (rho0 N.length (.io o :: ds.map R.sh)) { nx := endP Q (.sh .none), rt := endP Q }) : CalB cb P w K mg base (k + 1) x ps (spP K C) := by
  obtain ⟨f, fd, Fn, hm, hbd⟩ := D
  exact ⟨f, fd, okP Fn S hN len fun cdv A outer s H E hr => ⟨G, hb f cdv A outer s H E hr, r⟩, hm, Fn.kp, hbd⟩
theorem calNo {C : Ct} (D : Df K mg x st ps) (no : ∀ ds Q, ¬ C ds Q) : CalB cb P w K mg base k x ps (spD K C) := by
  obtain ⟨f, fd, Fn, hm, hbd⟩ := D
  have no' : ∀ vs H Q E, ¬ spD K C vs H Q E := fun vs H Q E ⟨F, ds, _, _, z⟩ => no _ _ z
  exact ⟨f, fd, ⟨fun vs H Q E h => absurd h (no' vs H Q E), fun A outer s H args us vs Q E _ _ _ _ _ h => absurd h (no' vs H Q E)⟩, hm, Fn.kp, hbd⟩
theorem calNoP {C : Cp} (D : Df K mg x st ps) (no : ∀ o ds Q, ¬ C o ds Q) : CalB cb P w K mg base k x ps (spP K C) := by
  obtain ⟨f, fd, Fn, hm, hbd⟩ := D
  have no' : ∀ vs H Q E, ¬ spP K C vs H Q E := fun vs H Q E ⟨F, a, ho, o, us, ds, _, _, _, _, _, _, z⟩ => no _ _ _ z
  exact ⟨f, fd, ⟨fun vs H Q E h => absurd h (no' vs H Q E), fun A outer s H args us vs Q E _ _ _ _ _ h => absurd h (no' vs H Q E)⟩, hm, Fn.kp, hbd⟩
end
section
variable {X : Cx} {a e : Expr} {es : List Expr} {Ga : GE} {pos p py : Pos} {x y : Str} {ps : List Str} {k k' i : Nat} {t : GA}
theorem de_callC {bq : Bool} {C : Ct} (M : MonoC C) (hqt : Qt bq X) (cal : CalB bq X.prog X.w X.K X.mg X.base k x ps (spD X.K C)) (hr : Room k' X.A) (hk : k ≤ k') (hg : Gl X x) (ha : DA X (e :: es) t) (hdb : (x == ("__debug__" : Str)) = false := by decide) (he : starEach (e :: es) X.env = (false, eval e X.env) :: starEach es X.env := by rfl) (hpl : (backTo pos (starEach es X.env)).any (·.1) = false := by rfl) : DE X (.Call (.Name x p) (e :: es) [] pos) (gCall C t) := by
  obtain ⟨f, fd, Fn, hm, kp, hb⟩ := cal.ex
  exact de_call M Fn hqt (hr.mono hk) hg hm kp hb ha hdb he hpl
theorem de_callCO {bq : Bool} {C : Cp} (M : MonoP C) (hqt : Qt bq X) (cal : CalB bq X.prog X.w X.K X.mg X.base k x ps (spP X.K C)) (hr : Room k' X.A) (hk : k ≤ k') (hg : Gl X x) (hy : PE X (.Name y py) (tVar i)) (ha : DA X es t) (hs : starEach (.Name y py :: es) X.env = (false, eval (.Name y py) X.env) :: starEach es X.env := by rfl)
    (hdb : (x == ("__debug__" : Str)) = false := by decide) (hpl : (backTo pos (starEach es X.env)).any (·.1) = false := by rfl) : DE X (.Call (.Name x p) (.Name y py :: es) [] pos) (gCallO C i t) := by
  obtain ⟨f, fd, Fn, hm, kp, hb⟩ := cal.ex
  exact de_callO M Fn hqt (hr.mono hk) hg hm kp hb hy ha hs hdb hpl
theorem de_callCT {bq : Bool} {C : Cp} (M : MonoP C) (hqt : Qt bq X) (cal : CalB bq X.prog X.w X.K X.mg X.base k x ps (spP X.K C)) (hr : Room k' X.A) (hk : k ≤ k') (hg : Gl X x) (ha : DE X a Ga) (hs : starEach [a] X.env = [(false, eval a X.env)] := by rfl)
    (hdb : (x == ("__debug__" : Str)) = false := by decide) (hpl : (backTo pos (starEach [] X.env)).any (·.1) = false := by rfl) : DE X (.Call (.Name x p) [a] [] pos) (gCallT C Ga) := by
  obtain ⟨f, fd, Fn, hm, kp, hb⟩ := cal.ex
  exact de_callT M Fn hqt (hr.mono hk) hg hm kp hb ha hs hdb hpl
end
end DL
set_option Elab.async false
set_option linter.all false
set_option maxRecDepth 100000
namespace DL
open PySem L2
section
variable {X : Cx} {tg a b c e : Expr} {es : List Expr} {Ga Gb Gc : GE} {pos : Pos}
theorem tTest_of {t : TE} {G : GE} (hG : MonoE G) (h : ∀ σ H Q, tDE X.K G σ H Q → t σ H Q) (σ : St) (H : Hp) (Q : Bool → Hp → Prop) (z : tDT X.K (gB G) σ H Q) : t σ H fun x H' => ∃ k, x = .bl k ∧ Q k H' := by
  refine h σ H _ ?_
  obtain ⟨c, F, ρ, j, q⟩ := z
  refine ⟨c, F, ρ, j, hG _ _ _ (fun r1 ρ1 q1 F1 H1 v1 j1 v1r => ?_) q⟩
  split at q1
  · cases v1r
    exact ⟨_, rfl, q1 F1 H1 j1⟩
  · exact q1.elim
theorem dt_cmpR {op : CmpOp} {r : R2} {W : W2} (ho : OpR X (compareOp op) r) (D : OpD X.K r W) (ha : DE X a Ga) (hb : DE X b Gb) (hm : behindInMarks op b = false) : DT X (.Compare a [op] [b] pos) (gB (gBin W Ga Gb)) :=
  ⟨gB_mono (gBin_mono D.mono ha.mono hb.mono), ptI (pt_cmpR ho ha.pe hb.pe hm) (tTest_of (gBin_mono D.mono ha.mono hb.mono) (tOp_of D ha hb))⟩
theorem dt_lt (ha : DE X a Ga) (hb : DE X b Gb) : DT X (.Compare a [.Lt] [b] pos) (gB (gBin wLt Ga Gb)) := dt_cmpR op_lt (opdI0 fun _ _ => .bl _) ha hb (nomark _)
theorem dt_gt (ha : DE X a Ga) (hb : DE X b Gb) : DT X (.Compare a [.Gt] [b] pos) (gB (gBin wGt Ga Gb)) := dt_cmpR op_gt (opdI0 fun _ _ => .bl _) ha hb (nomark _)
theorem dt_eq {k : Nat} (hr : Room k X.A) (ha : DE X a Ga) (hb : DE X b Gb) : DT X (.Compare a [.Eq] [b] pos) (gB (gBin (wEq false) Ga Gb)) := dt_cmpR (op_eqR (u200 hr)) opdEq ha hb (nomark _)
theorem dt_ne {k : Nat} (hr : Room k X.A) (ha : DE X a Ga) (hb : DE X b Gb) : DT X (.Compare a [.NotEq] [b] pos) (gB (gBin (wEq true) Ga Gb)) := dt_cmpR (op_neR (u200 hr)) opdEq ha hb (nomark _)
end
end DL
set_option Elab.async false
set_option linter.all false
set_option maxRecDepth 100000
namespace DL
open PySem L2
section
variable {X : Cx} {tg a b c e : Expr} {es : List Expr} {Ga Gb Gc : GE} {pos : Pos}
def rInR (K : PySem.W.Frag) (neg : Bool) : R2 := fun x y H Q => ∃ d ds, Dp K H x d ∧ (Dp K H y (.list ds) ∨ Dp K H y (.tuple ds)) ∧ d.canLay0 = true ∧ PyData.canLayAll0 ds = true ∧ min (PyData.depthAll ds) d.depth < 190 ∧ Q (.bl (if neg then !(ds.any fun y => PyData.eqv y d) else ds.any fun y => PyData.eqv y d)) H
theorem op_inR (hr : X.A.units + 200 < cLine) : OpR X (compareOp .In) (rInR X.K false) := by
  intro pins s σ H x y v u Q I rx ry h
  obtain ⟨d, ds, hd, he, s1, s2, z, q⟩ := h
  obtain ⟨as, r1⟩ := Dp.reads I d x v hd rx
  rcases he with he | he
  · obtain ⟨bs, r2⟩ := Dp.reads I _ y u he ry
    exact SeqAt.in_list_reads r2 r1 s2 s1 (by omega) ⟨.bl _, H, I, rfl, q⟩
  · obtain ⟨bs, r2⟩ := Dp.reads I _ y u he ry
    exact SeqAt.in_tuple_reads r2 r1 s2 s1 (by omega) ⟨.bl _, H, I, rfl, q⟩
def inW (neg : Bool) (d : PyData) (ds : List PyData) (Q : R → Prop) : Prop := d.canLay0 = true ∧ PyData.canLayAll0 ds = true ∧ min (PyData.depthAll ds) d.depth < 190 ∧ Q (.sh (.bool (if neg then !(ds.any fun y => PyData.eqv y d) else ds.any fun y => PyData.eqv y d)))
def wIn (neg : Bool) : W2 := fun d e Q => match e with
  | .list ds => inW neg d ds Q
  | .tuple ds => inW neg d ds Q
  | _ => False
theorem opdIn {K : PySem.W.Frag} {neg : Bool} : OpD K (rInR K neg) (wIn neg) := ⟨fun d e Q Q' h q => by
  unfold wIn at *
  split at q
  · exact ⟨q.1, q.2.1, q.2.2.1, h _ q.2.2.2⟩
  · exact ⟨q.1, q.2.1, q.2.2.1, h _ q.2.2.2⟩
  · exact q, fun c F H σ ρ x y d e Q Qv j hx hy q k => by
  unfold wIn at q
  split at q
  · exact ⟨d, _, dpM j.fh hx, .inl (dpM j.fh hy), q.1, q.2.1, q.2.2.1, k _ F H _ q.2.2.2 j (.bl _)⟩
  · exact ⟨d, _, dpM j.fh hx, .inr (dpM j.fh hy), q.1, q.2.1, q.2.2.1, k _ F H _ q.2.2.2 j (.bl _)⟩
  · exact q.elim⟩
theorem dt_inL {k : Nat} (hr : Room k X.A) (ha : DE X a Ga) (hb : DE X b Gb) (hm : behindInMarks .In b = false := by rfl) : DT X (.Compare a [.In] [b] pos) (gB (gBin (wIn false) Ga Gb)) := dt_cmpR (op_inR (u200 hr)) opdIn ha hb hm
def rStrR (K : PySem.W.Frag) : List V → Hp → VK → Prop := fun xs H Q => ∃ a d, xs = [.ref a] ∧ Dp K H (.ref a) d ∧ d.showable = true ∧ d.hasDict = false ∧ d.depth < 190 ∧ d.shown.length ≤ sizeLine ∧ Q (.str d.shown) H
theorem call_strR {k : Nat} (hr : Room k X.A) : CallR X (.type "str") (rStrR X.K) := by
  intro pins s σ H xs us Q I r h
  obtain ⟨a, d, rfl, hd, h1, h2, h3, h4, q⟩ := h
  obtain ⟨u, rfl, ru⟩ := vals1 r
  obtain ⟨as, rd⟩ := Dp.reads I d _ u hd ru
  cases ru
  have hu := u200 hr
  refine PySem.str_of_reads (h₀ := s.heap) rd h1 (fun z => by rw [h2] at z; cases z) hr.gd (by omega) (fun _ _ z => z) (fun h' t tk hk => ?_) h4
  exact ⟨.str d.shown, H, I.kept (t' := tk) hk, ⟨t, rfl⟩, q⟩
def wStr : WC
  | [.list ds], Q => (PyData.list ds).showable = true ∧ (PyData.list ds).hasDict = false ∧ (PyData.list ds).depth < 190 ∧ (PyData.list ds).shown.length ≤ 1000000 ∧ Q (.sh (.str (PyData.list ds).shown))
  | [.tuple ds], Q => (PyData.tuple ds).showable = true ∧ (PyData.tuple ds).hasDict = false ∧ (PyData.tuple ds).depth < 190 ∧ (PyData.tuple ds).shown.length ≤ 1000000 ∧ Q (.sh (.str (PyData.tuple ds).shown))
  | _, _ => False
theorem cd_str {K : PySem.W.Frag} : CallD K (rStrR K) wStr := ⟨fun ds Q Q' h q => by
  unfold wStr at *
  split at q
  · exact ⟨q.1, q.2.1, q.2.2.1, q.2.2.2.1, h _ q.2.2.2.2⟩
  · exact ⟨q.1, q.2.1, q.2.2.1, q.2.2.2.1, h _ q.2.2.2.2⟩
  · exact q, fun c F H σ ρ vs ds Q Qv j a q k => by
  have hm := million
  unfold wStr at q
  split at q
  · cases a with | cons h t => cases t with | nil =>
    obtain ⟨l, xs, rfl, h1, a1⟩ := dp_lst h
    exact ⟨l, _, rfl, dpM j.fh h, q.1, q.2.1, q.2.2.1, by omega, k _ F H _ q.2.2.2.2 j (.str _)⟩
  · cases a with | cons h t => cases t with | nil =>
    obtain ⟨l, xs, rfl, h1, a1⟩ := dp_tup h
    exact ⟨l, _, rfl, dpM j.fh h, q.1, q.2.1, q.2.2.1, by omega, k _ F H _ q.2.2.2.2 j (.str _)⟩
  · exact q.elim⟩
def gAugadd (i : Nat) (a : GE) : GS := fun ρ E => (match ρ[i]? with
  | some (some (.sh (.int m))) => a ρ fun r ρ1 => (match r with | .sh (.int n) => freeSlot ρ1 i ∧ E.nx (ρ1.set i (some (.sh (.int (m + n))))) | _ => False)
  | _ => False)
def seqAt (ρ : Rho) (i : Nat) (k : List PyData → Prop) : Prop := match ρ[i]? with
  | some (some (.own (.lst ds))) => k ds
  | some (some (.io (.lst ds))) => k ds
  | some (some (.sh (.list ds))) => k ds
  | some (some (.sh (.tuple ds))) => k ds
  | _ => False
theorem seqAt_mono {ρ : Rho} {i : Nat} {k k' : List PyData → Prop} (h : ∀ ds, k ds → k' ds) (q : seqAt ρ i k) : seqAt ρ i k' := by
  unfold seqAt at *
  split <;> simp_all
theorem seqAt_use {K : PySem.W.Frag} {c : En} {F H : Hp} {σ : St} {ρ : Rho} {i : Nat} {k : List PyData → Prop} (j : J K c F H σ ρ) (q : seqAt ρ i k) : ∃ a xs ds, σ[i]? = some (some (V.ref a)) ∧ (SqL K H a xs ∨ SqT K H a xs) ∧ DpAll K F xs ds ∧ k ds := by
  unfold seqAt at q
  split at q
  · next ds e =>
    obtain ⟨a, ho, h1, h2, ⟨vs, rfl, h3⟩, _⟩ := j.ow i _ (.inl e)
    exact ⟨a, vs, ds, h1, .inl (SqL.of h2), h3, q⟩
  · next ds e =>
    obtain ⟨a, ho, h1, h2, ⟨vs, rfl, h3⟩, _⟩ := j.ow i _ (.inr e)
    exact ⟨a, vs, ds, h1, .inl (SqL.of h2), h3, q⟩
  · next ds e =>
    obtain ⟨v, h1, h2⟩ := j.sh i _ e
    obtain ⟨a, xs, rfl, h3, h4⟩ := dp_lst h2
    exact ⟨a, xs, ds, h1, .inl (j.fh.seq h3), h4, q⟩
  · next ds e =>
    obtain ⟨v, h1, h2⟩ := j.sh i _ e
    obtain ⟨a, xs, rfl, h3, h4⟩ := dp_tup h2
    exact ⟨a, xs, ds, h1, .inr (sqT_same j.fh h3), h4, q⟩
  · exact q.elim
def gIxU (i : Nat) (b : GE) : GE := fun ρ Q => seqAt ρ i fun _ => b ρ fun r ρ1 => withD r fun d => seqAt ρ1 i fun ds => match d with
  | .int k => (match atI ds k with | some x => Q (.sh x) ρ1 | none => False)
  | _ => False
theorem de_ixU {y : Str} {i : Nat} {py : Pos} (hy : PE X (.Name y py) (tVar i)) (hb : DE X b Gb) (hs : PlainIx b := by exact fun _ _ => rfl) : DE X (.Subscript (.Name y py) b pos) (gIxU i Gb) :=
  ⟨fun _ _ _ hq q => seqAt_mono (fun _ z => hb.mono _ _ _ (fun _ _ z => withD_mono (fun _ z => seqAt_mono (fun _ z => by
    split at z
    · split at z
      · exact hq _ _ z
      · exact z
    · exact z) z) z) z) q, peI (pe_ix ix_seq hy hb.pe hs) fun σ H Q ⟨c, F, ρ, j, q⟩ => by
    obtain ⟨a0, _, _, hσ, _, _, q⟩ := seqAt_use j q
    refine ⟨.ref a0, hσ, c, F, ρ, j, hb.mono _ _ _ (fun r ρ1 q1 F1 H1 v1 j1 v1r => ?_) q⟩
    obtain ⟨d, hd, q1⟩ := withD_use q1
    obtain ⟨F2, j2, s2, dp⟩ := v1r.frz j1 hd
    obtain ⟨a2, xs, ds, hσ2, sq, al, q1⟩ := seqAt_use j2 q1
    rw [hσ] at hσ2
    cases hσ2
    split at q1
    · cases dp
      split at q1
      · next e' =>
        obtain ⟨v, hv, dv⟩ := dpAt al e'
        rcases sq with sq | sq
        · exact .inl ⟨a0, xs, _, v, rfl, rfl, sq, hv, q1 F2 H1 v j2 dv⟩
        · exact .inr (.inl ⟨a0, xs, _, v, rfl, rfl, sq, hv, q1 F2 H1 v j2 dv⟩)
      · exact q1.elim
    · exact q1.elim⟩
def gLenU (i : Nat) : GE := fun ρ Q => seqAt ρ i fun ds => Q (.sh (.int ds.length)) ρ
theorem de_lenU {y : Str} {i : Nat} {p py : Pos} (hg : Gl X "len") (hm : X.mg "len" = none) (hy : PE X (.Name y py) (tVar i)) (hs : starEach [.Name y py] X.env = [(false, eval (.Name y py) X.env)] := by rfl) (hpl : (backTo pos (starEach [] X.env)).any (·.1) = false := by rfl) :
    DE X (.Call (.Name "len" p) [.Name y py] [] pos) (gLenU i) :=
  ⟨fun _ _ _ hq q => seqAt_mono (fun _ z => hq _ _ z) q, peI (pe_callB call_len_seq hg hm PySem.boot_len (pa_cons hy pa_nil hs) (by decide) (by decide) hs hpl) fun σ H Q ⟨c, F, ρ, j, q⟩ => by
    obtain ⟨a0, xs, ds, hσ, sq, al, q⟩ := seqAt_use j q
    exact ⟨.ref a0, hσ, a0, xs, rfl, sq, by rw [DpAll.length al]; exact q F H _ j (.int _)⟩⟩
end
end DL
set_option Elab.async false
set_option linter.all false
namespace DL
open PySem L2
theorem rangeD_cons (lo : Int) (n : Nat) : rangeD lo (n + 1) = .int lo :: rangeD (lo + 1) n := by
  unfold rangeD
  rw [List.range_succ_eq_map, List.map_cons, List.map_map]
  congr 1
  · simp
  · apply List.map_congr_left
    intro a _
    simp only [Function.comp]
    congr 1
    omega
theorem cutD_to {ds : List PyData} {i : Int} (h0 : 0 ≤ i) (h1 : i ≤ ds.length) : cutD ds none (some i) = ds.take i.toNat := by
  unfold cutD
  have e : HT.sIx ds.length ds.length (some i) = i.toNat := by
    simp only [HT.sIx]
    first | (rw [if_neg (by omega)]; omega) | (split <;> omega) | omega
  have e0 : HT.sIx ds.length 0 none = 0 := rfl
  rw [e, e0, List.drop_zero, Nat.sub_zero]
theorem cutD_from {ds : List PyData} {i : Int} (h0 : 0 ≤ i) (h1 : i ≤ ds.length) : cutD ds (some i) none = ds.drop i.toNat := by
  unfold cutD
  have e : HT.sIx ds.length 0 (some i) = i.toNat := by
    simp only [HT.sIx]
    first | (rw [if_neg (by omega)]; omega) | (split <;> omega) | omega
  have e0 : HT.sIx ds.length ds.length none = ds.length := rfl
  rw [e, e0, List.take_of_length_le (by rw [List.length_drop]; omega)]
theorem at0 {α : Type} (a : α) (l : List α) : atI (a :: l) 0 = some a := by
  simp [atI, ixN]
theorem at1 {α : Type} (a b : α) (l : List α) : atI (a :: b :: l) 1 = some b := by
  simp [atI, ixN]
  rw [if_pos (by omega)]
  rfl
theorem at2 {α : Type} (a b c : α) (l : List α) : atI (a :: b :: c :: l) 2 = some c := by
  simp [atI, ixN]
  rw [if_pos (by omega)]
  rfl
theorem at3 {α : Type} (a b c d : α) (l : List α) : atI (a :: b :: c :: d :: l) 3 = some d := by
  simp [atI, ixN]
  rw [if_pos (by omega)]
  rfl
theorem at4 {α : Type} (a b c d e : α) (l : List α) : atI (a :: b :: c :: d :: e :: l) 4 = some e := by
  simp [atI, ixN]
  rw [if_pos (by omega)]
  rfl
theorem at5 {α : Type} (a b c d e f : α) (l : List α) : atI (a :: b :: c :: d :: e :: f :: l) 5 = some f := by
  simp [atI, ixN]
  rw [if_pos (by omega)]
  rfl
theorem at_ge {α : Type} {xs : List α} {z : Int} {x : α} (h0 : 0 ≤ z) (h : xs[z.toNat]? = some x) : atI xs z = some x := by
  have hl : z.toNat < xs.length := (List.getElem?_eq_some_iff.mp h).1
  unfold atI ixN
  rw [if_pos h0, if_pos (by omega)]
  exact h
theorem at_last {α : Type} {xs : List α} {x : α} (h : xs.getLast? = some x) : atI xs (-1) = some x := by
  cases xs with
  | nil => cases h
  | cons a l =>
    unfold atI ixN
    rw [if_neg (by omega), if_pos (by rw [List.length_cons]; omega)]
    rw [List.getLast?_eq_getElem?] at h
    have e : (-1 + ((a :: l).length : Int)).toNat = (a :: l).length - 1 := by rw [List.length_cons]; omega
    rw [e]
    exact h
abbrev RdD (G : GS) (n : Nat) (C : Ct) : Prop := ∀ ds Q, C ds Q → G (rho0 n (ds.map R.sh)) { nx := fun _ => Q (.sh .none), rt := fun r _ => Q r }
abbrev RdP (G : GS) (n : Nat) (C : Cp) : Prop := ∀ o ds Q, C o ds Q → G (rho0 n (.io o :: ds.map R.sh)) { nx := endP Q (.sh .none), rt := endP Q }
def wEqT : W2
  | .str x, .str y, Q => Q (.sh (.bool (decide (x = y))))
  | _, _, _ => False
theorem opdEqT {K : PySem.W.Frag} : OpD K rEq wEqT := ⟨fun d e Q Q' h q => by unfold wEqT at *; split <;> simp_all, fun c F H σ ρ x y d e Q Qv j hx hy q k => by
  unfold wEqT at q
  split at q
  · next a b =>
    cases hx
    cases hy
    refine ⟨rfl, ?_⟩
    have e : decide (V.str a = V.str b) = decide (a = b) := by
      by_cases h : a = b
      · subst h; simp
      · rw [decide_eq_false h, decide_eq_false (fun z => h (V.str.inj z))]
    rw [e]
    exact k _ F H _ q j (.bl _)
  · exact q.elim⟩
section
variable {X : Cx} {a b : Expr} {Ga Gb : GE} {pos : Pos}
theorem de_eqT (ha : DE X a Ga) (hb : DE X b Gb) : DE X (.Compare a [.Eq] [b] pos) (gBin wEqT Ga Gb) := de_cmp op_eq opdEqT ha hb (nomark _)
end
end DL
set_option Elab.async false
set_option linter.all false
set_option maxRecDepth 100000
namespace DL
open PySem L2
section
variable {X : Cx} {a : Expr} {p pos : Pos} {t : GA}
end
end DL
set_option Elab.async false
set_option linter.all false
set_option maxRecDepth 100000
namespace DL
open PySem PyProof.Rows L2
section
variable {X : Cx} {a b : Expr} {Ga Gb : GE} {pos : Pos}
def rCatT0 (K : PySem.W.Frag) : R2 := fun x y H Q => ∃ a b ys, x = .ref a ∧ y = .ref b ∧ SqT K H a [] ∧ SqT K H b ys ∧ Q (.ref b) H
theorem op_catT0 : OpR X (binaryOp .Add) (rCatT0 X.K) := by
  intro pins s σ H x y v u Q I rx ry h
  obtain ⟨a, b, ys, rfl, rfl, ha, hb, q⟩ := h
  cases rx
  cases ry
  obtain ⟨its, r1, p1, _⟩ := I.tuple ha
  obtain ⟨its2, r2, p2, _⟩ := I.tuple hb
  cases r1
  obtain ⟨⟨cls, dd, data, sl⟩, ho, hc, n, hd⟩ := id p1
  obtain ⟨⟨cls2, dd2, data2, sl2⟩, ho2, hc2, n2, hd2⟩ := id p2
  simp only at hc hd hc2 hd2
  subst hc hd hc2 hd2
  exact concat_meets ⟨_, ho, rfl⟩ ⟨_, ho2, rfl⟩ noFill_tuple_add seq_tuple_add PySem.F.slot_tuple_add PySem.F.entry_tuple_add (PySem.F.args_tuple_add_2 _ _)
      (tuple_addW0 a b _ its2.toArray n n2 dd dd2 sl sl2 (by simp)) ⟨ho, ho2, .ref b, H, I, rfl, q⟩
def wAddT : W2
  | .tuple xs, .tuple ys, Q => xs.length + ys.length ≤ 1000000 ∧ Q (.sh (.tuple (xs ++ ys)))
  | _, _, _ => False
theorem opdAddT {K : PySem.W.Frag} : OpD K (rOr (rCatT K) (rCatT0 K)) wAddT := ⟨fun d e Q Q' h q => by unfold wAddT at *; split <;> simp_all, fun c F H σ ρ x y d e Q Qv j hx hy q k => by
  unfold wAddT at q
  have hm := million
  split at q
  · next xs ys =>
    obtain ⟨l, us, rfl, h1, a1⟩ := dp_tup hx
    obtain ⟨b, ws, rfl, h2, a2⟩ := dp_tup hy
    have l1 := DpAll.length a1
    have l2 := DpAll.length a2
    by_cases e1 : us = []
    · subst e1
      cases a1
      exact .inr ⟨l, b, ws, rfl, rfl, sqT_same j.fh h1, sqT_same j.fh h2, k (.sh (.tuple ys)) F H (.ref b) (by simpa using q.2) j hy⟩
    · refine .inl ⟨l, b, us, ws, rfl, rfl, sqT_same j.fh h1, sqT_same j.fh h2, e1, by omega, fun e2 => ?_, fun e2 p hp => ?_⟩
      · subst e2
        cases a2
        exact k (.sh (.tuple xs)) F H (.ref l) (by simpa using q.2) j hx
      · exact k _ _ _ _ q.2 ((j.alloc hp _).frz upd_same (j.ffree hp) (j.zfree hp) (j.apart hp)) (.tup (SqT.of upd_same) (dpAllM (same_new (j.ffree hp) _) (DpAll.app a1 a2)))
  · exact q.elim⟩
def wAddA : W2 := fun d e Q => wAdd d e Q ∨ wAddT d e Q
theorem de_addA (ha : DE X a Ga) (hb : DE X b Gb) : DE X (.BinOp a .Add b pos) (gBin wAddA Ga Gb) :=
  de_bin (opr_or (opr_or op_add (opr_or op_catS op_add_str)) (opr_or op_catT op_catT0)) ⟨fun d e Q Q' h q => q.imp (fun q => wAdd_mono d e Q Q' h q) (fun q => (opdAddT (K := X.K)).mono d e Q Q' h q), fun c F H σ ρ x y d e Q Qv j hx hy q k => q.imp (fun q => opdAdd.ok c F H σ ρ x y d e Q Qv j hx hy q k) fun q => opdAddT.ok c F H σ ρ x y d e Q Qv j hx hy q k⟩ ha hb
theorem getItem_tuple_whole {prog : Program} {w : World} {A : Around} {E : Value → Shared → Prop} {s : Shared} {t sl : Addr} {items : Array Value} {vl vu : Value} {lo hi : Option Int} {Q : Value → Shared → Prop} (ht : IsTup s.heap t items) (hs : s.heap.IsSliceOf sl vl vu .none) (pl : IsPart vl lo) (pu : IsPart vu hi)
    (hw : HT.sIx items.size 0 lo = 0 ∧ HT.sIx items.size items.size hi = items.size) (h : Q (.ref t) s) : wpAny (model prog w) A (getItem (.ref t) (.ref sl)) Q E s := by
  obtain ⟨os, hos, hcs, hds⟩ := id hs
  have hTs : s.TypeIs (.ref sl) "slice" := ⟨os, hos, hcs⟩
  unfold getItem
  try with_reducible refine wpAny_holding ?_
  first | refine wpAny_bind (wpAny_pure ?_) | skip
  refine wpAny_bind (wpAny_sequenceKey ht.typeIs (by decide) ?_)
  refine wpAny_bind (wpAny_callSpecial?_slot (name := Str.ofString "__getitem__") ht.typeIs PyProof.Rows.slot_tuple_getitem
    (wpAny_call_entry PyProof.Rows.slot_tuple_getitem ht.typeIs entry_tuple_getitem ?_ (args_tuple_getitem _ _)))
  show wpAny _ _ (Builtin.Tuple.tupleItemsOf (.ref t) >>= _) _ _ s
  refine wpAny_bind (tupleItemsOf_ ht ?_)
  refine wpAny_bind (wpAny_typeOf hTs ?_)
  rw [if_pos (by decide)]
  refine wpAny_bind (HT.sliceApplied_gen hs pl pu ?_)
  have hyes : (((HT.sIx items.size 0 lo : Nat) : Int) == 0 && (1 : Int) == 1 && (HT.sIx items.size items.size hi - HT.sIx items.size 0 lo) == items.size) = true := by
    rw [hw.1, hw.2]
    simp
  show wpAny _ _ (if (((HT.sIx items.size 0 lo : Nat) : Int) == 0 && (1 : Int) == 1 && (HT.sIx items.size items.size hi - HT.sIx items.size 0 lo) == items.size) = true then _ else _) _ _ s
  rw [if_pos hyes]
  refine wpAny_bind (wpAny_bind (wpAny_typeOf ht.typeIs (wpAny_pure ?_)))
  rw [if_pos (by decide)]
  first
    | exact wpAny_pure ⟨_, rfl, wpAny_pure h⟩
    | exact wpAny_bind (wpAny_pure (wpAny_pure ⟨_, rfl, wpAny_pure h⟩))
    | exact wpAny_bind (wpAny_rule (wpAny_pure ⟨_, rfl, wpAny_pure h⟩))
def rSlA (K : PySem.W.Frag) : V → Option Int → Option Int → Hp → VK → Prop := fun x lo hi H Q => rSlL K x lo hi H Q ∨ ∃ a xs, x = .ref a ∧ SqT K H a xs ∧ (cutV xs lo hi = xs → Q (.ref a) H) ∧ ∀ p, H p = none → Q (.ref p) (upd H p (.tup (cutV xs lo hi)))
theorem cut_whole {xs : List V} {lo hi : Option Int} (h : HT.sIx xs.length 0 lo = 0 ∧ HT.sIx xs.length xs.length hi = xs.length) : cutV xs lo hi = xs := by
  unfold cutV
  rw [h.1, h.2]
  simp
theorem sl_all : SlR X (rSlA X.K) := by
  intro pins s σ H x v vl vu lo hi sl Q I rx hs pl pu h
  rcases h with h | ⟨a, xs, rfl, hx, q1, q2⟩
  · exact sl_list pins s σ H x v vl vu lo hi sl Q I rx hs pl pu h
  · by_cases hw : HT.sIx xs.length 0 lo = 0 ∧ HT.sIx xs.length xs.length hi = xs.length
    · cases rx
      obtain ⟨its, r, ht, hz⟩ := I.tuple hx
      have hlen : its.toArray.size = xs.length := by rw [List.size_toArray]; exact r.length.symm
      refine ⟨"tuple", _, PyProof.Rows.slot_tuple_getitem.lookup, ht.typeIs, ?_⟩
      exact getItem_tuple_whole ht hs pl pu (by rw [hlen]; exact hw) ⟨.ref a, H, I, rfl, q1 (cut_whole hw)⟩
    · exact sl_tup pins s σ H (.ref a) v vl vu lo hi sl Q I rx hs pl pu ⟨a, xs, rfl, hx, hw, q2⟩
def gSlA (a : GE) (l u : GO) : GE := fun ρ Q => a ρ fun r ρ1 => withD r fun d => l ρ1 fun lo ρ2 => u ρ2 fun hi ρ3 => match d with
  | .list ds => Q (.own (.lst (cutD ds lo hi))) ρ3
  | .tuple ds => Q (.sh (.tuple (cutD ds lo hi))) ρ3
  | _ => False
theorem de_slA {lo hi : Option Expr} {l u : GO} {p2 : Pos} (ha : DE X a Ga) (hl : DO X lo l) (hu : DO X hi u) : DE X (.Subscript a (.Slice lo hi none p2) pos) (gSlA Ga l u) :=
  ⟨fun _ _ _ hq q => ha.mono _ _ _ (fun _ _ z => withD_mono (fun _ z => hl.mono _ _ _ (fun _ _ z => hu.mono _ _ _ (fun _ _ z => by split at z <;> first | exact hq _ _ z | exact z) z) z) z) q, peI (pe_slice sl_all ha.pe hl.po hu.po) fun σ H Q ⟨c, F, ρ, j, q⟩ => by
    refine ⟨c, F, ρ, j, ha.mono _ _ _ (fun r1 ρ1 q1 F1 H1 v1 j1 v1r => ?_) q⟩
    obtain ⟨d, hd, q1⟩ := withD_use q1
    obtain ⟨F2, j2, s2, dp⟩ := v1r.frz j1 hd
    refine ⟨⟨F2, c.Z, c.io⟩, F2, ρ1, j2.anew, hl.mono _ _ _ (fun lo ρ3 q3 F3 H3 j3 => ?_) q1⟩
    refine ⟨⟨F2, c.Z, c.io⟩, F3, ρ3, j3, hu.mono _ _ _ (fun hi ρ4 q4 F4 H4 j4 => ?_) q3⟩
    split at q4
    · obtain ⟨p, xs, rfl, h1, a1⟩ := dp_lst dp
      have j5 := j2.back j4
      refine .inl ⟨p, xs, rfl, (j4.ff.trans j4.fh).seq h1, fun q hq => ?_⟩
      refine q4 F4 _ _ (j5.alloc hq _) (relNew j5 hq ⟨_, rfl, ?_⟩)
      unfold cutV cutD
      rw [DpAll.length a1]
      exact DpAll.take _ (DpAll.drop _ (dpAllM j4.ff a1))
    · next ds =>
      obtain ⟨p, xs, rfl, h1, a1⟩ := dp_tup dp
      have j5 := j2.back j4
      have a4 : DpAll X.K F4 (cutV xs lo hi) (cutD ds lo hi) := by
        unfold cutV cutD
        rw [DpAll.length a1]
        exact DpAll.take _ (DpAll.drop _ (dpAllM j4.ff a1))
      refine .inr ⟨p, xs, rfl, sqT_same (j4.ff.trans j4.fh) h1, fun e => ?_, fun q hq => ?_⟩
      · rw [e] at a4
        exact q4 F4 H4 _ j5 (.tup (sqT_same j4.ff h1) a4)
      · exact q4 _ _ _ ((j5.alloc hq _).frz upd_same (j5.ffree hq) (j5.zfree hq) (j5.apart hq)) (.tup (SqT.of upd_same) (dpAllM (same_new (j5.ffree hq) _) a4))
    · exact q4.elim⟩
theorem noFill_tuple_mul : fillsNumberSlot (.type "tuple") "mul" = pure false :=
  PySem.fillsNumberSlot_seq (id := "tuple.__mul__") (r := some (.builtin "tuple.__rmul__")) F.slot_tuple_mul.lookup (by decide +kernel) F.slot_tuple_rmul.lookup (by decide +kernel)
theorem repeat_tuple : seqRepeat? (.type "tuple") = pure (some (.builtin "tuple.__mul__")) := by
  unfold seqRepeat?
  rw [PySem.seqSlot_of (T := "tuple") (name := "__mul__") (id := "tuple.__mul__") F.slot_tuple_mul.lookup (by decide +kernel), PySem.seqSlot_of (T := "tuple") (name := "__rmul__") (id := "tuple.__rmul__") F.slot_tuple_rmul.lookup (by decide +kernel)]
  rfl
theorem int_rmul_tuple (a : Int) (t : Tok) (l : Addr) (items : Array Value) (n : Nat) (dd : Option Addr) (sl : Array (Option Value)) :
    Meets (Builtin.«int.__rmul__» ⟨[.int a t, .ref l], []⟩) (fun _ R s => s.heap.get? l = some { cls := .type "tuple", dict := dd, data := .seq items n, slots := sl } ∧ R (.ok (.ret Value.notImplemented)) s) :=
  .of_wp fun prog w A R s h => by obtain ⟨hp, g, d, tk, os⟩ := s; obtain ⟨hl, h⟩ := h; wp_walk; exact ⟨_, rfl, h⟩
theorem tuple_mulW (l : Addr) (items : Array Value) (n : Nat) (dd : Option Addr) (sl : Array (Option Value)) (x : Int) (u : Tok) (hc0 : ¬(decide (x < -2 ^ 63) || decide (x ≥ 2 ^ 63)) = true) (hc1 : ¬(items.isEmpty || x == 1) = true) (hc2 : ¬(decide (x ≤ 0) || items.isEmpty) = true) (hc3 : ¬(items.size : Int) * x > (2 ^ 63 - 1) / 8) (hc4 : ¬Builtin.Tuple.tupleTooMany ((items.size : Int) * x) = true)
    (hsz : (List.foldl (fun x1 x2 => x1 ++ x2) #[] (List.replicate x.toNat items)).size ≤ sizeLine) :
    Meets (Builtin.«tuple.__mul__» ⟨[.ref l, .int x u], []⟩) (fun _ R s => s.heap.get? l = some { cls := .type "tuple", dict := dd, data := .seq items n, slots := sl } ∧ R (.ok (.ret (Value.ref s.heap.objs.size))) { s with heap := s.heap.push { cls := Value.type "tuple", data := Data.seq (List.foldl (fun x1 x2 => x1 ++ x2) #[] (List.replicate x.toNat items)) }, toks := s.toks }) :=
  .of_wp fun prog w A R s h => by
    obtain ⟨hp, g, d, tk, os⟩ := s; obtain ⟨hl, h⟩ := h
    have f1 := AutoSeq1.idx_int
    wp_walk using wpAny_loadPart' hl
    rw [if_neg hc0]
    refine wpAny_bind (tupleItemsOf_ ⟨_, hl, rfl, n, rfl⟩ ?_)
    dsimp only
    rw [if_neg hc1, if_neg hc2, if_neg hc3, if_neg hc4]
    exact wpAny_bind (m := Builtin.Tuple.tupleExact _) (wpAny_newObj_type (wpAny_pure ⟨_, rfl, h⟩) hsz)
def rRepT (K : PySem.W.Frag) : R2 := fun x y H Q => ∃ l k xs, x = .ref l ∧ y = .int k ∧ SqT K H l xs ∧ xs ≠ [] ∧ 2 ≤ k ∧ xs.length * k.toNat ≤ 1000000 ∧ ∀ p, H p = none → Q (.ref p) (upd H p (.tup (List.replicate k.toNat xs).flatten))
theorem op_repT : OpR X (binaryOp .Mult) (rRepT X.K) := by
  intro pins s σ H x y v u Q I rx ry h
  obtain ⟨l, k, xs, rfl, rfl, hH, hne, h2, hz, q⟩ := h
  cases rx
  obtain ⟨t, rfl⟩ := (show ∃ t, u = Value.int k t from ry)
  obtain ⟨its, r, p1, z⟩ := I.tuple hH
  obtain ⟨⟨cls, dd, data, sl⟩, ho, hc, n, hd⟩ := id p1
  simp only at hc hd
  subst hc hd
  have hl := r.length
  have hm := million
  have hline : sizeLine = 16777216 := sizeLine_eq
  have hpos : 0 < its.length := by
    rw [← hl]
    exact List.length_pos_iff.mpr hne
  have hk : (k.toNat : Int) = k := by omega
  have hsz : (its.toArray.size : Int) * k ≤ 1000000 := by
    rw [List.size_toArray, ← hl, ← hk, ← Int.natCast_mul]
    omega
  have hk2 : k ≤ 1000000 := by
    have : (1 : Int) * k ≤ (its.toArray.size : Int) * k := Int.mul_le_mul_of_nonneg_right (by rw [List.size_toArray]; omega) (by omega)
    omega
  have f0 : List.foldl (fun x1 x2 => x1 ++ x2) #[] (List.replicate k.toNat its.toArray) = (List.replicate k.toNat its).flatten.toArray := by
    have := foldl_rep its k.toNat []
    rw [List.nil_append] at this
    exact this
  have hlen : (List.replicate k.toNat its).flatten.length ≤ 1000000 := by
    rw [len_rep, ← hl, Nat.mul_comm]
    exact hz
  have e1 : its.toArray.isEmpty = false := by
    cases its with
    | nil => simp at hpos
    | cons a b => rfl
  have hp63 : (2 : Int) ^ 63 = 9223372036854775808 := by decide
  refine wpAny_binaryOp_repeat_ref (T := "tuple") (U := "int") (by decide) ⟨_, ho, rfl⟩ (fun s' => typeIs_int s' k t) noFill_tuple_mul F.fills_int_mul F.slot_int_rmul repeat_tuple F.slot_int_index.lookup
    (call_meets F.slot_int_rmul (typeIs_int s k t) F.entry_int_rmul (F.args_int_rmul_2 _ _) (int_rmul_tuple k t l its.toArray n dd sl)
      ⟨ho, rfl, ⟨_, ho, rfl⟩, call_meets F.slot_tuple_mul ⟨_, ho, rfl⟩ F.entry_tuple_mul (F.args_tuple_mul_2 _ _) (tuple_mulW l its.toArray n dd sl k t (by simp; omega) (by rw [e1]; simp; omega) (by rw [e1]; simp; omega) (by omega) (by unfold Builtin.Tuple.tupleTooMany; rw [decide_eq_true_iff]; omega) (by rw [f0, List.size_toArray]; omega)) ⟨ho, ?_⟩⟩)
  rw [f0]
  refine ⟨.ref s.heap.objs.size, _, I.laid (t' := s.toks) (o := .tup (List.replicate k.toNat xs).flatten) (fun b ob q => Heap.get?_push_of_some _ q) (Nat.le_refl _) ?_, rfl, q _ (I.hok.fresh (Nat.le_refl _))⟩
  exact ⟨by rw [len_rep, Nat.mul_comm]; omega, _, r.rep k.toNat, IsTupN.new _ _⟩
end
end DL
set_option Elab.async false
set_option linter.all false
set_option maxRecDepth 100000
namespace DX
open PySem L2 DL
inductive Re (α β : Type) where
  | ok (a : α) (b : β)
  | ex (x : Xn) (b : β)
  | bad
section
variable {α β γ δ : Type}
def Re.bind (x : Re α β) (k : α → β → Re γ β) : Re γ β := match x with
  | .ok a b => k a b
  | .ex e b => .ex e b
  | .bad => .bad
@[simp ↓] theorem Re.bind_ok (a : α) (b : β) (k : α → β → Re γ β) : (Re.ok a b).bind k = k a b := Eq.trans rfl rfl
theorem Re.bind_inv {x : Re α β} {k : α → β → Re γ β} {c : γ} {b' : β} (h : x.bind k = .ok c b') : ∃ a b, x = .ok a b ∧ k a b = .ok c b' := by
  cases x with
  | ok a b => exact ⟨a, b, rfl, h⟩
  | ex e b => cases h
  | bad => cases h
def gd (c : Prop) [Decidable c] (x : Option α) : Option α := if c then x else none
theorem gd_ok {c : Prop} [Decidable c] (h : c) (x : Option α) : gd c x = x := if_pos h
@[simp ↓] theorem gd_true {h : Decidable True} (x : Option α) : @gd α True h x = x := if_pos trivial
theorem gd_inv {c : Prop} [Decidable c] {x : Option α} {y : α} (h : gd c x = some y) : c ∧ x = some y := by
  unfold gd at h
  split at h
  · exact ⟨by assumption, h⟩
  · cases h
def gr (c : Prop) [Decidable c] (x : Re α β) : Re α β := if c then x else .bad
theorem gr_ok {c : Prop} [Decidable c] (h : c) (x : Re α β) : gr c x = x := if_pos h
@[simp ↓] theorem gr_true {h : Decidable True} (x : Re α β) : @gr α β True h x = x := if_pos trivial
theorem gr_inv {c : Prop} [Decidable c] {x : Re α β} {y : α} {z : β} (h : gr c x = .ok y z) : c ∧ x = .ok y z := by
  unfold gr at h
  split at h
  · exact ⟨by assumption, h⟩
  · cases h
def ofO (x : Option α) (b : β) : Re α β := match x with | some a => .ok a b | none => .bad
@[simp ↓] theorem ofO_some (a : α) (b : β) : ofO (some a) b = .ok a b := Eq.trans rfl rfl
theorem ofO_inv {x : Option α} {b b' : β} {a : α} (h : ofO x b = .ok a b') : x = some a ∧ b' = b := by
  cases x with
  | some y => cases h; exact ⟨rfl, rfl⟩
  | none => cases h
def withX (r : R) (k : PyData → Re α β) : Re α β := match r.dat with | some d => k d | none => .bad
@[simp ↓] theorem withX_sh (d : PyData) (k : PyData → Re α β) : withX (.sh d) k = k d := Eq.trans rfl rfl
@[simp ↓] theorem withX_own (ds : List PyData) (k : PyData → Re α β) : withX (.own (.lst ds)) k = k (.list ds) := Eq.trans rfl rfl
theorem withX_inv {r : R} {k : PyData → Re α β} {c : α} {b : β} (h : withX r k = .ok c b) : ∃ d, r.dat = some d ∧ k d = .ok c b := by
  unfold withX at h
  split at h
  · exact ⟨_, by assumption, h⟩
  · cases h
theorem withD_mk {r : R} {k : PyData → Prop} {d : PyData} (h : r.dat = some d) (q : k d) : withD r k := by
  unfold withD
  rw [h]
  exact q
end
abbrev XX (α : Type) := Rho → Re α Rho
abbrev XE := XX R
abbrev XT := XX Bool
abbrev XA := XX (List PyData)
def toG {α : Type} (x : XX α) : Rho → (α → Rho → Prop) → Prop := fun ρ Q => ∃ a ρ', x ρ = .ok a ρ' ∧ Q a ρ'
theorem toG_mono {α : Type} (x : XX α) : ∀ ρ (Q Q' : α → Rho → Prop), (∀ r ρ', Q r ρ' → Q' r ρ') → toG x ρ Q → toG x ρ Q' := fun _ _ _ h ⟨a, ρ', e, q⟩ => ⟨a, ρ', e, h _ _ q⟩
abbrev EX (X : Cx) (e : Expr) (x : XE) : Prop := DE X e (toG x)
abbrev TX (X : Cx) (e : Expr) (x : XT) : Prop := DT X e (toG x)
abbrev WX (X : Cx) (e : Expr) (x : XT) : Prop := DW X e (toG x)
abbrev AX (X : Cx) (e : List Expr) (x : XA) : Prop := DA X e (toG x)
abbrev OX (X : Cx) (e : Option Expr) (x : XX (Option Int)) : Prop := DO X e (toG x)
section
variable {X : Cx} {a b c e : Expr} {es rest : List Expr} {pos p : Pos}
theorem deI {G G' : GE} (h : DE X e G) (m : MonoE G') (i : ∀ ρ Q, G' ρ Q → G ρ Q) : DE X e G' := ⟨m, peI h.pe fun σ H Q ⟨c, F, ρ, j, q⟩ => ⟨c, F, ρ, j, i _ _ q⟩⟩
theorem dtI {G G' : GT} (h : DT X e G) (m : MonoT G') (i : ∀ ρ Q, G' ρ Q → G ρ Q) : DT X e G' := ⟨m, ptI h.pt fun σ H Q ⟨c, F, ρ, j, q⟩ => ⟨c, F, ρ, j, i _ _ q⟩⟩
theorem dwI {G G' : GT} (h : DW X e G) (m : MonoT G') (i : ∀ ρ Q, G' ρ Q → G ρ Q) : DW X e G' := ⟨m, pwI h.pw fun σ H Q ⟨c, F, ρ, j, q⟩ => ⟨c, F, ρ, j, i _ _ q⟩⟩
theorem daI {G G' : GA} (h : DA X es G) (m : MonoA G') (i : ∀ ρ Q, G' ρ Q → G ρ Q) : DA X es G' := ⟨m, paI h.pa fun σ H Q ⟨c, F, ρ, j, q⟩ => ⟨c, F, ρ, j, i _ _ q⟩⟩
theorem exI {G : GE} {x : XE} (h : DE X e G) (i : ∀ ρ Q r ρ', x ρ = .ok r ρ' → Q r ρ' → G ρ Q) : EX X e x := deI h (toG_mono x) fun ρ Q ⟨r, ρ', e, q⟩ => i ρ Q r ρ' e q
theorem txI {G : GT} {x : XT} (h : DT X e G) (i : ∀ ρ Q r ρ', x ρ = .ok r ρ' → Q r ρ' → G ρ Q) : TX X e x := dtI h (toG_mono x) fun ρ Q ⟨r, ρ', e, q⟩ => i ρ Q r ρ' e q
theorem wxI {G : GT} {x : XT} (h : DW X e G) (i : ∀ ρ Q r ρ', x ρ = .ok r ρ' → Q r ρ' → G ρ Q) : WX X e x := dwI h (toG_mono x) fun ρ Q ⟨r, ρ', e, q⟩ => i ρ Q r ρ' e q
theorem axI {G : GA} {x : XA} (h : DA X es G) (i : ∀ ρ Q r ρ', x ρ = .ok r ρ' → Q r ρ' → G ρ Q) : AX X es x := daI h (toG_mono x) fun ρ Q ⟨r, ρ', e, q⟩ => i ρ Q r ρ' e q
def varX (s : Option (Option R)) (i : Nat) (ρ : Rho) : Re R Rho := match s with
  | some (some (.sh d)) => .ok (.sh d) ρ
  | some (some (.own (.lst ds))) => .ok (.sh (.list ds)) (ρ.set i (some (.sh (.list ds))))
  | _ => .bad
@[simp ↓] theorem varX_sh (d : PyData) (i : Nat) (ρ : Rho) : varX (some (some (.sh d))) i ρ = .ok (.sh d) ρ := Eq.trans rfl rfl
@[simp ↓] theorem varX_own (ds : List PyData) (i : Nat) (ρ : Rho) : varX (some (some (.own (.lst ds)))) i ρ = .ok (.sh (.list ds)) (ρ.set i (some (.sh (.list ds)))) := Eq.trans rfl rfl
def xVar (i : Nat) : XE := fun ρ => varX ρ[i]? i ρ
theorem xe_var {i : Nat} {x : Str} (h : PE X (.Name x pos) (tVar i)) : EX X (.Name x pos) (xVar i) := exI (de_var h) fun ρ Q r ρ' e q => by
  have go : ∀ s, ρ[i]? = s → varX s i ρ = .ok r ρ' → gVar i ρ Q := by
    intro s hs e
    unfold gVar
    rw [hs]
    match s, e with
    | some (some (.sh d)), e => cases e; exact q
    | some (some (.own (.lst ds))), e => cases e; exact q
    | some (some (.own (.dic ds))), e => cases e
    | some (some (.own (.exc ds))), e => cases e
    | some (some (.io o)), e => cases e
    | some (some (.new o)), e => cases e
    | some none, e => cases e
    | none, e => cases e
  exact go _ rfl e
def xC (d : PyData) : XE := fun ρ => .ok (.sh d) ρ
theorem xc_of {d : PyData} (h : DE X e (gC d)) : EX X e (xC d) := exI h fun ρ Q r ρ' e q => by cases e; exact q
theorem xe_int {i : Int} {k : Nat} : EX X (.Constant (.int i) k pos) (xC (.int i)) := xc_of de_int
theorem xe_bl {i : Bool} {k : Nat} : EX X (.Constant (.bool i) k pos) (xC (.bool i)) := xc_of de_bl
theorem xe_str {x : Str} {k : Nat} : EX X (.Constant (.str x) k pos) (xC (.str x)) := xc_of de_str
abbrev V2 := PyData → PyData → Option R
def xBin (w : V2) (a b : XE) : XE := fun ρ => (a ρ).bind fun r1 ρ1 => withX r1 fun d => (b ρ1).bind fun r2 ρ2 => withX r2 fun e => ofO (w d e) ρ2
def Lw (w : V2) (W : W2) : Prop := ∀ d e z Q, w d e = some z → Q z → W d e Q
theorem im_bin {w : V2} {W : W2} {a b : XE} (h : Lw w W) (ρ : Rho) (Q : KE) (r : R) (ρ' : Rho) (e : xBin w a b ρ = .ok r ρ') (q : Q r ρ') : gBin W (toG a) (toG b) ρ Q := by
  obtain ⟨r1, ρ1, e1, e⟩ := Re.bind_inv e
  obtain ⟨d, hd, e⟩ := withX_inv e
  obtain ⟨r2, ρ2, e2, e⟩ := Re.bind_inv e
  obtain ⟨d2, hd2, e⟩ := withX_inv e
  obtain ⟨e', rfl⟩ := ofO_inv e
  exact ⟨r1, ρ1, e1, withD_mk hd ⟨r2, _, e2, withD_mk hd2 (h _ _ _ _ e' q)⟩⟩
instance (i j : Int) : Decidable (CMul i j) := by unfold CMul; infer_instance
instance (i j : Int) : Decidable (CDiv i j) := by unfold CDiv; infer_instance
instance (i j : Int) : Decidable (CPowB i j) := by unfold CPowB; infer_instance
def vI (C : Int → Int → Prop) [∀ i j, Decidable (C i j)] (g : Int → Int → PyData) : V2
  | .int i, .int j => gd (C i j) (some (.sh (g i j)))
  | _, _ => none
theorem lw_I {C : Int → Int → Prop} [∀ i j, Decidable (C i j)] {g : Int → Int → PyData} : Lw (vI C g) (wI C g) := fun d e z Q h q => by
  unfold vI at h
  split at h
  · obtain ⟨c, h⟩ := gd_inv h
    cases h
    exact ⟨c, q⟩
  · cases h
@[simp ↓] theorem vI_int (C : Int → Int → Prop) [∀ i j, Decidable (C i j)] (g : Int → Int → PyData) (i j : Int) : vI C g (.int i) (.int j) = gd (C i j) (some (.sh (g i j))) := Eq.trans rfl rfl
abbrev vSub : V2 := vI (fun _ _ => True) fun i j => .int (i - j)
abbrev vDiv : V2 := vI CDiv fun i j => .int (i / j)
abbrev vMod : V2 := vI (fun _ j => 0 < j) fun i j => .int (i % j)
def vPow : V2 := vI CPowB fun i j => .int (i ^ j.toNat)
theorem lw_pow : Lw vPow (wI CPowB fun i j => .int (i ^ j.toNat)) := lw_I
theorem pow_ok {i j : Int} (h : CPowB i j) : vPow (.int i) (.int j) = some (.sh (.int (i ^ j.toNat))) := by rw [vPow, vI_int, gd_ok h]
abbrev vLt : V2 := vI (fun _ _ => True) fun i j => .bool (decide (i < j))
abbrev vGt : V2 := vI (fun _ _ => True) fun i j => .bool (decide (j < i))
abbrev vGe : V2 := vI (fun _ _ => True) fun i j => .bool (decide (j ≤ i))
def vAdd : V2
  | .int i, .int j => some (.sh (.int (i + j)))
  | .list xs, .list ys => gd (xs.length + ys.length ≤ 1000000) (some (.own (.lst (xs ++ ys))))
  | .str x, .str y => gd (x.length + y.length ≤ 1000000) (some (.sh (.str (x ++ y))))
  | .tuple xs, .tuple ys => gd (xs.length + ys.length ≤ 1000000) (some (.sh (.tuple (xs ++ ys))))
  | _, _ => none
@[simp ↓] theorem vAdd_int (i j : Int) : vAdd (.int i) (.int j) = some (.sh (.int (i + j))) := Eq.trans rfl rfl
@[simp ↓] theorem vAdd_list (xs ys : List PyData) : vAdd (.list xs) (.list ys) = gd (xs.length + ys.length ≤ 1000000) (some (.own (.lst (xs ++ ys)))) := Eq.trans rfl rfl
theorem lw_add : Lw vAdd wAddA := fun d e z Q h q => by
  unfold vAdd at h
  split at h
  · cases h; exact .inl q
  · obtain ⟨c, h⟩ := gd_inv h; cases h; exact .inl ⟨c, q⟩
  · obtain ⟨c, h⟩ := gd_inv h; cases h; exact .inl ⟨c, q⟩
  · obtain ⟨c, h⟩ := gd_inv h; cases h; exact .inr ⟨c, q⟩
  · cases h
def vEq (neg : Bool) : V2 := fun d e => gd (d.canLay0 = true ∧ e.canLay0 = true ∧ min d.depth e.depth < 200) (some (.sh (.bool (if neg then !PyData.eqv d e else PyData.eqv d e))))
theorem lw_eq {neg : Bool} : Lw (vEq neg) (wEq neg) := fun d e z Q h q => by
  obtain ⟨c, h⟩ := gd_inv h
  cases h
  exact ⟨c.1, c.2.1, c.2.2, q⟩
def vEqT : V2
  | .str x, .str y => some (.sh (.bool (decide (x = y))))
  | _, _ => none
@[simp ↓] theorem vEqT_str (x y : Str) : vEqT (.str x) (.str y) = some (.sh (.bool (decide (x = y)))) := Eq.trans rfl rfl
theorem lw_eqT : Lw vEqT wEqT := fun d e z Q h q => by
  unfold vEqT at h
  split at h
  · cases h; exact q
  · cases h
def inV (neg : Bool) (d : PyData) (ds : List PyData) : Option R := gd (d.canLay0 = true ∧ PyData.canLayAll0 ds = true ∧ min (PyData.depthAll ds) d.depth < 190) (some (.sh (.bool (if neg then !(ds.any fun y => PyData.eqv y d) else ds.any fun y => PyData.eqv y d))))
def vIn (neg : Bool) : V2
  | d, .list ds => inV neg d ds
  | d, .tuple ds => inV neg d ds
  | _, _ => none
@[simp ↓] theorem vIn_list (neg : Bool) (d : PyData) (ds : List PyData) : vIn neg d (.list ds) = inV neg d ds := Eq.trans rfl rfl
theorem inV_inv {neg : Bool} {d : PyData} {ds : List PyData} {z : R} {Q : R → Prop} (h : inV neg d ds = some z) (q : Q z) : inW neg d ds Q := by
  obtain ⟨c, h⟩ := gd_inv h
  cases h
  exact ⟨c.1, c.2.1, c.2.2, q⟩
theorem lw_in {neg : Bool} : Lw (vIn neg) (wIn neg) := fun d e z Q h q => by
  unfold vIn at h
  split at h
  · exact inV_inv h q
  · exact inV_inv h q
  · cases h
def ixX (ds : List PyData) (i : Int) : Option R := (atI ds i).map .sh
def vIx : V2
  | .tuple ds, .int i => ixX ds i
  | .list ds, .int i => ixX ds i
  | _, _ => none
@[simp ↓] theorem vIx_tuple (ds : List PyData) (i : Int) : vIx (.tuple ds) (.int i) = ixX ds i := Eq.trans rfl rfl
theorem ixX_inv {ds : List PyData} {i : Int} {z : R} (h : ixX ds i = some z) : ∃ d, atI ds i = some d ∧ z = .sh d := by
  unfold ixX at h
  cases e : atI ds i with
  | none => rw [e] at h; cases h
  | some d => rw [e] at h; cases h; exact ⟨d, rfl, rfl⟩
theorem lw_ix : Lw vIx wIx := fun d e z Q h q => by
  unfold vIx at h
  split at h
  · obtain ⟨d, h9, rfl⟩ := ixX_inv h
    show (match atI _ _ with | some d => Q (.sh d) | none => False)
    rw [h9]; exact q
  · obtain ⟨d, h9, rfl⟩ := ixX_inv h
    show (match atI _ _ with | some d => Q (.sh d) | none => False)
    rw [h9]; exact q
  · cases h
variable {xa xb xc : XE}
theorem xe_add (ha : EX X a xa) (hb : EX X b xb) : EX X (.BinOp a .Add b pos) (xBin vAdd xa xb) := exI (de_addA ha hb) (im_bin lw_add)
theorem xe_sub (ha : EX X a xa) (hb : EX X b xb) : EX X (.BinOp a .Sub b pos) (xBin vSub xa xb) := exI (de_sub ha hb) (im_bin lw_I)
theorem xe_fdiv (ha : EX X a xa) (hb : EX X b xb) : EX X (.BinOp a .FloorDiv b pos) (xBin vDiv xa xb) := exI (de_fdiv ha hb) (im_bin lw_I)
theorem xe_mod (ha : EX X a xa) (hb : EX X b xb) : EX X (.BinOp a .Mod b pos) (xBin vMod xa xb) := exI (de_mod ha hb) (im_bin lw_I)
theorem xe_pow (ha : EX X a xa) (hb : EX X b xb) : EX X (.BinOp a .Pow b pos) (xBin vPow xa xb) := exI (de_pow ha hb) (im_bin lw_pow)
theorem xe_gt (ha : EX X a xa) (hb : EX X b xb) : EX X (.Compare a [.Gt] [b] pos) (xBin vGt xa xb) := exI (de_gt ha hb) (im_bin lw_I)
theorem xe_ge (ha : EX X a xa) (hb : EX X b xb) : EX X (.Compare a [.GtE] [b] pos) (xBin vGe xa xb) := exI (de_ge ha hb) (im_bin lw_I)
theorem xe_eq {k : Nat} (hr : Room k X.A) (ha : EX X a xa) (hb : EX X b xb) : EX X (.Compare a [.Eq] [b] pos) (xBin (vEq false) xa xb) := exI (de_eq hr ha hb) (im_bin lw_eq)
theorem xe_eqT (ha : EX X a xa) (hb : EX X b xb) : EX X (.Compare a [.Eq] [b] pos) (xBin vEqT xa xb) := exI (de_eqT ha hb) (im_bin lw_eqT)
theorem xe_ix (ha : EX X a xa) (hb : EX X b xb) (hs : PlainIx b := by exact fun _ _ => rfl) : EX X (.Subscript a b pos) (xBin vIx xa xb) := exI (de_ix ha hb hs) (im_bin lw_ix)
def shX {α β : Type} (r : R) (k : PyData → Re α β) : Re α β := match r with | .sh d => k d | _ => .bad
@[simp ↓] theorem shX_sh {α β : Type} (d : PyData) (k : PyData → Re α β) : shX (.sh d) k = k d := Eq.trans rfl rfl
theorem shX_inv {α β : Type} {r : R} {k : PyData → Re α β} {c : α} {b : β} (h : shX r k = .ok c b) : ∃ d, r = .sh d ∧ k d = .ok c b := by
  unfold shX at h
  split at h
  · exact ⟨_, rfl, h⟩
  · cases h
def xSh (w : PyData → Option R) (a : XE) : XE := fun ρ => (a ρ).bind fun r1 ρ1 => shX r1 fun d => ofO (w d) ρ1
theorem xSh_inv {w : PyData → Option R} {a : XE} {ρ ρ' : Rho} {r : R} (e : xSh w a ρ = .ok r ρ') : ∃ d, a ρ = .ok (.sh d) ρ' ∧ w d = some r := by
  obtain ⟨r1, ρ1, e1, e⟩ := Re.bind_inv e
  obtain ⟨d, er, e'⟩ := shX_inv e
  subst er
  obtain ⟨e2, e3⟩ := ofO_inv e'
  subst e3
  exact ⟨d, e1, e2⟩
def vNeg : PyData → Option R | .int i => some (.sh (.int (-i))) | _ => none
def vNot : PyData → Option R | .bool i => some (.sh (.bool (!i))) | _ => none
@[simp ↓] theorem vNeg_int (i : Int) : vNeg (.int i) = some (.sh (.int (-i))) := Eq.trans rfl rfl
theorem xe_neg (ha : EX X a xa) : EX X (.UnaryOp .USub a pos) (xSh vNeg xa) := exI (de_neg ha) fun ρ Q r ρ' e q => by
  obtain ⟨d, e1, e⟩ := xSh_inv e
  unfold vNeg at e
  split at e
  · cases e; exact ⟨_, ρ', e1, q⟩
  · cases e
def blX {α β : Type} (r : R) (k : Bool → Re α β) : Re α β := match r with | .sh (.bool b) => k b | _ => .bad
@[simp ↓] theorem blX_b {α β : Type} (d : Bool) (k : Bool → Re α β) : blX (.sh (.bool d)) k = k d := Eq.trans rfl rfl
theorem blX_inv {α β : Type} {r : R} {k : Bool → Re α β} {c : α} {b : β} (h : blX r k = .ok c b) : ∃ d, r = .sh (.bool d) ∧ k d = .ok c b := by
  unfold blX at h
  split at h
  · exact ⟨_, rfl, h⟩
  · cases h
def iteX {α : Type} (b : Bool) (x y : α) : α := match b with | true => x | false => y
@[simp ↓] theorem iteX_true {α : Type} (x y : α) : iteX true x y = x := Eq.trans rfl rfl
@[simp ↓] theorem iteX_false {α : Type} (x y : α) : iteX false x y = y := Eq.trans rfl rfl
def xAndV (a b : XE) : XE := fun ρ => (a ρ).bind fun r ρ' => blX r fun t => iteX t (b ρ') (.ok (.sh (.bool false)) ρ')
theorem xe_one {op : BoolOp} (ha : EX X a xa) : EX X (.BoolOp op [a] pos) xa := de_one ha
theorem xe_and (ha : EX X a xa) (hb : EX X (.BoolOp .And (b :: rest) pos) xb) : EX X (.BoolOp .And (a :: b :: rest) pos) (xAndV xa xb) := exI (de_and ha hb) fun ρ Q r ρ' e q => by
  obtain ⟨r1, ρ1, e1, e⟩ := Re.bind_inv e
  obtain ⟨t, rfl, e⟩ := blX_inv e
  cases t
  · cases e; exact ⟨_, _, e1, q⟩
  · exact ⟨_, _, e1, _, _, e, q⟩
def xB (a : XE) : XT := fun ρ => (a ρ).bind fun r ρ' => blX r fun t => .ok t ρ'
theorem im_B {G : GE} (hG : ∀ ρ Q r ρ', xa ρ = .ok r ρ' → Q r ρ' → G ρ Q) (ρ : Rho) (Q : Bool → Rho → Prop) (t : Bool) (ρ' : Rho) (e : xB xa ρ = .ok t ρ') (q : Q t ρ') : gB G ρ Q := by
  obtain ⟨r1, ρ1, e1, e⟩ := Re.bind_inv e
  obtain ⟨t, rfl, e⟩ := blX_inv e
  cases e
  exact hG ρ _ _ _ e1 q
theorem im_id (ρ : Rho) (Q : KE) (r : R) (ρ' : Rho) (e : xa ρ = .ok r ρ') (q : Q r ρ') : toG xa ρ Q := ⟨r, ρ', e, q⟩
theorem tx_val (h : EX X e xa) (he : ∀ whole, isTrue e X.env whole = (do let v ← whole; standAt e.pos; holding [v] (truthy v)) := by intro _; rfl) : TX X e (xB xa) := txI (dt_val h he) (im_B im_id)
variable {ta tb : XT}
def xAnd (a b : XT) : XT := fun ρ => (a ρ).bind fun t ρ' => iteX t (b ρ') (.ok false ρ')
def xNt (a : XT) : XT := fun ρ => (a ρ).bind fun t ρ' => .ok (!t) ρ'
theorem tx_w {T : XT} (h : WX X e T) : TX X e T := dt_w h
theorem wx_and1 (ha : TX X a ta) : WX X (.BoolOp .And [a] pos) ta := dw_and1 ha
theorem wx_and (ha : TX X a ta) (hb : WX X (.BoolOp .And (b :: rest) pos) tb) : WX X (.BoolOp .And (a :: b :: rest) pos) (xAnd ta tb) := wxI (dw_and ha hb) fun ρ Q r ρ' e q => by
  obtain ⟨t, ρ1, e1, e⟩ := Re.bind_inv e
  refine ⟨t, ρ1, e1, ?_⟩
  cases t
  · cases e; simpa using q
  · simpa using ⟨_, _, e, q⟩
theorem tx_not (ha : TX X a ta) : TX X (.UnaryOp .Not a pos) (xNt ta) := txI (dt_not ha) fun ρ Q r ρ' e q => by
  obtain ⟨t, ρ1, e1, e⟩ := Re.bind_inv e
  cases e
  exact ⟨t, _, e1, q⟩
def xIfE (t : XT) (a b : XE) : XE := fun ρ => (t ρ).bind fun k ρ' => iteX k (a ρ') (b ρ')
theorem xe_ifE {t : Expr} (ht : TX X t ta) (ha : EX X a xa) (hb : EX X b xb) : EX X (.IfExp t a b pos) (xIfE ta xa xb) := exI (de_ifE ht ha hb) fun ρ Q r ρ' e q => by
  obtain ⟨t, ρ1, e1, e⟩ := Re.bind_inv e
  refine ⟨t, ρ1, e1, ?_⟩
  cases t
  · simpa using ⟨_, _, e, q⟩
  · simpa using ⟨_, _, e, q⟩
theorem tx_lt (ha : EX X a xa) (hb : EX X b xb) : TX X (.Compare a [.Lt] [b] pos) (xB (xBin vLt xa xb)) := txI (dt_lt ha hb) (im_B (im_bin lw_I))
theorem tx_gt (ha : EX X a xa) (hb : EX X b xb) : TX X (.Compare a [.Gt] [b] pos) (xB (xBin vGt xa xb)) := txI (dt_gt ha hb) (im_B (im_bin lw_I))
theorem tx_eq {k : Nat} (hr : Room k X.A) (ha : EX X a xa) (hb : EX X b xb) : TX X (.Compare a [.Eq] [b] pos) (xB (xBin (vEq false) xa xb)) := txI (dt_eq hr ha hb) (im_B (im_bin lw_eq))
theorem tx_ne {k : Nat} (hr : Room k X.A) (ha : EX X a xa) (hb : EX X b xb) : TX X (.Compare a [.NotEq] [b] pos) (xB (xBin (vEq true) xa xb)) := txI (dt_ne hr ha hb) (im_B (im_bin lw_eq))
theorem tx_inL {k : Nat} (hr : Room k X.A) (ha : EX X a xa) (hb : EX X b xb) (hm : behindInMarks .In b = false := by rfl) : TX X (.Compare a [.In] [b] pos) (xB (xBin (vIn false) xa xb)) := txI (dt_inL hr ha hb hm) (im_B (im_bin lw_in))
def xNil : XA := fun ρ => .ok [] ρ
def xCons (a : XE) (t : XA) : XA := fun ρ => (a ρ).bind fun r ρ1 => withX r fun d => (t ρ1).bind fun ds ρ2 => .ok (d :: ds) ρ2
theorem ax_nil : AX X [] xNil := axI da_nil fun ρ Q r ρ' e q => by cases e; exact q
theorem ax_cons {t : XA} (ha : EX X e xa) (ht : AX X es t) (hs : starEach (e :: es) X.env = (false, eval e X.env) :: starEach es X.env := by rfl) : AX X (e :: es) (xCons xa t) := axI (da_cons ha ht hs) fun ρ Q r ρ' e q => by
  obtain ⟨r1, ρ1, e1, e⟩ := Re.bind_inv e
  obtain ⟨d, hd, e⟩ := withX_inv e
  obtain ⟨ds, ρ2, e2, e⟩ := Re.bind_inv e
  cases e
  exact ⟨r1, ρ1, e1, withD_mk hd ⟨ds, _, e2, q⟩⟩
def xLst (t : XA) : XE := fun ρ => (t ρ).bind fun ds ρ' => gr (ds.length ≤ 1000) (.ok (.own (.lst ds)) ρ')
def xTup (t : XA) : XE := fun ρ => (t ρ).bind fun ds ρ' => gr (ds.length ≤ 1000) (.ok (.sh (.tuple ds)) ρ')
theorem xe_lst {t : XA} (h : AX X es t) : EX X (.List es pos) (xLst t) := exI (de_lst h) fun ρ Q r ρ' e q => by
  obtain ⟨ds, ρ1, e1, e⟩ := Re.bind_inv e
  obtain ⟨c, e⟩ := gr_inv e
  cases e
  exact ⟨_, _, e1, c, q⟩
theorem xe_tup {t : XA} {k : Nat} (h : AX X es t) : EX X (.Tuple es k pos) (xTup t) := exI (de_tup h) fun ρ Q r ρ' e q => by
  obtain ⟨ds, ρ1, e1, e⟩ := Re.bind_inv e
  obtain ⟨c, e⟩ := gr_inv e
  cases e
  exact ⟨_, _, e1, c, q⟩
end
end DX
set_option Elab.async false
set_option linter.all false
set_option maxRecDepth 100000
namespace DX
open PySem L2 DL
abbrev VC := List PyData → Option R
def Lc (v : VC) (W : WC) : Prop := ∀ ds z Q, v ds = some z → Q z → W ds Q
def xBlt (v : VC) (t : XA) : XE := fun ρ => (t ρ).bind fun ds ρ' => ofO (v ds) ρ'
theorem im_blt {v : VC} {W : WC} {t : XA} (h : Lc v W) (ρ : Rho) (Q : KE) (r : R) (ρ' : Rho) (e : xBlt v t ρ = .ok r ρ') (q : Q r ρ') : gBlt W (toG t) ρ Q := by
  obtain ⟨ds, ρ1, e1, e2⟩ := Re.bind_inv e
  obtain ⟨e3, e4⟩ := ofO_inv e2
  subst e4
  exact ⟨ds, _, e1, h _ _ _ e3 q⟩
def vLen : VC
  | [.list ds] => some (.sh (.int ds.length))
  | [.tuple ds] => some (.sh (.int ds.length))
  | _ => none
def vI2 (g : Int → Int → Int) : VC
  | [.int i, .int j] => some (.sh (.int (g i j)))
  | _ => none
@[simp ↓] theorem vI2_int (g : Int → Int → Int) (i j : Int) : vI2 g [.int i, .int j] = some (.sh (.int (g i j))) := Eq.trans rfl rfl
theorem lc_I2 {g : Int → Int → Int} : Lc (vI2 g) (wI2 g) := fun ds z Q h q => by
  unfold vI2 at h
  split at h
  · cases h; exact q
  · cases h
abbrev vMin2 : VC := vI2 fun i j => if j < i then j else i
abbrev vMax2 : VC := vI2 fun i j => if j > i then j else i
def vAbs : VC
  | [.int i] => some (.sh (.int (if i < 0 then -i else i)))
  | _ => none
@[simp ↓] theorem vAbs_int (i : Int) : vAbs [.int i] = some (.sh (.int (if i < 0 then -i else i))) := Eq.trans rfl rfl
theorem lc_abs : Lc vAbs wAbs := fun ds z Q h q => by
  unfold vAbs at h
  split at h
  · cases h; exact q
  · cases h
def vInt : VC
  | [.int i] => some (.sh (.int i))
  | [.bool b] => some (.sh (.int (if b then 1 else 0)))
  | _ => none
@[simp ↓] theorem vInt_bool (b : Bool) : vInt [.bool b] = some (.sh (.int (if b then 1 else 0))) := Eq.trans rfl rfl
theorem lc_int : Lc vInt wInt := fun ds z Q h q => by
  unfold vInt at h
  split at h
  · cases h; exact q
  · cases h; exact q
  · cases h
def strX (d : PyData) : Option R := gd (d.showable = true ∧ d.hasDict = false ∧ d.depth < 190 ∧ d.shown.length ≤ 1000000) (some (.sh (.str d.shown)))
section
variable {X : Cx} {a b c e : Expr} {es rest : List Expr} {pos p : Pos} {t : XA}
theorem xe_min2 (hcm : X.calm = true) (hg : Gl X "min") (hm : X.mg "min" = none) (h : AX X [a, b] t) (he : starEach [a, b] X.env = (false, eval a X.env) :: starEach [b] X.env := by rfl) (hpl : (backTo pos (starEach [b] X.env)).any (·.1) = false := by rfl) : EX X (.Call (.Name "min" p) [a, b] [] pos) (xBlt vMin2 t) := exI (de_min2 hcm hg hm h he hpl) (im_blt lc_I2)
theorem xe_max2 (hcm : X.calm = true) (hg : Gl X "max") (hm : X.mg "max" = none) (h : AX X [a, b] t) (he : starEach [a, b] X.env = (false, eval a X.env) :: starEach [b] X.env := by rfl) (hpl : (backTo pos (starEach [b] X.env)).any (·.1) = false := by rfl) : EX X (.Call (.Name "max" p) [a, b] [] pos) (xBlt vMax2 t) := exI (de_max2 hcm hg hm h he hpl) (im_blt lc_I2)
theorem xe_abs (hg : Gl X "abs") (hm : X.mg "abs" = none) (h : AX X [a] t) (he : starEach [a] X.env = [(false, eval a X.env)] := by rfl) (hpl : (backTo pos (starEach [] X.env)).any (·.1) = false := by rfl) : EX X (.Call (.Name "abs" p) [a] [] pos) (xBlt vAbs t) := exI (de_abs hg hm h he hpl) (im_blt lc_abs)
theorem xe_intB (hg : Gl X "int") (hm : X.mg "int" = none) (h : AX X [a] t) (he : starEach [a] X.env = [(false, eval a X.env)] := by rfl) (hpl : (backTo pos (starEach [] X.env)).any (·.1) = false := by rfl) : EX X (.Call (.Name "int" p) [a] [] pos) (xBlt vInt t) := exI (de_intB hg hm h he hpl) (im_blt lc_int)
end
section
variable {α β : Type}
def ownX (s : Option (Option R)) (k : OO → (OO → R) → Re α β) : Re α β := match s with
  | some (some (.own o)) => k o .own
  | some (some (.io o)) => k o .io
  | _ => .bad
@[simp ↓] theorem ownX_own (o : OO) (k : OO → (OO → R) → Re α β) : ownX (some (some (.own o))) k = k o .own := Eq.trans rfl rfl
@[simp ↓] theorem ownX_io (o : OO) (k : OO → (OO → R) → Re α β) : ownX (some (some (.io o))) k = k o .io := Eq.trans rfl rfl
theorem ownX_inv {ρ : Rho} {i : Nat} {k : OO → (OO → R) → Re α β} {a : α} {b : β} (h : ownX ρ[i]? k = .ok a b) : ∃ o w, k o w = .ok a b ∧ ∀ K : OO → (OO → R) → Prop, K o w → ownAt ρ i K := by
  unfold ownX at h
  split at h
  · next o e => exact ⟨o, _, h, fun K q => by unfold ownAt; rw [e]; exact q⟩
  · next o e => exact ⟨o, _, h, fun K q => by unfold ownAt; rw [e]; exact q⟩
  · cases h
def lstX (o : OO) (k : List PyData → Re α β) : Re α β := match o with | .lst ds => k ds | _ => .bad
@[simp ↓] theorem lstX_lst (ds : List PyData) (k : List PyData → Re α β) : lstX (.lst ds) k = k ds := Eq.trans rfl rfl
theorem lstX_inv {o : OO} {k : List PyData → Re α β} {a : α} {b : β} (h : lstX o k = .ok a b) : ∃ ds, o = .lst ds ∧ k ds = .ok a b := by
  unfold lstX at h
  split at h
  · exact ⟨_, rfl, h⟩
  · cases h
def seqX (s : Option (Option R)) (k : List PyData → Re α β) : Re α β := match s with
  | some (some (.own (.lst ds))) => k ds
  | some (some (.io (.lst ds))) => k ds
  | some (some (.sh (.list ds))) => k ds
  | some (some (.sh (.tuple ds))) => k ds
  | _ => .bad
@[simp ↓] theorem seqX_own (ds : List PyData) (k : List PyData → Re α β) : seqX (some (some (.own (.lst ds)))) k = k ds := Eq.trans rfl rfl
@[simp ↓] theorem seqX_io (ds : List PyData) (k : List PyData → Re α β) : seqX (some (some (.io (.lst ds)))) k = k ds := Eq.trans rfl rfl
@[simp ↓] theorem seqX_list (ds : List PyData) (k : List PyData → Re α β) : seqX (some (some (.sh (.list ds)))) k = k ds := Eq.trans rfl rfl
@[simp ↓] theorem seqX_tuple (ds : List PyData) (k : List PyData → Re α β) : seqX (some (some (.sh (.tuple ds)))) k = k ds := Eq.trans rfl rfl
theorem seqX_inv {ρ : Rho} {i : Nat} {k : List PyData → Re α β} {a : α} {b : β} (h : seqX ρ[i]? k = .ok a b) : ∃ ds, k ds = .ok a b ∧ ∀ K : List PyData → Prop, K ds → seqAt ρ i K := by
  unfold seqX at h
  split at h
  all_goals first | (next o e => exact ⟨o, h, fun K q => by unfold seqAt; rw [e]; exact q⟩) | cases h
def intX (d : PyData) (k : Int → Re α β) : Re α β := match d with | .int i => k i | _ => .bad
@[simp ↓] theorem intX_int (i : Int) (k : Int → Re α β) : intX (.int i) k = k i := Eq.trans rfl rfl
theorem intX_inv {d : PyData} {k : Int → Re α β} {a : α} {b : β} (h : intX d k = .ok a b) : ∃ i, d = .int i ∧ k i = .ok a b := by
  unfold intX at h
  split at h
  · exact ⟨_, rfl, h⟩
  · cases h
end
def xIxU (i : Nat) (b : XE) : XE := fun ρ => seqX ρ[i]? fun _ => (b ρ).bind fun r ρ1 => withX r fun d => seqX ρ1[i]? fun ds => intX d fun k => ofO (ixX ds k) ρ1
def xLenU (i : Nat) : XE := fun ρ => seqX ρ[i]? fun ds => .ok (.sh (.int ds.length)) ρ
section
variable {X : Cx} {a b c e : Expr} {es rest : List Expr} {pos p py : Pos} {t : XA} {y : Str} {i : Nat} {xa xb : XE}
theorem xe_ixU (hy : PE X (.Name y py) (tVar i)) (hb : EX X b xb) (hs : PlainIx b := by exact fun _ _ => rfl) : EX X (.Subscript (.Name y py) b pos) (xIxU i xb) := exI (de_ixU hy hb hs) fun ρ Q r ρ' e q => by
  obtain ⟨ds, f1, k1⟩ := seqX_inv e
  obtain ⟨r1, ρ1, e1, f2⟩ := Re.bind_inv f1
  obtain ⟨d, hd, f3⟩ := withX_inv f2
  obtain ⟨ds2, f4, k2⟩ := seqX_inv f3
  obtain ⟨k, hk, f5⟩ := intX_inv f4
  subst hk
  obtain ⟨f6, f7⟩ := ofO_inv f5
  subst f7
  obtain ⟨z, f8, f9⟩ := ixX_inv f6
  subst f9
  exact k1 _ ⟨r1, _, e1, withD_mk hd (k2 _ (by simp only [f8]; exact q))⟩
theorem xe_lenU (hg : Gl X "len") (hm : X.mg "len" = none) (hy : PE X (.Name y py) (tVar i)) (hs : starEach [.Name y py] X.env = [(false, eval (.Name y py) X.env)] := by rfl) (hpl : (backTo pos (starEach [] X.env)).any (·.1) = false := by rfl) :
    EX X (.Call (.Name "len" p) [.Name y py] [] pos) (xLenU i) := exI (de_lenU hg hm hy hs hpl) fun ρ Q r ρ' e q => by
  obtain ⟨ds, f1, k1⟩ := seqX_inv e
  cases f1
  exact k1 _ q
abbrev VM := List PyData → List PyData → Option (R × List PyData)
def Lm (v : VM) (W : Cp) : Prop := ∀ xs ds z ys Q, v xs ds = some (z, ys) → Q z (.lst ys) → W (.lst xs) ds Q
def xMeth (v : VM) (i : Nat) (t : XA) : XE := fun ρ => ownX ρ[i]? fun o _ => lstX o fun _ => (t ρ).bind fun ds ρ1 => ownX ρ1[i]? fun o w => lstX o fun xs => (ofO (v xs ds) ρ1).bind fun z ρ1 => .ok z.1 (ρ1.set i (some (w (.lst z.2))))
theorem im_meth {v : VM} {W : Cp} {i : Nat} {t : XA} (h : Lm v W) (ρ : Rho) (Q : KE) (r : R) (ρ' : Rho) (e : xMeth v i t ρ = .ok r ρ') (q : Q r ρ') : gMeth W i (toG t) ρ Q := by
  obtain ⟨o, w, f1, k1⟩ := ownX_inv e
  obtain ⟨ds, ho, f2⟩ := lstX_inv f1
  subst ho
  obtain ⟨vs, ρ1, e1, f3⟩ := Re.bind_inv f2
  obtain ⟨o2, w2, f4, k2⟩ := ownX_inv f3
  obtain ⟨xs, ho, f5⟩ := lstX_inv f4
  subst ho
  obtain ⟨z, ρ2, f6, f7⟩ := Re.bind_inv f5
  obtain ⟨f8, f9⟩ := ofO_inv f6
  subst f9
  cases f7
  exact k1 _ ⟨trivial, vs, _, e1, k2 _ ⟨trivial, h _ _ _ _ _ f8 q⟩⟩
def vAppend : VM := fun xs ds => match ds with | [d] => gd (xs.length < 1000000) (some (.sh .none, xs ++ [d])) | _ => none
@[simp ↓] theorem vAppend_one (xs : List PyData) (d : PyData) : vAppend xs [d] = gd (xs.length < 1000000) (some (.sh .none, xs ++ [d])) := Eq.trans rfl rfl
theorem lm_append : Lm vAppend wAppend := fun xs ds z ys Q h q => by
  unfold vAppend at h
  split at h
  · obtain ⟨c, h⟩ := gd_inv h; cases h; exact ⟨c, q⟩
  · cases h
variable {apos cpos : Pos}
theorem xe_append (hy : PE X (.Name y py) (tVar i)) (ha : AX X [a] t) (hbase : attributeBase (.Name y py) "append" X.env (eval (.Name y py) X.env) = eval (.Name y py) X.env := by rfl)
    (hfew : ((backTo cpos (starEach [a] X.env)).all (fun x => !x.1) && (backToKw cpos (keywordEach [] X.env)).all (fun x => x.1.isSome) && decide ([a].length + ([] : List Keyword).length + (if ([] : List Keyword).isEmpty then 0 else 1) < 30)) = true := by rfl)
    (hline : (apos.endLine == cpos.line) = true := by rfl) (hs : starEach [a] X.env = [(false, eval a X.env)] := by rfl) (hplain : (backTo cpos (starEach [] X.env)).any (·.1) = false := by rfl) : EX X (.Call (.Attribute (.Name y py) "append" apos) [a] [] cpos) (xMeth vAppend i t) :=
  exI (de_append hy ha hbase hfew hline hs hplain) (im_meth lm_append)
def xoN : XX (Option Int) := fun ρ => .ok none ρ
def xoS (a : XE) : XX (Option Int) := fun ρ => (a ρ).bind fun r ρ' => shX r fun d => intX d fun i => .ok (some i) ρ'
theorem oxI {e : Option Expr} {G : GO} {x : XX (Option Int)} (h : DO X e G) (i : ∀ ρ Q r ρ', x ρ = .ok r ρ' → Q r ρ' → G ρ Q) : OX X e x := ⟨toG_mono x, poI h.po fun σ H Q ⟨c, F, ρ, j, a, ρ', e, q⟩ => ⟨c, F, ρ, j, i _ _ _ _ e q⟩⟩
theorem ox_none : OX X none xoN := oxI do_none fun ρ Q r ρ' e q => by cases e; exact q
theorem ox_some (h : EX X a xa) : OX X (some a) (xoS xa) := oxI (do_some h) fun ρ Q r ρ' e q => by
  obtain ⟨r1, ρ1, e1, f1⟩ := Re.bind_inv e
  obtain ⟨d, hd, f2⟩ := shX_inv f1
  subst hd
  obtain ⟨k, hk, f3⟩ := intX_inv f2
  subst hk
  cases f3
  exact ⟨_, _, e1, q⟩
def cutX (d : PyData) (lo hi : Option Int) : Option R := match d with
  | .list ds => some (.own (.lst (cutD ds lo hi)))
  | .tuple ds => some (.sh (.tuple (cutD ds lo hi)))
  | _ => none
@[simp ↓] theorem cutX_list (ds : List PyData) (lo hi : Option Int) : cutX (.list ds) lo hi = some (.own (.lst (cutD ds lo hi))) := Eq.trans rfl rfl
def xSl (a : XE) (l u : XX (Option Int)) : XE := fun ρ => (a ρ).bind fun r ρ1 => withX r fun d => (l ρ1).bind fun lo ρ2 => (u ρ2).bind fun hi ρ3 => ofO (cutX d lo hi) ρ3
theorem xe_slL {lo hi : Option Expr} {l u : XX (Option Int)} {p2 : Pos} (ha : EX X a xa) (hl : OX X lo l) (hu : OX X hi u) : EX X (.Subscript a (.Slice lo hi none p2) pos) (xSl xa l u) := exI (de_slA ha hl hu) fun ρ Q r ρ' e q => by
  obtain ⟨r1, ρ1, e1, f1⟩ := Re.bind_inv e
  obtain ⟨d, hd, f2⟩ := withX_inv f1
  obtain ⟨lo, ρ2, e2, f3⟩ := Re.bind_inv f2
  obtain ⟨hi, ρ3, e3, f4⟩ := Re.bind_inv f3
  obtain ⟨f5, f6⟩ := ofO_inv f4
  subst f6
  refine ⟨_, _, e1, withD_mk hd ⟨_, _, e2, _, _, e3, ?_⟩⟩
  cases d with
  | list ds => cases f5; exact q
  | tuple ds => cases f5; exact q
  | _ => cases f5
abbrev Fn := List PyData → Re R Unit
abbrev Fp := OO → List PyData → Re R OO
def Re.at {α β : Type} (x : Re α Unit) (b : β) : Re α β := match x with | .ok a _ => .ok a b | .ex e _ => .ex e b | .bad => .bad
@[simp ↓] theorem Re.at_ok {α β : Type} (a : α) (u : Unit) (b : β) : (Re.ok a u).at b = .ok a b := Eq.trans rfl rfl
@[simp ↓] theorem Re.at_ex {α β : Type} (e : Xn) (u : Unit) (b : β) : (Re.ex e u : Re α Unit).at b = .ex e b := Eq.trans rfl rfl
theorem Re.at_inv {α β : Type} {x : Re α Unit} {a : α} {b b' : β} (h : x.at b = .ok a b') : x = .ok a () ∧ b' = b := by
  cases x with
  | ok a u => cases h; exact ⟨rfl, rfl⟩
  | ex e u => cases h
  | bad => cases h
def cD (f : Fn) : Ct := fun ds Q => ∃ r, f ds = .ok r () ∧ Q r
theorem cD_mono {f : Fn} : MonoC (cD f) := fun _ _ _ h ⟨r, e, q⟩ => ⟨r, e, h _ q⟩
def cP (f : Fp) : Cp := fun o ds Q => ∃ r o', f o ds = .ok r o' ∧ Q r o'
theorem cP_mono {f : Fp} : MonoP (cP f) := fun _ _ _ _ h ⟨r, o, e, q⟩ => ⟨r, o, e, h _ _ q⟩
def xCall (f : Fn) (t : XA) : XE := fun ρ => (t ρ).bind fun ds ρ' => (f ds).at ρ'
def Re.put (x : Re R OO) (ρ : Rho) (i : Nat) (w : OO → R) : Re R Rho := match x with | .ok r o => .ok r (ρ.set i (some (w o))) | .ex e o => .ex e (ρ.set i (some (w o))) | .bad => .bad
@[simp ↓] theorem Re.put_ok (r : R) (o : OO) (ρ : Rho) (i : Nat) (w : OO → R) : (Re.ok r o).put ρ i w = .ok r (ρ.set i (some (w o))) := Eq.trans rfl rfl
theorem Re.put_inv {x : Re R OO} {ρ ρ' : Rho} {i : Nat} {w : OO → R} {r : R} (h : x.put ρ i w = .ok r ρ') : ∃ o, x = .ok r o ∧ ρ' = ρ.set i (some (w o)) := by
  cases x with
  | ok a u => cases h; exact ⟨_, rfl, rfl⟩
  | ex e u => cases h
  | bad => cases h
def xCallO (f : Fp) (i : Nat) (t : XA) : XE := fun ρ => ownX ρ[i]? fun _ _ => (t ρ).bind fun ds ρ1 => ownX ρ1[i]? fun o w => (f o ds).put ρ1 i w
def Re.drop {α β γ : Type} (x : Re α β) (b : γ) : Re α γ := match x with | .ok a _ => .ok a b | .ex e _ => .ex e b | .bad => .bad
@[simp ↓] theorem Re.drop_ok {α β γ : Type} (a : α) (u : β) (b : γ) : (Re.ok a u).drop b = .ok a b := Eq.trans rfl rfl
theorem Re.drop_inv {α β γ : Type} {x : Re α β} {a : α} {b b' : γ} (h : x.drop b = .ok a b') : ∃ u, x = .ok a u ∧ b' = b := by
  cases x with
  | ok a u => cases h; exact ⟨u, rfl, rfl⟩
  | ex e u => cases h
  | bad => cases h
def owX {α β : Type} (r : R) (k : OO → Re α β) : Re α β := match r with | .own o => k o | _ => .bad
@[simp ↓] theorem owX_own {α β : Type} (o : OO) (k : OO → Re α β) : owX (.own o) k = k o := Eq.trans rfl rfl
theorem owX_inv {α β : Type} {r : R} {k : OO → Re α β} {a : α} {b : β} (h : owX r k = .ok a b) : ∃ o, r = .own o ∧ k o = .ok a b := by
  unfold owX at h
  split at h
  · exact ⟨_, rfl, h⟩
  · cases h
def xCallT (f : Fp) (a : XE) : XE := fun ρ => (a ρ).bind fun r ρ1 => owX r fun o => (f o []).drop ρ1
variable {x : Str} {ps : List Str} {k k' : Nat}
theorem xe_callC {bq : Bool} {f : Fn} (cal : CalB bq X.prog X.w X.K X.mg X.base k x ps (spD X.K (cD f))) (hr : Room k' X.A) (hk : k ≤ k') (hg : Gl X x) (ha : AX X (e :: es) t) (hdb : (x == ("__debug__" : Str)) = false := by decide) (he : starEach (e :: es) X.env = (false, eval e X.env) :: starEach es X.env := by rfl) (hpl : (backTo pos (starEach es X.env)).any (·.1) = false := by rfl) (hqt : Qt bq X := by first | exact qt_any rfl | exact qt_hush rfl) : EX X (.Call (.Name x p) (e :: es) [] pos) (xCall f t) :=
  exI (de_callC cD_mono hqt cal hr hk hg ha hdb he hpl) fun ρ Q r ρ' e q => by
  obtain ⟨ds, ρ1, e1, f1⟩ := Re.bind_inv e
  obtain ⟨f2, f3⟩ := Re.at_inv f1
  subst f3
  exact ⟨ds, _, e1, r, f2, q⟩
theorem xe_callCO {bq : Bool} {f : Fp} (cal : CalB bq X.prog X.w X.K X.mg X.base k x ps (spP X.K (cP f))) (hr : Room k' X.A) (hk : k ≤ k') (hg : Gl X x) (hy : PE X (.Name y py) (tVar i)) (ha : AX X es t) (hs : starEach (.Name y py :: es) X.env = (false, eval (.Name y py) X.env) :: starEach es X.env := by rfl)
    (hdb : (x == ("__debug__" : Str)) = false := by decide) (hpl : (backTo pos (starEach es X.env)).any (·.1) = false := by rfl) (hqt : Qt bq X := by first | exact qt_any rfl | exact qt_hush rfl) : EX X (.Call (.Name x p) (.Name y py :: es) [] pos) (xCallO f i t) :=
  exI (de_callCO cP_mono hqt cal hr hk hg hy ha hs hdb hpl) fun ρ Q r ρ' e q => by
  obtain ⟨o, w, f1, k1⟩ := ownX_inv e
  obtain ⟨ds, ρ1, e1, f2⟩ := Re.bind_inv f1
  obtain ⟨o2, w2, f3, k2⟩ := ownX_inv f2
  obtain ⟨o3, f4, f5⟩ := Re.put_inv f3
  subst f5
  exact k1 _ ⟨ds, ρ1, e1, k2 _ ⟨r, o3, f4, q⟩⟩
theorem xe_callCT {bq : Bool} {f : Fp} (cal : CalB bq X.prog X.w X.K X.mg X.base k x ps (spP X.K (cP f))) (hr : Room k' X.A) (hk : k ≤ k') (hg : Gl X x) (ha : EX X a xa) (hs : starEach [a] X.env = [(false, eval a X.env)] := by rfl)
    (hdb : (x == ("__debug__" : Str)) = false := by decide) (hpl : (backTo pos (starEach [] X.env)).any (·.1) = false := by rfl) (hqt : Qt bq X := by first | exact qt_any rfl | exact qt_hush rfl) : EX X (.Call (.Name x p) [a] [] pos) (xCallT f xa) :=
  exI (de_callCT cP_mono hqt cal hr hk hg ha hs hdb hpl) fun ρ Q r ρ' e q => by
  obtain ⟨r1, ρ1, e1, f1⟩ := Re.bind_inv e
  obtain ⟨o, ho, f2⟩ := owX_inv f1
  subst ho
  obtain ⟨u, f3, f4⟩ := Re.drop_inv f2
  subst f4
  exact ⟨_, _, e1, r, u, f3, q⟩
end
end DX
set_option Elab.async false
set_option linter.all false
set_option maxRecDepth 100000
namespace DX
open PySem L2 DL
inductive Ou where
  | nx (ρ : Rho) | rt (r : R) (ρ : Rho) | bk (ρ : Rho) | ct (ρ : Rho) | ex (x : Xn) (ρ : Rho) | bad
abbrev XS := Rho → Ou
def toS (x : XS) : GS := fun ρ E => match x ρ with
  | .nx ρ' => E.nx ρ'
  | .rt r ρ' => E.rt r ρ'
  | .bk ρ' => E.bk ρ'
  | .ct ρ' => E.ct ρ'
  | .ex _ _ => False
  | .bad => False
theorem toS_mono (x : XS) : MonoS (toS x) := fun ρ E E' le q => by
  unfold toS at *
  split <;> simp_all
  · exact le.nx _ q
  · exact le.rt _ _ q
  · exact le.bk _ q
  · exact le.ct _ q
def Re.to {α : Type} (x : Re α Rho) (k : α → Rho → Ou) : Ou := match x with | .ok a ρ => k a ρ | .ex e ρ => .ex e ρ | .bad => .bad
@[simp ↓] theorem Re.to_ok {α : Type} (a : α) (ρ : Rho) (k : α → Rho → Ou) : (Re.ok a ρ).to k = k a ρ := Eq.trans rfl rfl
@[simp ↓] theorem Re.to_ex {α : Type} (e : Xn) (ρ : Rho) (k : α → Rho → Ou) : (Re.ex e ρ).to k = .ex e ρ := Eq.trans rfl rfl
theorem to_toS {α : Type} {x : XX α} {k : α → XS} {ρ : Rho} {E : Ek} (h : toS (fun ρ => (x ρ).to fun a => k a) ρ E) : toG x ρ fun a ρ' => toS (k a) ρ' E := by
  unfold toS at h
  cases e : x ρ with
  | ok a ρ' => simp only [e, Re.to] at h; exact ⟨a, ρ', e, h⟩
  | ex z ρ' => simp only [e, Re.to] at h
  | bad => simp only [e, Re.to] at h
def Ou.seq (o : Ou) (k : XS) : Ou := match o with | .nx ρ => k ρ | o => o
@[simp ↓] theorem Ou.seq_nx (ρ : Rho) (k : XS) : (Ou.nx ρ).seq k = k ρ := Eq.trans rfl rfl
@[simp ↓] theorem Ou.seq_rt (r : R) (ρ : Rho) (k : XS) : (Ou.rt r ρ).seq k = .rt r ρ := Eq.trans rfl rfl
@[simp ↓] theorem Ou.seq_ex (x : Xn) (ρ : Rho) (k : XS) : (Ou.ex x ρ).seq k = .ex x ρ := Eq.trans rfl rfl
def Ou.loop (o : Ou) (k : XS) : Ou := match o with | .nx ρ => k ρ | .ct ρ => k ρ | .bk ρ => .nx ρ | o => o
@[simp ↓] theorem Ou.loop_nx (ρ : Rho) (k : XS) : (Ou.nx ρ).loop k = k ρ := Eq.trans rfl rfl
@[simp ↓] theorem Ou.loop_rt (r : R) (ρ : Rho) (k : XS) : (Ou.rt r ρ).loop k = .rt r ρ := Eq.trans rfl rfl
abbrev SX (X : Cx) (st : Stmt) (x : XS) : Prop := DS X st (toS x)
abbrev SXs (X : Cx) (st : List Stmt) (x : XS) : Prop := DSs X st (toS x)
abbrev XG := R → Rho → Option Rho
abbrev XGs := List PyData → Rho → Option Rho
def toGG {α : Type} (x : α → Rho → Option Rho) : α → Rho → (Rho → Prop) → Prop := fun r ρ Q => ∃ ρ', x r ρ = some ρ' ∧ Q ρ'
theorem toGG_mono {α : Type} (x : α → Rho → Option Rho) : ∀ r ρ (Q Q' : Rho → Prop), (∀ ρ', Q ρ' → Q' ρ') → toGG x r ρ Q → toGG x r ρ Q' := fun _ _ _ _ h ⟨ρ', e, q⟩ => ⟨ρ', e, h _ q⟩
abbrev GX (X : Cx) (tg : Expr) (sl : List Nat) (x : XG) : Prop := DG X tg sl (toGG x)
abbrev GXs (X : Cx) (tg : List Expr) (sl : List Nat) (x : XGs) : Prop := DGs X tg sl (toGG x)
def opX (x : Option Rho) (k : XS) : Ou := match x with | some ρ => k ρ | none => .bad
@[simp ↓] theorem opX_some (ρ : Rho) (k : XS) : opX (some ρ) k = k ρ := Eq.trans rfl rfl
def freeX (s : Option (Option R)) (x : Option Rho) : Option Rho := match s with
  | some (some (.io _)) => none
  | some _ => x
  | none => none
@[simp ↓] theorem freeX_none (x : Option Rho) : freeX (some none) x = x := Eq.trans rfl rfl
@[simp ↓] theorem freeX_sh (d : PyData) (x : Option Rho) : freeX (some (some (.sh d))) x = x := Eq.trans rfl rfl
@[simp ↓] theorem freeX_own (o : OO) (x : Option Rho) : freeX (some (some (.own o))) x = x := Eq.trans rfl rfl
theorem freeX_inv {ρ ρ' : Rho} {i : Nat} {x : Option Rho} (h : freeX ρ[i]? x = some ρ') : freeSlot ρ i ∧ x = some ρ' := by
  have go : ∀ s, ρ[i]? = s → freeX s x = some ρ' → freeSlot ρ i ∧ x = some ρ' := by
    intro s hs h
    unfold freeSlot
    rw [hs]
    match s, h with
    | some (some (.io o)), h => cases h
    | some (some (.sh d)), h => exact ⟨trivial, h⟩
    | some (some (.own o)), h => exact ⟨trivial, h⟩
    | some (some (.new o)), h => exact ⟨trivial, h⟩
    | some none, h => exact ⟨trivial, h⟩
    | none, h => cases h
  exact go _ rfl h
def xN (i : Nat) : XG := fun r ρ => freeX ρ[i]? (some (ρ.set i (some r)))
theorem im_N {i : Nat} (r : R) (ρ : Rho) (Q : Rho → Prop) (h : toGG (xN i) r ρ Q) : gN i r ρ Q := by
  obtain ⟨ρ', e, q⟩ := h
  obtain ⟨f, e⟩ := freeX_inv e
  cases e
  exact ⟨f, q⟩
section
variable {X : Cx} {a b c e tg : Expr} {es rest : List Expr} {pos p py : Pos} {t : XA} {y : Str} {i : Nat} {xa xb : XE} {st : Stmt} {sts : List Stmt} {x x' : XS}
theorem dsI {G : GS} (h : DS X st G) (i : ∀ ρ E, toS x ρ E → G ρ E) : SX X st x := ⟨toS_mono x, psI h.ps fun D σ H ⟨c, F, ρ, j, q⟩ => ⟨c, F, ρ, j, i _ _ q⟩⟩
theorem dssI {G : GS} (h : DSs X sts G) (i : ∀ ρ E, toS x ρ E → G ρ E) : SXs X sts x := ⟨toS_mono x, pssI h.ps fun D σ H ⟨c, F, ρ, j, q⟩ => ⟨c, F, ρ, j, i _ _ q⟩⟩
theorem dgI {G : GG} {sl : List Nat} {x : XG} (h : DG X tg sl G) (i : ∀ r ρ Q, toGG x r ρ Q → G r ρ Q) : GX X tg sl x := ⟨toGG_mono x, by
  obtain ⟨g, p, k⟩ := h.ex
  exact ⟨g, p, fun c F H σ ρ v r Q Qv j vr q kk => k c F H σ ρ v r Q Qv j vr (i _ _ _ q) kk⟩⟩
theorem dgsI {G : GGs} {sl : List Nat} {x : XGs} (h : DGs X es sl G) (i : ∀ r ρ Q, toGG x r ρ Q → G r ρ Q) : GXs X es sl x := ⟨toGG_mono x, by
  obtain ⟨g, p, k⟩ := h.ex
  exact ⟨g, p, fun c F H σ ρ v r Q Qv j vr q kk => k c F H σ ρ v r Q Qv j vr (i _ _ _ q) kk⟩⟩
def xNext : XS := fun ρ => .nx ρ
def xSeq (x y : XS) : XS := fun ρ => (x ρ).seq y
theorem seq_toS {ρ : Rho} {E : Ek} (h : toS (xSeq x x') ρ E) : toS x ρ { E with nx := fun ρ' => toS x' ρ' E } := by
  unfold toS xSeq at h
  unfold toS
  cases e : x ρ with
  | nx ρ' => simp only [e, Ou.seq] at h ⊢; exact h
  | rt r ρ' => simp only [e, Ou.seq] at h ⊢; exact h
  | bk ρ' => simp only [e, Ou.seq] at h ⊢; exact h
  | ct ρ' => simp only [e, Ou.seq] at h ⊢; exact h
  | ex z ρ' => simp only [e, Ou.seq] at h
  | bad => simp only [e, Ou.seq] at h
theorem sxs_nil : SXs X [] xNext := dssI dss_nil fun ρ E h => h
theorem sxs_one (h : SX X st x) : SXs X [st] x := dss_one h
theorem sxs_cons (h : SX X st x) (k : SXs X sts x') : SXs X (st :: sts) (xSeq x x') := dssI (dss_cons h k) fun ρ E h => seq_toS h
def xRet (a : XE) : XS := fun ρ => (a ρ).to fun r ρ' => .rt r ρ'
theorem sx_ret (h : EX X e xa) : SX X (.Return (some e) pos) (xRet xa) := dsI (ds_ret h) fun ρ E h => to_toS (k := fun r ρ' => .rt r ρ') h
def xExp (a : XE) : XS := fun ρ => (a ρ).to fun _ ρ' => .nx ρ'
theorem sx_expr (h : EX X e xa) (hs : swapsWith e none pos.line X.env = pure false := by rfl) : SX X (.Expr e pos) (xExp xa) := dsI (ds_expr h hs) fun ρ E h => to_toS (k := fun r ρ' => .nx ρ') h
def xIf (t : XT) (x y : XS) : XS := fun ρ => (t ρ).to fun k ρ' => iteX k (x ρ') (y ρ')
theorem sx_if {T : XT} {as bs : List Stmt} (ht : TX X a T) (h : SXs X as x) (k : SXs X bs x') : SX X (.If a as bs pos) (xIf T x x') := dsI (ds_if ht h k) fun ρ E h => by
  obtain ⟨b, ρ', e, q⟩ := to_toS (k := fun k ρ' => iteX k (x ρ') (x' ρ')) h
  refine ⟨b, ρ', e, ?_⟩
  cases b
  · simpa using q
  · simpa using q
theorem gx_name {x : Str} (h : PG X (.Name x pos) (gName i)) : GX X (.Name x pos) [i] (xN i) := dgI (dg_name h) im_N
def xsNil : XGs := fun ds ρ => match ds with | [] => some ρ | _ => none
def xsCons (g : XG) (t : XGs) : XGs := fun ds ρ => match ds with | d :: r => (g (.sh d) ρ).bind fun ρ' => t r ρ' | [] => none
@[simp ↓] theorem xsNil_nil (ρ : Rho) : xsNil [] ρ = some ρ := Eq.trans rfl rfl
@[simp ↓] theorem xsCons_cons (g : XG) (t : XGs) (d : PyData) (r : List PyData) (ρ : Rho) : xsCons g t (d :: r) ρ = (g (.sh d) ρ).bind fun ρ' => t r ρ' := Eq.trans rfl rfl
theorem gxs_nil : GXs X [] [] xsNil := dgsI dgs_nil fun r ρ Q ⟨ρ', e, q⟩ => by
  cases r with
  | nil => cases e; exact q
  | cons d r => cases e
theorem gxs_cons {g : XG} {t : XGs} {sl sl' : List Nat} (h : GX X e sl g) (k : GXs X es sl' t) (hs : (assignEach (e :: es) X.env).map (·.2) = assign e X.env :: (assignEach es X.env).map (·.2) := by rfl) : GXs X (e :: es) (sl ++ sl') (xsCons g t) := dgsI (dgs_cons h k hs) fun r ρ Q ⟨ρ', e, q⟩ => by
  cases r with
  | nil => cases e
  | cons d r =>
    rw [xsCons_cons] at e
    cases e1 : g (.sh d) ρ with
    | none => rw [e1] at e; cases e
    | some ρ1 => rw [e1] at e; exact ⟨ρ1, e1, ρ', e, q⟩
def tupX (n : Nat) (d : PyData) (k : List PyData → Option Rho) : Option Rho := match d with
  | .tuple ds => gd (ds.length = n) (k ds)
  | .list ds => gd (ds.length = n) (k ds)
  | _ => none
@[simp ↓] theorem tupX_tuple (n : Nat) (ds : List PyData) (k : List PyData → Option Rho) : tupX n (.tuple ds) k = gd (ds.length = n) (k ds) := Eq.trans rfl rfl
def xT2 (n : Nat) (t : XGs) : XG := fun r ρ => match r.dat with
  | some d => tupX n d fun ds => t ds ρ
  | none => none
@[simp ↓] theorem xT2_sh (n : Nat) (t : XGs) (d : PyData) (ρ : Rho) : xT2 n t (.sh d) ρ = tupX n d fun ds => t ds ρ := Eq.trans rfl rfl
theorem gx_seq {t : XGs} {k n : Nat} {sl : List Nat} (hc : X.calm = true) (h : GXs X es sl t) (hn : (assignEach es X.env).length = n := by rfl) (hst : (assignEach es X.env).findIdx? (·.1) = none := by rfl) : GX X (.Tuple es k pos) sl (xT2 n t) := dgI (dg_seq hc h hn hst) fun r ρ Q ⟨ρ', e, q⟩ => by
  unfold xT2 at e
  split at e
  · next d hd =>
    refine withD_mk hd ?_
    unfold tupX at e
    split at e
    · obtain ⟨c, e⟩ := gd_inv e; exact ⟨c, ρ', e, q⟩
    · obtain ⟨c, e⟩ := gd_inv e; exact ⟨c, ρ', e, q⟩
    · cases e
  · cases e
def xAsg (a : XE) (g : XG) : XS := fun ρ => (a ρ).to fun r ρ' => opX (g r ρ') .nx
theorem opX_toS {o : Option Rho} {E : Ek} {ρ : Rho} (h : toS (fun _ => opX o .nx) ρ E) : ∃ ρ', o = some ρ' ∧ E.nx ρ' := by
  unfold toS at h
  cases o with
  | none => exact h.elim
  | some z => exact ⟨z, rfl, h⟩
theorem sx_asg {g : XG} {sl : List Nat} (he : EX X e xa) (hg : GX X tg sl g) (hs : swapsWithSole [tg] e pos.line X.env = pure false := by rfl) (hw : swappedStores [tg] e X.env = pure none := by rfl) (h1 : (assignEach [tg] X.env).map (·.2) = [assign tg X.env] := by rfl) : SX X (.Assign [tg] e pos) (xAsg xa g) := dsI (ds_asg he hg hs hw h1) fun ρ E h => by
  obtain ⟨r, ρ', e, q⟩ := to_toS (k := fun r ρ' => opX (g r ρ') .nx) h
  obtain ⟨ρ2, e2, q⟩ := opX_toS (ρ := ρ') q
  exact ⟨r, ρ', e, ρ2, e2, q⟩
theorem im_asgN {k : Nat} (ρ : Rho) (E : Ek) (h : toS (xAsg xa (xN k)) ρ E) : gAsg (toG xa) (gN k) ρ E := by
  obtain ⟨r, ρ', e, q⟩ := to_toS (k := fun r ρ' => opX (xN k r ρ') .nx) h
  obtain ⟨ρ2, e2, q⟩ := opX_toS (ρ := ρ') q
  exact ⟨r, ρ', e, im_N _ _ _ ⟨ρ2, e2, q⟩⟩
theorem sx_set {x : Str} {pos' : Pos} (hN : X.N.Nodup) (hi : X.N[i]? = some x) (hx : Loc X.env.scope x) (he : EX X e xa) (hs : swapsWith e (some (.Name x pos')) pos.line X.env = pure false := by rfl) (hf : X.fn x = true ∨ X.env.scope.names.lookup x = some .local := by first | exact .inl rfl | exact .inr rfl | assumption) :
    SX X (.Assign [.Name x pos'] e pos) (xAsg xa (xN i)) := dsI (ds_set hN hi hx he hs hf) im_asgN
def xSetIx (i : Nat) (a b : XE) : XE := fun ρ => (a ρ).bind fun r ρ1 => withX r fun d => ownX ρ1[i]? fun _ _ => (b ρ1).bind fun r2 ρ2 => withX r2 fun k => ownX ρ2[i]? fun o w => lstX o fun ds => intX k fun n => (ofO (ixN ds.length n) ρ2).bind fun m ρ2 => .ok (.sh .none) (ρ2.set i (some (w (.lst (ds.set m d)))))
theorem sx_setIx {tpos : Pos} (ha : EX X a xa) (hy : PE X (.Name y py) (tVar i)) (hb : EX X b xb)
    (hs : swapsWithSole [.Subscript (.Name y py) b tpos] a pos.line X.env = pure false := by rfl) (hw : swappedStores [.Subscript (.Name y py) b tpos] a X.env = pure none := by rfl) (h1 : (assignEach [.Subscript (.Name y py) b tpos] X.env).map (·.2) = [assign (.Subscript (.Name y py) b tpos) X.env] := by rfl)
    (h2 : ∀ v, assign (.Subscript (.Name y py) b tpos) X.env v = (do
      let ov ← holding [v] (eval (.Name y py) X.env)
      let iv ← holding [v, ov] (eval b X.env)
      standAt tpos
      holding [v, ov, iv] (setItem ov iv v)
      release [v, ov, iv] []) := by intro _; rfl) : SX X (.Assign [.Subscript (.Name y py) b tpos] a pos) (xExp (xSetIx i xa xb)) := dsI (ds_setIx ha hy hb hs hw h1 h2) fun ρ E h => by
  obtain ⟨r, ρ', e, q⟩ := to_toS (k := fun r ρ' => .nx ρ') h
  obtain ⟨r1, ρ1, e1, f1⟩ := Re.bind_inv e
  obtain ⟨d, hd, f2⟩ := withX_inv f1
  obtain ⟨o, w, f3, k1⟩ := ownX_inv f2
  obtain ⟨r2, ρ2, e2, f4⟩ := Re.bind_inv f3
  obtain ⟨k, hk, f5⟩ := withX_inv f4
  obtain ⟨o2, w2, f6, k2⟩ := ownX_inv f5
  obtain ⟨ds, ho, f7⟩ := lstX_inv f6
  subst ho
  obtain ⟨n, hn, f8⟩ := intX_inv f7
  subst hn
  obtain ⟨m, ρ3, f9, g1⟩ := Re.bind_inv f8
  obtain ⟨g2, g3⟩ := ofO_inv f9
  subst g3
  cases g1
  exact ⟨r1, ρ1, e1, withD_mk hd (k1 _ ⟨r2, _, e2, withD_mk hk (k2 _ (by simp only [g2]; exact q))⟩)⟩
end
end DX
set_option Elab.async false
set_option linter.all false
set_option maxRecDepth 100000
namespace DX
open PySem L2 DL
abbrev IX (X : Cx) (tg iter : Expr) (x : XA) : Prop := DI X tg iter (toG x)
def sqX {α β : Type} (d : PyData) (k : List PyData → Re α β) : Re α β := match d with | .list ds => k ds | .tuple ds => k ds | _ => .bad
@[simp ↓] theorem sqX_list {α β : Type} (ds : List PyData) (k : List PyData → Re α β) : sqX (.list ds) k = k ds := Eq.trans rfl rfl
def rng1 (ds : List PyData) : Option (List PyData) := match ds with
  | [.int j] => gd (j < 4611686018427387904 ∧ -4611686018427387904 ≤ j) (some (rangeD 0 j.toNat))
  | _ => none
@[simp ↓] theorem rng1_int (j : Int) : rng1 [.int j] = gd (j < 4611686018427387904 ∧ -4611686018427387904 ≤ j) (some (rangeD 0 j.toNat)) := Eq.trans rfl rfl
def xiSeq (a : XE) : XA := fun ρ => (a ρ).bind fun r ρ' => withX r fun d => sqX d fun ds => .ok ds ρ'
def xiOf (v : List PyData → Option (List PyData)) (t : XA) : XA := fun ρ => (t ρ).bind fun ds ρ' => ofO (v ds) ρ'
theorem xiOf_inv {v : List PyData → Option (List PyData)} {t : XA} {ρ ρ' : Rho} {r : List PyData} (e : xiOf v t ρ = .ok r ρ') : ∃ ds, t ρ = .ok ds ρ' ∧ v ds = some r := by
  obtain ⟨ds, ρ1, e1, f1⟩ := Re.bind_inv e
  obtain ⟨f2, f3⟩ := ofO_inv f1
  subst f3
  exact ⟨ds, e1, f2⟩
section
variable {X : Cx} {a b c e tg iter : Expr} {es rest : List Expr} {pos p py : Pos} {t : XA} {y : Str} {i : Nat} {xa xb : XE} {st : Stmt} {sts : List Stmt} {x x' : XS}
theorem diI {G : GI} {x : XA} (h : DI X tg iter G) (i : ∀ ρ Q r ρ', x ρ = .ok r ρ' → Q r ρ' → G ρ Q) : IX X tg iter x := ⟨toG_mono x, by
  obtain ⟨wi, p, k⟩ := h.ex
  exact ⟨wi, p, fun c F H σ ρ Q R j ⟨r, ρ', e, q⟩ kk => k c F H σ ρ Q R j (i _ _ _ _ e q) kk⟩⟩
theorem ix_seq (h : EX X a xa) : IX X tg a (xiSeq xa) := diI (di_seq h) fun ρ Q r ρ' e q => by
  obtain ⟨r1, ρ1, e1, f1⟩ := Re.bind_inv e
  obtain ⟨d, hd, f2⟩ := withX_inv f1
  refine ⟨r1, ρ1, e1, withD_mk hd ?_⟩
  cases d with
  | list ds => cases f2; exact q
  | tuple ds => cases f2; exact q
  | _ => cases f2
theorem ix_rng1 (hg : Gl X "range") (hm : X.mg "range" = none) (h : AX X [a] t) (hs : starEach [a] X.env = [(false, eval a X.env)] := by rfl) : IX X tg (.Call (.Name "range" p) [a] [] pos) (xiOf rng1 t) := diI (di_rng1 hg hm h hs) fun ρ Q r ρ' e q => by
  obtain ⟨ds, e1, f1⟩ := xiOf_inv e
  refine ⟨ds, ρ', e1, ?_⟩
  unfold rng1 at f1
  split at f1
  · obtain ⟨cc, f2⟩ := gd_inv f1
    cases f2
    exact ⟨cc.1, cc.2, q⟩
  · cases f1
def forX (g : XG) (b : XS) : List PyData → Rho → Ou
  | [], ρ => .nx ρ
  | d :: ds, ρ => opX (g (.sh d) ρ) fun ρ1 => (b ρ1).loop (forX g b ds)
theorem forX_nil (g : XG) (b : XS) (ρ : Rho) : forX g b [] ρ = .nx ρ := rfl
theorem forX_cons (g : XG) (b : XS) (d : PyData) (ds : List PyData) (ρ : Rho) : forX g b (d :: ds) ρ = opX (g (.sh d) ρ) fun ρ1 => (b ρ1).loop (forX g b ds) := rfl
def xFor (i : XA) (g : XG) (b : XS) : XS := fun ρ => (i ρ).to fun ds ρ' => forX g b ds ρ'
theorem opX_toS' {o : Option Rho} {k : XS} {E : Ek} {ρ : Rho} (h : toS (fun _ => opX o k) ρ E) : ∃ ρ', o = some ρ' ∧ toS k ρ' E := by
  unfold toS at h
  cases o with
  | none => exact h.elim
  | some z => exact ⟨z, rfl, h⟩
theorem loop_toS {x k : XS} {ρ : Rho} {E : Ek} (h : toS (fun ρ => (x ρ).loop k) ρ E) : toS x ρ { nx := fun ρ2 => toS k ρ2 E, ct := fun ρ2 => toS k ρ2 E, bk := E.nx, rt := E.rt } := by
  unfold toS at h
  unfold toS
  cases e : x ρ with
  | nx ρ' => simp only [e, Ou.loop] at h ⊢; exact h
  | rt r ρ' => simp only [e, Ou.loop] at h ⊢; exact h
  | bk ρ' => simp only [e, Ou.loop] at h ⊢; exact h
  | ct ρ' => simp only [e, Ou.loop] at h ⊢; exact h
  | ex z ρ' => simp only [e, Ou.loop] at h
  | bad => simp only [e, Ou.loop] at h
theorem forW_of {g : XG} {b : XS} {E : Ek} : ∀ ds ρ, toS (forX g b ds) ρ E → forW (toGG g) (toS b) ds ρ E
  | [], ρ, h => h
  | d :: ds, ρ, h => by
    obtain ⟨ρ1, e1, q⟩ := opX_toS' (o := g (.sh d) ρ) (k := fun ρ1 => (b ρ1).loop (forX g b ds)) (ρ := ρ) h
    refine ⟨ρ1, e1, (toS_mono b).use (loop_toS q) ⟨fun ρ2 z => forW_of ds ρ2 z, fun _ _ z => z, fun _ z => z, fun ρ2 z => forW_of ds ρ2 z⟩⟩
theorem sx_for {body : List Stmt} {i : XA} {g : XG} {sl : List Nat} (hc : X.calm = true) (hi : IX X tg iter i) (hg : GX X tg sl g) (hb : SXs X body x) (hp : PassesOwn (model X.prog X.w) X.A X.env X.xe) (hs : ∀ x, foldedSetIterable iter X.env x = pure x := by intro _; rfl) :
    SX X (.For tg iter body [] pos) (xFor i g x) := dsI (ds_for hc hi hg hb hp hs) fun ρ E h => by
  obtain ⟨ds, ρ', e, q⟩ := to_toS (x := i) (k := fun ds ρ' => forX g x ds ρ') h
  exact ⟨ds, ρ', e, forW_of ds ρ' q⟩
def whileX (t : XT) (b : XS) : Nat → Rho → Ou
  | 0, _ => .bad
  | n + 1, ρ => (t ρ).to fun k ρ1 => iteX k ((b ρ1).loop (whileX t b n)) (.nx ρ1)
theorem whileX_succ (t : XT) (b : XS) (n : Nat) (ρ : Rho) : whileX t b (n + 1) ρ = (t ρ).to fun k ρ1 => iteX k ((b ρ1).loop (whileX t b n)) (.nx ρ1) := rfl
def xWhile (t : XT) (b : XS) : XS := fun ρ => whileX t b 1000000 ρ
theorem whileW_of {t : XT} {b : XS} {E : Ek} : ∀ n ρ, toS (whileX t b n) ρ E → whileW (toG t) (toS b) n ρ E
  | 0, ρ, h => h
  | n + 1, ρ, h => by
    obtain ⟨k, ρ1, e1, q⟩ := to_toS (x := t) (k := fun k ρ1 => iteX k ((b ρ1).loop (whileX t b n)) (.nx ρ1)) h
    refine ⟨k, ρ1, e1, ?_⟩
    cases k
    · simp only [Bool.false_eq_true, if_false]
      exact q
    · simp only [if_true]
      exact (toS_mono b).use (loop_toS q) ⟨fun ρ2 z => whileW_of n ρ2 z, fun _ _ z => z, fun _ z => z, fun ρ2 z => whileW_of n ρ2 z⟩
theorem Ou.loop_mono {o : Ou} {k k' : XS} (hk : ∀ ρ, k ρ ≠ .bad → k' ρ = k ρ) (h : o.loop k ≠ .bad) : o.loop k' = o.loop k := by
  cases o with
  | nx ρ => exact hk ρ h
  | ct ρ => exact hk ρ h
  | _ => rfl
theorem whileX_add {t : XT} {b : XS} : ∀ (n m : Nat) (ρ : Rho), whileX t b n ρ ≠ .bad → whileX t b (n + m) ρ = whileX t b n ρ
  | 0, _, _, h => (h rfl).elim
  | n + 1, m, ρ, h => by
    have e : n + 1 + m = (n + m) + 1 := by omega
    rw [e, whileX_succ, whileX_succ]
    rw [whileX_succ] at h
    cases z : t ρ with
    | ok k ρ1 =>
      rw [z] at h
      cases k with
      | true => exact Ou.loop_mono (fun ρ q => whileX_add n m ρ q) h
      | false => rfl
    | ex _ _ => rfl
    | bad => rfl
theorem xWhile_eq {t : XT} {b : XS} {ρ : Rho} {o : Ou} (n : Nat) (hn : n ≤ 1000000) (h : whileX t b n ρ = o) (ho : o ≠ .bad) : xWhile t b ρ = o := by
  have e : 1000000 = n + (1000000 - n) := by omega
  unfold xWhile
  rw [e, whileX_add n _ ρ (by rw [h]; exact ho), h]
theorem sx_while {t : Expr} {T : XT} {body : List Stmt} (hp : PassesOwn (model X.prog X.w) X.A X.env X.xe) (ht : TX X t T) (hb : SXs X body x) : SX X (.While t body [] pos) (xWhile T x) := dsI (ds_while hp ht hb) fun ρ E h => ⟨1000000, whileW_of _ ρ h⟩
def calmX (ρ : Rho) : List Nat → Bool
  | [] => true
  | v :: vs => (match ρ[v]? with | some (some (.own _)) => false | some (some (.io _)) => false | _ => true) && calmX ρ vs
theorem calmX_inv {ρ : Rho} : ∀ {vs : List Nat}, calmX ρ vs = true → calmR ρ vs
  | [], _ => fun v h => by cases h
  | v :: vs, h => fun u hu => by
    unfold calmX at h
    rw [Bool.and_eq_true] at h
    rcases List.mem_cons.mp hu with e | hu
    · have h1 := h.1
      rw [← e] at h1
      generalize ρ[u]? = s at h1
      match s, h1 with
      | some (some (.own _)), h1 => cases h1
      | some (some (.io _)), h1 => cases h1
      | some (some (.sh _)), _ => trivial
      | some (some (.new _)), _ => trivial
      | some none, _ => trivial
      | none, _ => trivial
    · exact calmX_inv h.2 u hu
def opE {α : Type} (x : Option Rho) (k : Rho → Re α Rho) : Re α Rho := match x with | some ρ => k ρ | none => .bad
@[simp ↓] theorem opE_some {α : Type} (ρ : Rho) (k : Rho → Re α Rho) : opE (some ρ) k = k ρ := Eq.trans rfl rfl
theorem opE_inv {α : Type} {x : Option Rho} {k : Rho → Re α Rho} {a : α} {ρ' : Rho} (h : opE x k = .ok a ρ') : ∃ ρ, x = some ρ ∧ k ρ = .ok a ρ' := by
  cases x with
  | none => cases h
  | some ρ => exact ⟨ρ, rfl, h⟩
def turnX (vs : List Nat) (g : XG) (T : XT) (e : XE) (d : PyData) (ρ : Rho) : Re (Option PyData) Rho :=
  opE (g (.sh d) ρ) fun ρ1 => (T ρ1).bind fun k ρ2 => iteX k ((e ρ2).bind fun r ρ3 => withX r fun y => gr (calmX ρ3 vs = true) (.ok (some y) (wipeR ρ3 vs))) (gr (calmX ρ2 vs = true) (.ok none (wipeR ρ2 vs)))
def lcX (vs : List Nat) (g : XG) (T : XT) (e : XE) : List PyData → List PyData → Rho → Re (List PyData) Rho
  | [], acc, ρ => .ok acc ρ
  | d :: ds, acc, ρ => (turnX vs g T e d ρ).bind fun o ρ' => match o with
    | some y => gr (acc.length < 1000000) (lcX vs g T e ds (acc ++ [y]) ρ')
    | none => lcX vs g T e ds acc ρ'
theorem lcW_of {vs : List Nat} {g : XG} {T : XT} {e : XE} : ∀ (ds acc : List PyData) (ρ : Rho) (acc' : List PyData) (ρ' : Rho) (Q : List PyData → Rho → Prop), lcX vs g T e ds acc ρ = .ok acc' ρ' → Q acc' ρ' → lcW vs (toGG g) (toG T) (toG e) ds acc ρ Q
  | [], acc, ρ, acc', ρ', Q, h, q => by cases h; exact q
  | d :: ds, acc, ρ, acc', ρ', Q, h, q => by
    obtain ⟨o, ρ2, e1, f1⟩ := Re.bind_inv h
    obtain ⟨ρ3, e2, f2⟩ := opE_inv e1
    obtain ⟨k, ρ4, e3, f3⟩ := Re.bind_inv f2
    refine ⟨ρ3, e2, k, ρ4, e3, ?_⟩
    cases k
    · obtain ⟨c1, f4⟩ := gr_inv (x := .ok none (wipeR ρ4 vs)) f3
      cases f4
      simp only [Bool.false_eq_true, if_false]
      exact ⟨calmX_inv c1, lcW_of ds acc _ acc' ρ' Q f1 q⟩
    · obtain ⟨r, ρ5, e5, f4⟩ := Re.bind_inv (x := e ρ4) f3
      obtain ⟨y, hy, f5⟩ := withX_inv f4
      obtain ⟨c1, f6⟩ := gr_inv f5
      cases f6
      obtain ⟨c2, f7⟩ := gr_inv (x := lcX vs g T e ds (acc ++ [y]) (wipeR ρ5 vs)) f1
      simp only [if_true]
      exact ⟨r, ρ5, e5, withD_mk hy ⟨c2, calmX_inv c1, lcW_of ds _ _ acc' ρ' Q f7 q⟩⟩
def xLc (i : XA) (vs : List Nat) (g : XG) (T : XT) (e : XE) : XE := fun ρ => (i ρ).bind fun ds ρ1 => gr (calmX ρ1 vs = true) ((lcX vs g T e ds [] (wipeR ρ1 vs)).bind fun acc ρ2 => .ok (.own (.lst acc)) (restR ρ2 ρ1 vs))
theorem im_lc {i : XA} {vs : List Nat} {g : XG} {T : XT} {e : XE} (ρ : Rho) (Q : KE) (r : R) (ρ' : Rho) (h : xLc i vs g T e ρ = .ok r ρ') (q : Q r ρ') : gLc (toG i) vs (toGG g) (toG T) (toG e) ρ Q := by
  obtain ⟨ds, ρ1, e1, f1⟩ := Re.bind_inv h
  obtain ⟨c1, f2⟩ := gr_inv f1
  obtain ⟨acc, ρ2, e2, f3⟩ := Re.bind_inv f2
  cases f3
  exact ⟨ds, ρ1, e1, calmX_inv c1, lcW_of ds [] _ acc ρ2 _ e2 q⟩
abbrev GBX (X : Cx) (scope : Scope) (tg : Expr) (sl : List Nat) (x : XG) : Prop := DGB X scope tg sl (toGG x)
theorem dgbI {scope : Scope} {G : GG} {sl : List Nat} {x : XG} (h : DGB X scope tg sl G) (i : ∀ r ρ Q, toGG x r ρ Q → G r ρ Q) : GBX X scope tg sl x := ⟨toGG_mono x, by
  obtain ⟨g, p, k⟩ := h.ex
  exact ⟨g, p, fun c F H σ ρ v r Q Qv j vr q kk => k c F H σ ρ v r Q Qv j vr (i _ _ _ q) kk⟩⟩
theorem gbx_name {scope : Scope} {k : Nat} {x : Str} (h : ∀ (s : Shared) (H : Hp) (C : Addr) (cl : List (Str × Addr)) (fp : List Addr), PG (X.blk s H scope (compEnvC scope cl C X.env) fp) (.Name x pos) (gName k)) : GBX X scope (.Name x pos) [k] (xN k) := dgbI (dgb_name h) im_N
def xYes : XT := fun ρ => .ok true ρ
abbrev TXs (X : Cx) (es : List Expr) (x : XT) : Prop := DTs X es (toG x)
theorem txs_nil : TXs X [] xYes := ⟨toG_mono _, fun pins s σ H Q I ⟨c, F, ρ, j, a, ρ', e, q⟩ => by cases e; exact pts_nil pins s σ H Q I (q F H j)⟩
theorem txs_one {T : XT} (h : TX X a T) : TXs X [a] T := dts_one h
section
variable {elt iter : Expr} {ifs : List Expr} {scope : Scope} {own : List (Str × Nat)} {i : XA} {g : XG} {T : XT} {xe : XE} {sl : List Nat}
theorem xe_lc (hc : X.calm = true) (hN : X.N.Nodup) (hi : IX X tg iter i) (ok : BlkOk X.N X.env.scope scope own) (hg : GBX X scope tg sl g) (hsl : ∀ v ∈ sl, v ∈ own.map (·.2))
    (ht : ∀ (s : Shared) (H : Hp) (C : Addr) (cl : List (Str × Addr)) (fp : List Addr), TXs (X.blk s H scope (compEnvC scope cl C X.env) fp) ifs T)
    (he : ∀ (s : Shared) (H : Hp) (C : Addr) (cl : List (Str × Addr)) (fp : List Addr), EX (X.blk s H scope (compEnvC scope cl C X.env) fp) elt xe) (hs : ∀ x, foldedSetIterable iter X.env x = pure x := by intro _; rfl) :
    EX X (.ListComp elt [⟨tg, iter, ifs, 0⟩] scope pos) (xLc i (own.map (·.2)) g T xe) := exI (de_lc hc hN hi ok hg hsl ht he hs) im_lc
theorem sx_setLc {k : Nat} {y : Str} {py spos : Pos} (hc : X.calm = true) (hN : X.N.Nodup) (hy : X.N[k]? = some y) (hyl : X.env.scope.names.lookup y = some .local)
    (hsw : swapsWith (.ListComp elt [⟨tg, iter, ifs, 0⟩] scope pos) (some (.Name y py)) spos.line X.env = pure true) (hi : IX X tg iter i) (ok : BlkOk X.N X.env.scope scope own) (hg : GBX X scope tg sl g) (hsl : ∀ v ∈ sl, v ∈ own.map (·.2))
    (ht : ∀ (s : Shared) (H : Hp) (C : Addr) (cl : List (Str × Addr)) (fp : List Addr), TXs (X.blk s H scope (compEnvC scope cl C X.env) fp) ifs T)
    (he : ∀ (s : Shared) (H : Hp) (C : Addr) (cl : List (Str × Addr)) (fp : List Addr), EX (X.blk s H scope (compEnvC scope cl C X.env) fp) elt xe) (hs : ∀ x, foldedSetIterable iter X.env x = pure x := by intro _; rfl) :
    SX X (.Assign [.Name y py] (.ListComp elt [⟨tg, iter, ifs, 0⟩] scope pos) spos) (xAsg (xLc i (own.map (·.2)) g T xe) (xN k)) := dsI (ds_setLc hc hN hy hyl hsw hi ok hg hsl ht he hs) fun ρ E h => by
  obtain ⟨r, ρ', e, q⟩ := im_asgN ρ E h
  exact im_lc ρ _ r ρ' e q
structure DGBs (X : Cx) (scope : Scope) (tgs : List Expr) (sl : List Nat) (G : GGs) : Prop where
  mono : ∀ r ρ Q Q', (∀ ρ', Q ρ' → Q' ρ') → G r ρ Q → G r ρ Q'
  ex : ∃ g : TGs, (∀ (s : Shared) (H : Hp) (C : Addr) (cl : List (Str × Addr)) (fp : List Addr), PGs (X.blk s H scope (compEnvC scope cl C X.env) fp) tgs g) ∧ ∀ (c : En) (F H : Hp) (σ : St) (ρ : Rho) (vs : List V) (ds : List PyData) (Q : Rho → Prop) (Qv : St → Hp → Prop), J X.K c F H σ ρ → DpAll X.K F vs ds → G ds ρ Q → (∀ F' σ' ρ', Q ρ' → J X.K c F' H σ' ρ' → OnlyAt sl σ σ' → Qv σ' H) → g vs σ H Qv
theorem gbxs_nil {scope : Scope} : DGBs X scope [] [] (toGG xsNil) := ⟨toGG_mono _, L2.gNil, fun _ _ _ _ _ => pgs_nil, fun c F H σ ρ vs ds Q Qv j al ⟨ρ', e, q⟩ k => by
  cases ds with
  | nil => cases e; cases al; exact ⟨rfl, k F σ _ q j fun _ _ => rfl⟩
  | cons d r => cases e⟩
theorem gbxs_cons {scope : Scope} {g : XG} {t : XGs} {sl sl' : List Nat} (h : GBX X scope e sl g) (k : DGBs X scope es sl' (toGG t)) (hs : ∀ (s : Shared) (H : Hp) (C : Addr) (cl : List (Str × Addr)) (fp : List Addr), (assignEach (e :: es) (X.blk s H scope (compEnvC scope cl C X.env) fp).env).map (·.2) = assign e (X.blk s H scope (compEnvC scope cl C X.env) fp).env :: (assignEach es (X.blk s H scope (compEnvC scope cl C X.env) fp).env).map (·.2) := by intro _ _ _ _ _; rfl) : DGBs X scope (e :: es) (sl ++ sl') (toGG (xsCons g t)) :=
  ⟨toGG_mono _, by
    obtain ⟨tg, p1, h1⟩ := h.ex
    obtain ⟨tt, p2, h2⟩ := k.ex
    refine ⟨L2.gCons tg tt, fun s H C cl fp => pgs_cons (p1 s H C cl fp) (p2 s H C cl fp) (hs s H C cl fp), fun c F H σ ρ vs ds Q Qv j al ⟨ρ', e, q⟩ kk => ?_⟩
    cases ds with
    | nil => cases e
    | cons d r =>
      rw [xsCons_cons] at e
      cases al with | cons hv hr =>
      cases e1 : g (.sh d) ρ with
      | none => rw [e1] at e; cases e
      | some ρ1 =>
        rw [e1] at e
        refine ⟨_, _, rfl, h1 ⟨F, c.Z, c.io⟩ F H σ ρ _ (.sh _) _ _ j.anew hv ⟨ρ1, e1, rfl⟩ fun F' σ' ρ2 q' j' o' => ?_⟩
        exact h2 c F' H σ' ρ2 _ _ _ _ (j.back j') (dpAllM j'.ff hr) ⟨ρ', by rw [← q']; exact e, q⟩ fun F2 σ2 ρ2 q2 j2 o2 => kk F2 σ2 ρ2 q2 j2 (o'.trans o2)⟩
end
def Ou.fin (o : Ou) : Re R Unit := match o with | .nx _ => .ok (.sh .none) () | .rt r _ => .ok r () | .ex e _ => .ex e () | _ => .bad
@[simp ↓] theorem Ou.fin_rt (r : R) (ρ : Rho) : (Ou.rt r ρ).fin = .ok r () := Eq.trans rfl rfl
@[simp ↓] theorem Ou.fin_ex (r : Xn) (ρ : Rho) : (Ou.ex r ρ).fin = .ex r () := Eq.trans rfl rfl
def Ou.finP (o : Ou) : Re R OO := match o with
  | .nx ρ => (match (ρ[0]? : Option (Option R)) with | some (some (.io o)) => .ok (.sh .none) o | _ => .bad)
  | .rt r ρ => (match (ρ[0]? : Option (Option R)) with | some (some (.io o)) => .ok r o | _ => .bad)
  | .ex e ρ => (match (ρ[0]? : Option (Option R)) with | some (some (.io o)) => .ex e o | _ => .bad)
  | _ => .bad
@[simp ↓] theorem Ou.finP_rt (r : R) (o : OO) (ρ : Rho) : (Ou.rt r (some (.io o) :: ρ)).finP = .ok r o := Eq.trans rfl rfl
def runD (m n : Nat) (x : XS) : Fn := fun ds => if ds.length = m then (x (rho0 n (ds.map R.sh))).fin else .bad
def runP (m n : Nat) (x : XS) : Fp := fun o ds => if ds.length + 1 = m then (x (rho0 n (.io o :: ds.map R.sh))).finP else .bad
theorem rd_x {m n : Nat} {x : XS} : RdD (toS x) n (cD (runD m n x)) := fun ds Q ⟨r, e, q⟩ => by
  unfold runD at e
  split at e
  · unfold toS
    unfold Ou.fin at e
    split at e <;> rename_i h <;> first | (rw [h]; cases e; exact q) | cases e
  · cases e
theorem rp_x {m n : Nat} {x : XS} : RdP (toS x) n (cP (runP m n x)) := fun o ds Q ⟨r, o', e, q⟩ => by
  unfold runP at e
  split at e
  · unfold toS
    unfold Ou.finP at e
    split at e <;> rename_i h <;> first | (rw [h]; split at e <;> first | (rename_i h2; cases e; show endP Q _ _; unfold endP; rw [h2]; exact q) | cases e) | cases e
  · cases e
theorem runD_eq {m n : Nat} (x : XS) (ds : List PyData) (ρ : Rho) (h : ds.length = m) (e : rho0 n (ds.map R.sh) = ρ) : runD m n x ds = (x ρ).fin := by
  subst e
  exact if_pos h
theorem runP_eq {m n : Nat} (x : XS) (o : OO) (ds : List PyData) (ρ : Rho) (h : ds.length + 1 = m) (e : rho0 n (.io o :: ds.map R.sh) = ρ) : runP m n x o ds = (x ρ).finP := by
  subst e
  exact if_pos h
theorem len_x {m n : Nat} {x : XS} (ds : List PyData) (Q : R → Prop) (h : cD (runD m n x) ds Q) : ds.length = m := by
  obtain ⟨r, e, _⟩ := h
  unfold runD at e
  split at e
  · assumption
  · cases e
theorem lenp_x {m n : Nat} {x : XS} (o : OO) (ds : List PyData) (Q : R → OO → Prop) (h : cP (runP m n x) o ds Q) : ds.length + 1 = m := by
  obtain ⟨r, o', e, _⟩ := h
  unfold runP at e
  split at e
  · assumption
  · cases e
end
section
open PyProof.Rows
variable {cb : Bool} {P : Program} {w : World} {K : PySem.W.Frag} {mg : Str → Option Value} {base : Heap} {x : Str} {st : Stmt} {ps N : List Str} {k : Nat}
theorem calX {xs : XS} {m n : Nat} (D : Df K mg x st ps) (S : FnScope N ps (defScope st)) (hN : ps.length ≤ N.length)
    (hb : ∀ (f : Addr) (cdv : Value) (A : Around) (outer : List Env) (s : Shared) (H : Hp) (E : XK), Room k (A.deeper (envOfC x (defScope st) s.heap.objs.size f cdv)) → SXs (cxOfB cb CX0 P w K mg base N x (defScope st) f cdv A outer s H E).nox (defBody st) xs) (em : ps.length = m := by rfl) (en : N.length = n := by rfl) : CalB cb P w K mg base (k + 1) x ps (spD K (cD (runD m n xs))) := by
  subst em en
  exact calD D S hN len_x hb rd_x
theorem calXP {xs : XS} {m n : Nat} (D : Df K mg x st ps) (S : FnScope N ps (defScope st)) (hN : ps.length ≤ N.length)
    (hb : ∀ (f : Addr) (cdv : Value) (A : Around) (outer : List Env) (s : Shared) (H : Hp) (E : XK), Room k (A.deeper (envOfC x (defScope st) s.heap.objs.size f cdv)) → SXs (cxOfB cb CX0 P w K mg base N x (defScope st) f cdv A outer s H E).nox (defBody st) xs) (em : ps.length = m := by rfl) (en : N.length = n := by rfl) : CalB cb P w K mg base (k + 1) x ps (spP K (cP (runP m n xs))) := by
  subst em en
  exact calP D S hN lenp_x hb rp_x
theorem calX0 (D : Df K mg x st ps) : CalB cb P w K mg base k x ps (spD K (cD fun _ => .bad)) := calNo D fun ds Q ⟨r, e, _⟩ => by cases e
theorem calXP0 (D : Df K mg x st ps) : CalB cb P w K mg base k x ps (spP K (cP fun _ _ => .bad)) := calNoP D fun o ds Q ⟨r, o', e, _⟩ => by cases e
end
end DX
set_option Elab.async false
set_option linter.all false
set_option maxRecDepth 100000
namespace DX
open PySem PyProof.Rows L2 DL
def tyD : PyData → String
  | .none => "NoneType"
  | .bool _ => "bool"
  | .int _ => "int"
  | .str _ => "str"
  | .list _ => "list"
  | .tuple _ => "tuple"
  | .dict _ => "dict"
def tyO : OO → String | .lst _ => "list" | .dic _ => "dict" | .exc _ => "list"
def noX : R → Bool | .own (.exc _) => false | .io (.exc _) => false | .new _ => false | _ => true
inductive HasTy (K : PySem.W.Frag) (H : Hp) : V → String → Prop
  | non : HasTy K H .non "NoneType"
  | bl (b : Bool) : HasTy K H (.bl b) "bool"
  | int (i : Int) : HasTy K H (.int i) "int"
  | str (x : Str) : HasTy K H (.str x) "str"
  | lst {a : Addr} {xs : List V} (h : SqL K H a xs) : HasTy K H (.ref a) "list"
  | tup {a : Addr} {xs : List V} (h : SqT K H a xs) : HasTy K H (.ref a) "tuple"
  | dic {a : Addr} {kvs : List (Key × V)} (h : H a = some (.dK kvs)) : HasTy K H (.ref a) "dict"
  | dicF {a : Addr} {o : Obj} {kvs : List (Key × V)} (h : H a = some (.frz o (.dK kvs))) : HasTy K H (.ref a) "dict"
theorem HasTy.of {K : PySem.W.Frag} {F H : Hp} {v : V} {d : PyData} (h : Dp K F v d) (s : Same F H) : HasTy K H v (tyD d) := by
  cases h with
  | non => exact .non
  | bl b => exact .bl b
  | int i => exact .int i
  | str x => exact .str x
  | lst h q => exact .lst (s.seq h)
  | tup h q => exact .tup (sqT_same s h)
  | dct h q k => exact .dicF (s _ _ h)
theorem HasTy.ofO {K : PySem.W.Frag} {F H : Hp} {a : Addr} {o : OO} {ho : HO} (h : H a = some ho) (k : OOk K F o ho) (n : noX (.own o) = true) : HasTy K H (.ref a) (tyO o) := by
  cases o with
  | exc z => cases n
  | lst ds => obtain ⟨vs, rfl, _⟩ := k; exact .lst (SqL.of h)
  | dic ds => obtain ⟨vs, rfl, _⟩ := k; exact .dic h
section
variable {X : Cx} {a b c e tg iter : Expr} {es rest : List Expr} {pos p p2 py : Pos} {t : XA} {y : Str} {i : Nat} {xa xb : XE} {n : String} {x : Str}
end
end DX
set_option Elab.async false
set_option linter.all false
set_option maxRecDepth 100000
namespace DX
open PySem PyProof.Rows L2 DL
instance (i j : Int) : Decidable (IntMulOk i j) := by unfold IntMulOk; infer_instance
theorem mulOk_l {i j : Int} (h1 : -(2 ^ 64) < i) (h2 : i < 2 ^ 64) : IntMulOk i j := CMul.ok (.inl ⟨h1, h2⟩)
theorem mulOk_r {i j : Int} (h1 : -(2 ^ 64) < j) (h2 : j < 2 ^ 64) : IntMulOk i j := CMul.ok (.inr ⟨h1, h2⟩)
section
variable {X : Cx} {a b c e tg iter : Expr} {es rest : List Expr} {pos p p2 py : Pos} {t : XA} {y : Str} {i : Nat} {xa xb : XE} {n : String} {x : Str}
theorem op_mulB : OpR X (binaryOp .Mult) (rI IntMulOk fun i j => .int (i * j)) := opI fun _ _ _ _ _ _ _ hc q => mul_int q hc
def vMulB : V2
  | .int i, .int j => gd (IntMulOk i j) (some (.sh (.int (i * j))))
  | .tuple ds, .int k => gd (0 < ds.length ∧ 2 ≤ k ∧ ds.length * k.toNat ≤ 1000000) (some (.sh (.tuple (List.replicate k.toNat ds).flatten)))
  | _, _ => none
@[simp ↓] theorem vMulB_int (i j : Int) : vMulB (.int i) (.int j) = gd (IntMulOk i j) (some (.sh (.int (i * j)))) := Eq.trans rfl rfl
def wOf (v : V2) : W2 := fun d e Q => ∃ z, v d e = some z ∧ Q z
theorem lw_of {v : V2} : Lw v (wOf v) := fun d e z Q h q => ⟨z, h, q⟩
theorem DpAll.rep {K : PySem.W.Frag} {H : Hp} {vs : List V} {ds : List PyData} (h : DpAll K H vs ds) : ∀ k : Nat, DpAll K H (List.replicate k vs).flatten (List.replicate k ds).flatten
  | 0 => .nil
  | k + 1 => by
    rw [List.replicate_succ, List.replicate_succ, List.flatten_cons, List.flatten_cons]
    exact DL.DpAll.app h (DpAll.rep h k)
theorem opdMul {K : PySem.W.Frag} : OpD K (rOr (rI IntMulOk fun i j => .int (i * j)) (rRepT K)) (wOf vMulB) := ⟨fun d e Q Q' h ⟨z, a, q⟩ => ⟨z, a, h _ q⟩, fun c F H σ ρ x y d e Q Qv j hx hy ⟨z, hz, q⟩ k => by
  cases d with
  | int i =>
    cases e with
    | int l =>
      obtain ⟨c1, h1⟩ := gd_inv (c := IntMulOk i l) hz
      cases h1
      cases hx
      cases hy
      exact .inl ⟨i, l, rfl, rfl, c1, k _ F H _ q j (.int _)⟩
    | _ => cases hz
  | tuple ds =>
    cases e with
    | int l =>
      obtain ⟨⟨c1, c2, c3⟩, h1⟩ := gd_inv (c := 0 < ds.length ∧ 2 ≤ l ∧ ds.length * l.toNat ≤ 1000000) hz
      cases h1
      cases hy
      obtain ⟨a, xs, rfl, h1, a1⟩ := dp_tup hx
      have l1 := DpAll.length a1
      refine .inr ⟨a, l, xs, rfl, rfl, sqT_same j.fh h1, fun z => by rw [z] at l1; simp at l1; omega, c2, by rw [l1]; exact c3, fun p hp => ?_⟩
      exact k _ _ _ _ q ((j.alloc hp _).frz upd_same (j.ffree hp) (j.zfree hp) (j.apart hp)) (.tup (SqT.of upd_same) (dpAllM (same_new (j.ffree hp) _) (DpAll.rep a1 _)))
    | _ => cases hz
  | _ => cases hz⟩
theorem xe_mulB (ha : EX X a xa) (hb : EX X b xb) : EX X (.BinOp a .Mult b pos) (xBin vMulB xa xb) := exI (de_bin (opr_or op_mulB op_repT) opdMul ha hb) (im_bin lw_of)
variable {apos cpos : Pos}
end
end DX
set_option Elab.async false
set_option linter.all false
set_option maxRecDepth 100000
namespace DX
open PySem L2 DL
@[simp ↓] theorem xVar_at (i : Nat) (ρ : Rho) : xVar i ρ = varX ρ[i]? i ρ := Eq.trans rfl rfl
@[simp ↓] theorem xC_at (d : PyData) (ρ : Rho) : xC d ρ = .ok (.sh d) ρ := Eq.trans rfl rfl
@[simp ↓] theorem xBin_at (w : V2) (a b : XE) (ρ : Rho) : xBin w a b ρ = (a ρ).bind fun r1 ρ1 => withX r1 fun d => (b ρ1).bind fun r2 ρ2 => withX r2 fun e => ofO (w d e) ρ2 := Eq.trans rfl rfl
@[simp ↓] theorem xSh_at (w : PyData → Option R) (a : XE) (ρ : Rho) : xSh w a ρ = (a ρ).bind fun r1 ρ1 => shX r1 fun d => ofO (w d) ρ1 := Eq.trans rfl rfl
@[simp ↓] theorem xAndV_at (a b : XE) (ρ : Rho) : xAndV a b ρ = (a ρ).bind fun r ρ' => blX r fun t => iteX t (b ρ') (.ok (.sh (.bool false)) ρ') := Eq.trans rfl rfl
@[simp ↓] theorem xB_at (a : XE) (ρ : Rho) : xB a ρ = (a ρ).bind fun r ρ' => blX r fun t => .ok t ρ' := Eq.trans rfl rfl
@[simp ↓] theorem xAnd_at (a b : XT) (ρ : Rho) : xAnd a b ρ = (a ρ).bind fun t ρ' => iteX t (b ρ') (.ok false ρ') := Eq.trans rfl rfl
@[simp ↓] theorem xNt_at (a : XT) (ρ : Rho) : xNt a ρ = (a ρ).bind fun t ρ' => .ok (!t) ρ' := Eq.trans rfl rfl
@[simp ↓] theorem xIfE_at (t : XT) (a b : XE) (ρ : Rho) : xIfE t a b ρ = (t ρ).bind fun k ρ' => iteX k (a ρ') (b ρ') := Eq.trans rfl rfl
@[simp ↓] theorem xNil_at  (ρ : Rho) : xNil  ρ = .ok [] ρ := Eq.trans rfl rfl
@[simp ↓] theorem xCons_at (a : XE) (t : XA) (ρ : Rho) : xCons a t ρ = (a ρ).bind fun r ρ1 => withX r fun d => (t ρ1).bind fun ds ρ2 => .ok (d :: ds) ρ2 := Eq.trans rfl rfl
@[simp ↓] theorem xLst_at (t : XA) (ρ : Rho) : xLst t ρ = (t ρ).bind fun ds ρ' => gr (ds.length ≤ 1000) (.ok (.own (.lst ds)) ρ') := Eq.trans rfl rfl
@[simp ↓] theorem xTup_at (t : XA) (ρ : Rho) : xTup t ρ = (t ρ).bind fun ds ρ' => gr (ds.length ≤ 1000) (.ok (.sh (.tuple ds)) ρ') := Eq.trans rfl rfl
@[simp ↓] theorem xBlt_at (v : VC) (t : XA) (ρ : Rho) : xBlt v t ρ = (t ρ).bind fun ds ρ' => ofO (v ds) ρ' := Eq.trans rfl rfl
@[simp ↓] theorem xIxU_at (i : Nat) (b : XE) (ρ : Rho) : xIxU i b ρ = seqX ρ[i]? fun _ => (b ρ).bind fun r ρ1 => withX r fun d => seqX ρ1[i]? fun ds => intX d fun k => ofO (ixX ds k) ρ1 := Eq.trans rfl rfl
@[simp ↓] theorem xLenU_at (i : Nat) (ρ : Rho) : xLenU i ρ = seqX ρ[i]? fun ds => .ok (.sh (.int ds.length)) ρ := Eq.trans rfl rfl
@[simp ↓] theorem xMeth_at (v : VM) (i : Nat) (t : XA) (ρ : Rho) : xMeth v i t ρ = ownX ρ[i]? fun o _ => lstX o fun _ => (t ρ).bind fun ds ρ1 => ownX ρ1[i]? fun o w => lstX o fun xs => (ofO (v xs ds) ρ1).bind fun z ρ1 => .ok z.1 (ρ1.set i (some (w (.lst z.2)))) := Eq.trans rfl rfl
@[simp ↓] theorem xoN_at  (ρ : Rho) : xoN  ρ = .ok none ρ := Eq.trans rfl rfl
@[simp ↓] theorem xoS_at (a : XE) (ρ : Rho) : xoS a ρ = (a ρ).bind fun r ρ' => shX r fun d => intX d fun i => .ok (some i) ρ' := Eq.trans rfl rfl
@[simp ↓] theorem xSl_at (a : XE) (l u : XX (Option Int)) (ρ : Rho) : xSl a l u ρ = (a ρ).bind fun r ρ1 => withX r fun d => (l ρ1).bind fun lo ρ2 => (u ρ2).bind fun hi ρ3 => ofO (cutX d lo hi) ρ3 := Eq.trans rfl rfl
@[simp ↓] theorem xCall_at (f : Fn) (t : XA) (ρ : Rho) : xCall f t ρ = (t ρ).bind fun ds ρ' => (f ds).at ρ' := Eq.trans rfl rfl
@[simp ↓] theorem xCallO_at (f : Fp) (i : Nat) (t : XA) (ρ : Rho) : xCallO f i t ρ = ownX ρ[i]? fun _ _ => (t ρ).bind fun ds ρ1 => ownX ρ1[i]? fun o w => (f o ds).put ρ1 i w := Eq.trans rfl rfl
@[simp ↓] theorem xCallT_at (f : Fp) (a : XE) (ρ : Rho) : xCallT f a ρ = (a ρ).bind fun r ρ1 => owX r fun o => (f o []).drop ρ1 := Eq.trans rfl rfl
@[simp ↓] theorem xNext_at  (ρ : Rho) : xNext  ρ = .nx ρ := Eq.trans rfl rfl
@[simp ↓] theorem xSeq_at (x y : XS) (ρ : Rho) : xSeq x y ρ = (x ρ).seq y := Eq.trans rfl rfl
@[simp ↓] theorem xRet_at (a : XE) (ρ : Rho) : xRet a ρ = (a ρ).to fun r ρ' => .rt r ρ' := Eq.trans rfl rfl
@[simp ↓] theorem xExp_at (a : XE) (ρ : Rho) : xExp a ρ = (a ρ).to fun _ ρ' => .nx ρ' := Eq.trans rfl rfl
@[simp ↓] theorem xIf_at (t : XT) (x y : XS) (ρ : Rho) : xIf t x y ρ = (t ρ).to fun k ρ' => iteX k (x ρ') (y ρ') := Eq.trans rfl rfl
@[simp ↓] theorem xN_at (i : Nat) (r : R) (ρ : Rho) : xN i r ρ = freeX ρ[i]? (some (ρ.set i (some r))) := Eq.trans rfl rfl
@[simp ↓] theorem xAsg_at (a : XE) (g : XG) (ρ : Rho) : xAsg a g ρ = (a ρ).to fun r ρ' => opX (g r ρ') .nx := Eq.trans rfl rfl
@[simp ↓] theorem xSetIx_at (i : Nat) (a b : XE) (ρ : Rho) : xSetIx i a b ρ = (a ρ).bind fun r ρ1 => withX r fun d => ownX ρ1[i]? fun _ _ => (b ρ1).bind fun r2 ρ2 => withX r2 fun k => ownX ρ2[i]? fun o w => lstX o fun ds => intX k fun n => (ofO (ixN ds.length n) ρ2).bind fun m ρ2 => .ok (.sh .none) (ρ2.set i (some (w (.lst (ds.set m d))))) := Eq.trans rfl rfl
@[simp ↓] theorem xiSeq_at (a : XE) (ρ : Rho) : xiSeq a ρ = (a ρ).bind fun r ρ' => withX r fun d => sqX d fun ds => .ok ds ρ' := Eq.trans rfl rfl
@[simp ↓] theorem xiOf_at (v : List PyData → Option (List PyData)) (t : XA) (ρ : Rho) : xiOf v t ρ = (t ρ).bind fun ds ρ' => ofO (v ds) ρ' := Eq.trans rfl rfl
@[simp ↓] theorem xFor_at (i : XA) (g : XG) (b : XS) (ρ : Rho) : xFor i g b ρ = (i ρ).to fun ds ρ' => forX g b ds ρ' := Eq.trans rfl rfl
@[simp ↓] theorem xLc_at (i : XA) (vs : List Nat) (g : XG) (T : XT) (e : XE) (ρ : Rho) : xLc i vs g T e ρ = (i ρ).bind fun ds ρ1 => gr (calmX ρ1 vs = true) ((lcX vs g T e ds [] (wipeR ρ1 vs)).bind fun acc ρ2 => .ok (.own (.lst acc)) (restR ρ2 ρ1 vs)) := Eq.trans rfl rfl
@[simp ↓] theorem xYes_at  (ρ : Rho) : xYes  ρ = .ok true ρ := Eq.trans rfl rfl
@[simp ↓] theorem rho_get0 (a : Option R) (l : Rho) : (a :: l : Rho)[0]? = some a := Eq.trans rfl rfl
@[simp ↓] theorem rho_getS (a : Option R) (l : Rho) (n : Nat) : (a :: l : Rho)[n + 1]? = l[n]? := Eq.trans rfl rfl
@[simp ↓] theorem rho_set0 (a b : Option R) (l : Rho) : (a :: l : Rho).set 0 b = b :: l := Eq.trans rfl rfl
@[simp ↓] theorem rho_setS (a b : Option R) (l : Rho) (n : Nat) : (a :: l : Rho).set (n + 1) b = a :: l.set n b := Eq.trans rfl rfl
@[simp] theorem ixX_0 (a : PyData) (l : List PyData) : ixX (a :: l) 0 = some (.sh a) := by unfold ixX; rw [at0]; rfl
@[simp] theorem ixX_1 (a b : PyData) (l : List PyData) : ixX (a :: b :: l) 1 = some (.sh b) := by unfold ixX; rw [at1]; rfl
@[simp] theorem ixX_2 (a b c : PyData) (l : List PyData) : ixX (a :: b :: c :: l) 2 = some (.sh c) := by unfold ixX; rw [at2]; rfl
@[simp] theorem ixX_3 (a b c d : PyData) (l : List PyData) : ixX (a :: b :: c :: d :: l) 3 = some (.sh d) := by unfold ixX; rw [at3]; rfl
@[simp] theorem ixX_4 (a b c d e : PyData) (l : List PyData) : ixX (a :: b :: c :: d :: e :: l) 4 = some (.sh e) := by unfold ixX; rw [at4]; rfl
@[simp] theorem ixX_5 (a b c d e f : PyData) (l : List PyData) : ixX (a :: b :: c :: d :: e :: f :: l) 5 = some (.sh f) := by unfold ixX; rw [at5]; rfl
@[simp] theorem ixN_0 (n : Nat) : ixN (n + 1) 0 = some 0 := by simp [ixN]
@[simp] theorem ixN_1 (n : Nat) : ixN (n + 1 + 1) 1 = some 1 := by simp [ixN]; omega
theorem ixX_of {ds : List PyData} {i : Int} {d : PyData} (h0 : 0 ≤ i) (h : ds[i.toNat]? = some d) : ixX ds i = some (.sh d) := by unfold ixX; rw [at_ge h0 h]; rfl
theorem ixX_last {ds : List PyData} {d : PyData} (h : ds.getLast? = some d) : ixX ds (-1) = some (.sh d) := by unfold ixX; rw [at_last h]; rfl
theorem ixX_map {α : Type} {f : α → PyData} {xs : List α} {i : Int} {x : α} (h0 : 0 ≤ i) (h : xs[i.toNat]? = some x) : ixX (xs.map f) i = some (.sh (f x)) := ixX_of h0 (by rw [List.getElem?_map, h]; rfl)
@[simp ↓] theorem calmX_nil (ρ : Rho) : calmX ρ [] = true := Eq.trans rfl rfl
theorem lcX_map {α : Type} {vs : List Nat} {g : XG} {T : XT} {e : XE} {enc : α → PyData} {f : α → Option PyData} {ρ : Rho} : ∀ (xs : List α) (acc : List PyData), (∀ x ∈ xs, turnX vs g T e (enc x) ρ = .ok (f x) ρ) → acc.length + xs.length ≤ 1000000 →
    lcX vs g T e (xs.map enc) acc ρ = .ok (acc ++ xs.filterMap f) ρ
  | [], acc, _, _ => by simp [lcX]
  | x :: xs, acc, h, hl => by
    rw [List.length_cons] at hl
    have ih := fun acc => lcX_map xs acc (fun y hy => h y (List.mem_cons_of_mem _ hy))
    rw [List.map_cons, lcX, h x List.mem_cons_self, Re.bind_ok, List.filterMap_cons]
    cases e : f x with
    | none => simp only; rw [ih acc (by omega)]
    | some y =>
      simp only
      rw [gr_ok (by omega), ih _ (by rw [List.length_append, List.length_cons, List.length_nil]; omega)]
      simp
theorem lcX_all {α : Type} {vs : List Nat} {g : XG} {T : XT} {e : XE} {enc f : α → PyData} {ρ : Rho} (xs : List α) (acc : List PyData) (h : ∀ x ∈ xs, turnX vs g T e (enc x) ρ = .ok (some (f x)) ρ) (hl : acc.length + xs.length ≤ 1000000) :
    lcX vs g T e (xs.map enc) acc ρ = .ok (acc ++ xs.map f) ρ := by
  rw [lcX_map xs acc h hl]
  congr 2
  induction xs with
  | nil => rfl
  | cons x xs ih => rw [List.filterMap_cons, List.map_cons]; simp
theorem forX_inv {α : Type} {g : XG} {b : XS} {enc : α → PyData} (P : List α → Rho → Prop) (h : ∀ x xs ρ, P (x :: xs) ρ → ∃ ρ1 ρ2, g (.sh (enc x)) ρ = some ρ1 ∧ (b ρ1 = .nx ρ2 ∨ b ρ1 = .ct ρ2) ∧ P xs ρ2) : ∀ (xs : List α) (ρ : Rho), P xs ρ → ∃ ρ', forX g b (xs.map enc) ρ = .nx ρ' ∧ P [] ρ'
  | [], ρ, p => ⟨ρ, rfl, p⟩
  | x :: xs, ρ, p => by
    obtain ⟨ρ1, ρ2, h1, h2, h3⟩ := h x xs ρ p
    obtain ⟨ρ', e, p'⟩ := forX_inv P h xs ρ2 h3
    refine ⟨ρ', ?_, p'⟩
    rw [List.map_cons, forX_cons, h1, opX_some]
    rcases h2 with h2 | h2 <;> (rw [h2]; exact e)
theorem rangeD_map0 (n : Nat) : rangeD 0 n = (List.range n).map fun (i : Nat) => PyData.int i := by
  unfold rangeD
  apply List.map_congr_left
  intro k _
  simp
end DX
set_option Elab.async false
set_option linter.all false
set_option maxRecDepth 100000
namespace DL
open PySem PyProof.Rows L2
section
variable {X : Cx} {a b : Expr} {Ga Gb : GE} {pos : Pos}
theorem callr_or {f : Value} {r1 r2 : List V → Hp → VK → Prop} (h1 : CallR X f r1) (h2 : CallR X f r2) : CallR X f (fun vs H Q => r1 vs H Q ∨ r2 vs H Q) := by
  intro pins s σ H vs us Q I r h
  rcases h with h | h
  · exact h1 _ _ _ _ _ _ _ I r h
  · exact h2 _ _ _ _ _ _ _ I r h
theorem calld_or {K : PySem.W.Frag} {r1 r2 : List V → Hp → VK → Prop} {W1 W2 : WC} (h1 : CallD K r1 W1) (h2 : CallD K r2 W2) : CallD K (fun vs H Q => r1 vs H Q ∨ r2 vs H Q) (fun ds Q => W1 ds Q ∨ W2 ds Q) :=
  ⟨fun ds Q Q' h q => q.imp (h1.mono ds Q Q' h) (h2.mono ds Q Q' h), fun c F H σ ρ vs ds Q Qv j a q k => q.imp (fun q => h1.ok c F H σ ρ vs ds Q Qv j a q k) (fun q => h2.ok c F H σ ρ vs ds Q Qv j a q k)⟩
theorem log2_fit {i : Int} (h0 : -1000000000000000000000000000000 < i) (h1 : i < 1000000000000000000000000000000) : i.natAbs.log2 < 1920 := by
  by_cases h : i.natAbs = 0
  · rw [h]; decide
  · rw [Nat.log2_lt h]
    refine Nat.lt_of_lt_of_le (show i.natAbs < 2 ^ 100 by omega) (Nat.pow_le_pow_right (by decide) (by decide))
def wStrI : WC
  | [.int i], Q => -1000000000000000000000000000000 < i ∧ i < 1000000000000000000000000000000 ∧ Q (.sh (.str (toString i)))
  | _, _ => False
theorem cd_strI {K : PySem.W.Frag} : CallD K (fun xs H Q => ∃ i, xs = [.int i] ∧ i.natAbs.log2 < 1920 ∧ Q (.str (toString i)) H) wStrI := ⟨fun ds Q Q' h q => by
  unfold wStrI at *
  split at q
  · exact ⟨q.1, q.2.1, h _ q.2.2⟩
  · exact q, fun c F H σ ρ vs ds Q Qv j a q k => by
  unfold wStrI at q
  split at q
  · cases a with | cons h t => cases t with | nil =>
    cases h
    exact ⟨_, rfl, log2_fit q.1 q.2.1, k _ F H _ q.2.2 j (.str _)⟩
  · exact q.elim⟩
theorem de_strA {k : Nat} {t : GA} {p : Pos} (hr : Room k X.A) (hg : Gl X "str") (hm : X.mg "str" = none) (h : DA X [a] t) (he : starEach [a] X.env = [(false, eval a X.env)] := by rfl) (hpl : (backTo pos (starEach [] X.env)).any (·.1) = false := by rfl) : DE X (.Call (.Name "str" p) [a] [] pos) (gBlt (fun ds Q => wStr ds Q ∨ wStrI ds Q) t) := de_bty (calld_or cd_str cd_strI) (callr_or (call_strR hr) call_str_int) hg hm (by decide +kernel) h (by decide) (by decide) he hpl
section
variable {prog : Program} {w : World} {A : Around} {E : Value → Shared → Prop} {s : Shared} {l : Addr} {xs : Array (Int × Tok)}
end
end
end DL
set_option Elab.async false
set_option linter.all false
set_option maxRecDepth 100000
namespace DX
open PySem PyProof.Rows L2 DL
section
variable {X : Cx} {a b : Expr} {pos p : Pos} {t : XA}
def vStrB : VC
  | [.int i] => gd (-1000000000000000000000000000000 < i ∧ i < 1000000000000000000000000000000) (some (.sh (.str (toString i))))
  | [.list ds] => strX (.list ds)
  | [.tuple ds] => strX (.tuple ds)
  | _ => none
@[simp ↓] theorem vStrB_list (ds : List PyData) : vStrB [.list ds] = strX (.list ds) := Eq.trans rfl rfl
@[simp ↓] theorem vStrB_tuple (ds : List PyData) : vStrB [.tuple ds] = strX (.tuple ds) := Eq.trans rfl rfl
theorem lc_strA : Lc vStrB (fun ds Q => wStr ds Q ∨ wStrI ds Q) := fun ds z Q h q => by
  unfold vStrB at h
  split at h
  · obtain ⟨c, h⟩ := gd_inv h
    cases h; exact .inr ⟨c.1, c.2, q⟩
  · obtain ⟨c, h⟩ := gd_inv h
    cases h; exact .inl ⟨c.1, c.2.1, c.2.2.1, c.2.2.2, q⟩
  · obtain ⟨c, h⟩ := gd_inv h
    cases h; exact .inl ⟨c.1, c.2.1, c.2.2.1, c.2.2.2, q⟩
  · cases h
theorem xe_strA {k : Nat} (hr : Room k X.A) (hg : Gl X "str") (hm : X.mg "str" = none) (h : AX X [a] t) (he : starEach [a] X.env = [(false, eval a X.env)] := by rfl) (hpl : (backTo pos (starEach [] X.env)).any (·.1) = false := by rfl) : EX X (.Call (.Name "str" p) [a] [] pos) (xBlt vStrB t) := exI (de_strA hr hg hm h he hpl) (im_blt lc_strA)
end
end DX
set_option Elab.async false
set_option linter.all false
set_option maxRecDepth 100000
namespace DL
open PySem PyProof.Rows L2
section
variable {X : Cx} {a b e : Expr} {pos : Pos}
end
end DL
set_option Elab.async false
set_option linter.all false
set_option maxRecDepth 100000
namespace DX
open PySem PyProof.Rows L2 DL
section
variable {X : Cx} {a b e : Expr} {pos p : Pos} {t : XA}
end
end DX
set_option Elab.async false
set_option linter.all false
set_option maxRecDepth 100000
namespace DL
open PySem PyProof.Rows L2
section
variable {X : Cx}
end
end DL
set_option Elab.async false
set_option linter.all false
set_option maxRecDepth 100000
namespace DX
open PySem PyProof.Rows L2 DL
section
variable {X : Cx} {pos : Pos}
end
end DX
set_option Elab.async false
set_option linter.all false
set_option maxRecDepth 100000
namespace DL
open PySem PyProof.Rows L2
section
variable {prog : Program} {w : World} {A : Around} {R : Result → Shared → Prop} {J0 : Addr} {fp wr : List Addr} {n : Nat} {P : Nat → Value → Prop} {St : Nat → Heap → Prop}
end
section
variable {prog : Program} {w : World} {A : Around} {E : Value → Shared → Prop} {s : Shared} {l : Addr}
end
section
variable {prog : Program} {w : World} {A : Around} {R : Result → Shared → Prop} {J0 : Addr} {fp wr : List Addr} {n : Nat} {P : Nat → Value → Prop} {St : Nat → Heap → Prop}
end
section
variable {prog : Program} {w : World} {A : Around} {E : Value → Shared → Prop} {s : Shared} {l : Addr}
end
section
variable {X : Cx} {a b e : Expr} {es : List Expr} {pos p kp : Pos} {id : String} {x : Str}
def CDivW (i j : Int) : Prop := 0 < j ∧ j.natAbs.log2 < 9000
end
end DL
set_option Elab.async false
set_option linter.all false
set_option maxRecDepth 100000
namespace DX
open PySem PyProof.Rows L2 DL
section
variable {X : Cx} {a b e : Expr} {pos p kp : Pos} {xa xb : XE}
instance (i j : Int) : Decidable (CDivW i j) := by unfold CDivW; infer_instance
end
end DX
set_option Elab.async false
set_option linter.all false
set_option maxRecDepth 100000
namespace DL
open PySem L2
def frzS : Option R → Option R
  | some (.sh d) => some (.sh d)
  | some (.own (.lst ds)) => some (.sh (.list ds))
  | some (.io (.lst ds)) => some (.sh (.list ds))
  | _ => none
def frzR (ρ : Rho) : Rho := ρ.map frzS
section
variable {K : PySem.W.Frag} {c : En} {F F' H H' : Hp} {σ : L2.St} {ρ : Rho}
open Classical in
noncomputable def lentF (F H : Hp) (σ : L2.St) (ρ : Rho) : Hp := fun b => match F b with
  | some o => some o
  | none => if ∃ i ds, Ow ρ i (.lst ds) ∧ σ[i]? = some (some (V.ref b)) then H b else none
theorem frzR_get {i : Nat} {r : R} (h : (frzR ρ)[i]? = some (some r)) : ∃ d, r = .sh d ∧ (ρ[i]? = some (some (.sh d)) ∨ ∃ ds, d = .list ds ∧ Ow ρ i (.lst ds)) := by
  unfold frzR at h
  rw [List.getElem?_map] at h
  cases e : ρ[i]? with
  | none => rw [e] at h; cases h
  | some s =>
    rw [e] at h
    simp only [Option.map_some, Option.some.injEq] at h
    match s, h with
    | some (.sh d), h => cases h; exact ⟨d, rfl, .inl rfl⟩
    | some (.own (.lst ds)), h => cases h; exact ⟨_, rfl, .inr ⟨ds, rfl, .inl e⟩⟩
    | some (.io (.lst ds)), h => cases h; exact ⟨_, rfl, .inr ⟨ds, rfl, .inr e⟩⟩
theorem lentF_old (F H : Hp) (σ : L2.St) (ρ : Rho) : Same F (lentF F H σ ρ) := fun b o h => by unfold lentF; rw [h]
theorem J.lent (j : J K c F H σ ρ) : J K ⟨lentF F H σ ρ, H, []⟩ (lentF F H σ ρ) H σ (frzR ρ) where
  len := by rw [j.len]; unfold frzR; rw [List.length_map]
  ff := Same.refl _
  fh := fun b o h => by
    unfold lentF at h
    split at h
    · next e => cases h; exact j.fh _ _ e
    · split at h
      · exact h
      · cases h
  zh := Same.refl _
  fz := fun b o h => .inl h
  sh := fun i d h => by
    obtain ⟨d', e, hh⟩ := frzR_get h
    cases e
    rcases hh with hh | ⟨ds, rfl, hh⟩
    · obtain ⟨v, a, b⟩ := j.sh i d hh
      exact ⟨v, a, dpM (lentF_old F H σ ρ) b⟩
    · obtain ⟨a, ho, h1, h2, ⟨vs, rfl, h3⟩, h4, h5⟩ := j.ow i _ hh
      refine ⟨_, h1, .lst (SqL.of (show lentF F H σ ρ a = some (.lst vs) from ?_)) (dpAllM (lentF_old F H σ ρ) h3)⟩
      unfold lentF
      rw [h4]
      simp only
      rw [if_pos ⟨i, ds, hh, h1⟩]
      exact h2
  ow := fun i o h => by
    rcases h with h | h
    · obtain ⟨d, e, _⟩ := frzR_get h; cases e
    · obtain ⟨d, e, _⟩ := frzR_get h; cases e
  nd := fun i _ o _ _ h => by
    rcases h with h | h
    · obtain ⟨d, e, _⟩ := frzR_get h; cases e
    · obtain ⟨d, e, _⟩ := frzR_get h; cases e
  ios := fun p h => by cases h
open Classical in
end
section
variable {X : Cx} {e : Expr}
end
end DL
set_option Elab.async false
set_option linter.all false
set_option maxRecDepth 100000
namespace DX
open PySem PyProof.Rows L2 DL
section
variable {X : Cx} {e : Expr} {xa : XE} {ta : XT}
@[simp ↓] theorem frzR_nil : frzR [] = [] := Eq.trans rfl rfl
@[simp ↓] theorem frzR_cons (s : Option R) (ρ : Rho) : frzR (s :: ρ) = frzS s :: frzR ρ := Eq.trans rfl rfl
@[simp ↓] theorem frzS_sh (d : PyData) : frzS (some (.sh d)) = some (.sh d) := Eq.trans rfl rfl
@[simp ↓] theorem frzS_io (ds : List PyData) : frzS (some (.io (.lst ds))) = some (.sh (.list ds)) := Eq.trans rfl rfl
@[simp ↓] theorem frzS_none : frzS none = none := Eq.trans rfl rfl
end
end DX
set_option Elab.async false
set_option linter.all false
set_option maxRecDepth 100000
namespace DL
open PySem PyProof.Rows L2
section
variable {X : Cx} {a b e o : Expr} {Ga Gb : GE} {pos : Pos}
end
theorem sw_cell {elt : Expr} {gs : List Comprehension} {scope : Scope} {pos py : Pos} {y : Str} {l : Nat} {env : Env} (hy : env.scope.names.lookup y = some .cell) : swapsWith (.ListComp elt gs scope pos) (some (.Name y py)) l env = pure false := by
  have ky : env.kindOf y = some .cell := hy
  unfold swapsWith
  simp only [ky]
  have e : ((some NameKind.cell : Option NameKind) == some .local) = false := rfl
  simp only [e, Bool.and_false, Bool.false_and]
end DL
set_option Elab.async false
set_option linter.all false
set_option maxRecDepth 100000
namespace DX
open PySem PyProof.Rows L2 DL
section
variable {X : Cx} {a b : Expr} {pos : Pos} {xa xb : XE}
end
end DX
set_option Elab.async false
set_option linter.all false
set_option maxRecDepth 100000
namespace DL
open PySem L2
section
variable {X : Cx} {tg tg1 a b e : Expr} {es : List Expr} {Ga Gb : GE} {pos : Pos}
variable {elt iter iter1 : Expr} {ifs ifs1 : List Expr} {scope : Scope} {own : List (Str × Nat)} {vs1 : List Nat} {i i1 : GI} {g g1 : GG} {T T1 : GT} {Ge : GE} {sl sl1 : List Nat}
end
end DL
set_option Elab.async false
set_option linter.all false
set_option maxRecDepth 100000
namespace DX
open PySem PyProof.Rows L2 DL
section
variable {X : Cx} {a b tg tg1 : Expr} {pos p : Pos} {scope : Scope} {t : XA}
variable {elt iter iter1 : Expr} {ifs ifs1 : List Expr} {own : List (Str × Nat)} {vs1 : List Nat} {i i1 : XA} {g g1 : XG} {T T1 : XT} {xe : XE} {sl sl1 : List Nat}
end
section
variable {X : Cx} {a b : Expr} {pos py : Pos} {y : Str} {i : Nat} {xa xb : XE}
end
end DX
set_option Elab.async false
set_option linter.all false
set_option maxRecDepth 100000
set_option maxHeartbeats 1000000
namespace PF
open PySem PySem.W PyProof.Rows
section
variable {α β : Type}
def ask (lt : Nat → Nat → Bool) : KasT α → α
  | .ret a => a
  | .ask i j k => ask lt (k (lt i j))
end
variable (r : Nat → Int)
def ky (p : Array Nat) (i : Nat) : Int := r (p.getD i 0)
def Up (p : Array Nat) (k : Nat) : Prop := ∀ i j, i ≤ j → j < k → ky r p i ≤ ky r p j
def Down (p : Array Nat) (k : Nat) : Prop := ∀ i j, i ≤ j → j < k → ky r p j ≤ ky r p i
variable {r}
theorem ky_congr {p q : Array Nat} {i j : Nat} (h : p[i]? = q[j]?) : ky r p i = ky r q j := by
  unfold ky
  rw [Array.getD_eq_getD_getElem?, Array.getD_eq_getD_getElem?, h]
theorem ky_rev {p : Array Nat} {i j : Nat} (hj : j ≤ p.size) (k : Nat) : ky r (kas_rev p i j) k = if i ≤ k ∧ k < j then ky r p (i + j - 1 - k) else ky r p k := by
  have h := getElem?_mirror_all (xs := p) (i := i) hj k
  split
  · next c => exact ky_congr (by unfold kas_rev; rw [h, if_pos c])
  · next c => exact ky_congr (by unfold kas_rev; rw [h, if_neg c])
theorem ky_rev_eq {p : Array Nat} {i j : Nat} (hj : j ≤ p.size) (e : ∀ k, i ≤ k → k < j → ky r p k = ky r p (j - 1)) (k : Nat) : ky r (kas_rev p i j) k = ky r p k := by
  rw [ky_rev hj]
  split
  · rw [e k (by omega) (by omega), e _ (by omega) (by omega)]
  · rfl
theorem rev_perm (p : Array Nat) (i j : Nat) : (kas_rev p i j).Perm p := mirror_perm _ _ _ _
theorem Up.more {p : Array Nat} {n : Nat} (h : Up r p n) (h1 : 1 ≤ n) (hn : ¬ ky r p n < ky r p (n - 1)) : Up r p (n + 1) := by
  intro i j hij hj
  by_cases e : j = n
  · subst e
    by_cases e2 : i = j
    · subst e2; omega
    · have := h i (j - 1) (by omega) (by omega)
      omega
  · exact h i j hij (by omega)
theorem Down.more {p : Array Nat} {n : Nat} (h : Down r p n) (h1 : 1 ≤ n) (hn : ky r p n ≤ ky r p (n - 1)) : Down r p (n + 1) := by
  intro i j hij hj
  by_cases e : j = n
  · subst e
    by_cases e2 : i = j
    · subst e2; omega
    · have := h i (j - 1) (by omega) (by omega)
      omega
  · exact h i j hij (by omega)
structure DOk (r : Nat → Int) (p0 p : Array Nat) (n q : Nat) : Prop where
  perm : p.Perm p0
  down : Down r p n
  le : q + 1 ≤ n
  eq : ∀ k, n - (q + 1) ≤ k → k < n → ky r p k = ky r p (n - 1)
theorem DOk.turn {p0 p : Array Nat} {n q : Nat} (h : DOk r p0 p n q) (hn : n ≤ p0.size) : DOk r p0 (kas_rev p (n - (q + 1)) n) n q := by
  have hs : n ≤ p.size := by rw [h.perm.size_eq]; exact hn
  have kk := ky_rev_eq (r := r) (p := p) (i := n - (q + 1)) (j := n) hs h.eq
  exact ⟨(rev_perm _ _ _).trans h.perm, fun i j a b => by rw [kk, kk]; exact h.down i j a b, h.le, fun k a b => by rw [kk, kk]; exact h.eq k a b⟩
theorem DOk.zero {p0 p : Array Nat} {n q : Nat} (h : DOk r p0 p n q) : DOk r p0 p n 0 := ⟨h.perm, h.down, by have := h.le; omega, fun k a b => by rw [show k = n - 1 by omega]⟩
end PF
set_option Elab.async false
set_option linter.all false
set_option maxRecDepth 100000
set_option maxHeartbeats 1000000
namespace PF
open PySem PySem.W PyProof.Rows
variable {prog : Program} {w : World} {A : Around} {E : Value → Shared → Prop} {s : Shared} {b fin : Bool} {Q : Bool → Shared → Prop}
end PF
set_option Elab.async false
set_option linter.all false
set_option maxRecDepth 100000
set_option maxHeartbeats 1000000
namespace PF
open PySem PySem.W PyProof.Rows PySem.Calls
def In (n : Nat) {α : Type} : KasT α → (α → Prop) → Prop
  | .ret a, P => P a
  | .ask i j k, P => i < n ∧ j < n ∧ ∀ b, In n (k b) P
section
variable {n : Nat} {α β : Type}
theorem In.bind {P : β → Prop} {f : α → KasT β} : ∀ t : KasT α, In n t (fun a => In n (f a) P) → In n (t.bind f) P
  | .ret _, h => h
  | .ask _ _ k, h => ⟨h.1, h.2.1, fun b => In.bind (k b) (h.2.2 b)⟩
theorem In.mono {P P' : α → Prop} (q : ∀ a, P a → P' a) : ∀ t : KasT α, In n t P → In n t P'
  | .ret _, h => q _ h
  | .ask _ _ k, h => ⟨h.1, h.2.1, fun b => In.mono q (k b) (h.2.2 b)⟩
end
section
variable {n : Nat}
end
section
variable {prog : Program} {w : World} {A : Around} {E : Value → Shared → Prop} {s : Shared}
end
end PF
set_option Elab.async false
set_option linter.all false
set_option maxRecDepth 100000
namespace DL
open PySem PyProof.Rows L2 PF PySem.W
theorem vals_refs : ∀ {z : List (Addr × List Int)} {us : List Value}, Vals (z.map fun p => V.ref p.1) us → us = z.map fun p => Value.ref p.1
  | [], _, .nil => rfl
  | p :: z, _, .cons r t => by
    cases r
    rw [vals_refs t]
    rfl
section
variable {prog : Program} {w : World} {A : Around} {s : Shared}
end
section
variable {X : Cx} {a : Expr} {pos : Pos}
end
end DL
set_option Elab.async false
set_option linter.all false
set_option maxRecDepth 100000
namespace DX
open PySem PyProof.Rows L2 DL
section
variable {X : Cx} {a : Expr} {pos p : Pos} {t : XA}
instance (ts : List (List Int)) : Decidable (∀ t, t ∈ ts → t ≠ []) := inferInstanceAs (Decidable (∀ t ∈ ts, t ≠ []))
end
end DX
set_option Elab.async false
set_option linter.all false
set_option maxRecDepth 100000
namespace DL
open PySem PyProof.Rows L2
section
variable {X : Cx} {pins : List (Addr × Obj)} {σ : L2.St} {H : Hp} {s : Shared} {a : Addr} {xs : List V}
end
section
variable {X : Cx}
variable {o e : Expr} {to : TE} {t : TA} {apos cpos : Pos}
end
end DL
set_option Elab.async false
set_option linter.all false
set_option maxRecDepth 100000
namespace DX
open PySem PyProof.Rows L2 DL
section
variable {X : Cx} {o e : Expr} {apos cpos : Pos} {xa xb : XE}
end
end DX
set_option Elab.async false
set_option linter.all false
set_option maxRecDepth 100000
namespace DL
open PySem PyProof.Rows L2
section
variable {X : Cx} {a : Expr} {pos pos2 p p2 : Pos} {t : GA}
end
end DL
namespace DX
open PySem PyProof.Rows L2 DL
section
variable {X : Cx} {a : Expr} {pos pos2 p p2 : Pos} {t : XA}
end
end DX
set_option Elab.async false
set_option linter.all false
set_option maxRecDepth 100000
namespace DL
open PySem PyProof.Rows L2
section
variable {X : Cx} {a b b1 b2 : Expr} {Ga Gb Gb1 Gb2 : GE} {pos : Pos} {i : Nat}
end
end DL
namespace DX
open PySem PyProof.Rows L2 DL
section
variable {X : Cx} {a b b1 b2 : Expr} {xa xb1 xb2 : XE} {pos : Pos} {i : Nat}
end
end DX
set_option Elab.async false
set_option linter.all false
set_option maxRecDepth 100000
namespace DL
open PySem PyProof.Rows L2
section
variable {prog : Program} {w : World} {A : Around} {E : Value → Shared → Prop} {s : Shared}
end
end DL
namespace DX
open PySem PyProof.Rows L2 DL
section
variable {X : Cx} {a b : Expr} {pos p : Pos} {t : XA}
end
section
variable {X : Cx} {a b c : Expr} {pos : Pos} {xa xb xc : XE}
end
end DX
set_option Elab.async false
set_option linter.all false
set_option maxRecDepth 100000
namespace DX
open PySem PyProof.Rows L2 DL
section
variable {X : Cx} {a b : Expr} {pos : Pos} {xa xb : XE}
end
end DX
set_option Elab.async false
set_option linter.all false
set_option maxRecDepth 100000
namespace DL
open PySem PyProof.Rows L2
section
variable {prog : Program} {w : World} {A : Around} {E : Value → Shared → Prop} {s : Shared}
end
end DL
namespace DX
open PySem PyProof.Rows L2 DL
section
variable {X : Cx} {a b : Expr} {pos p : Pos} {t : XA}
end
end DX
set_option Elab.async false
set_option linter.all false
set_option maxRecDepth 100000
namespace DL
open PySem PyProof.Rows L2
theorem dict_mapF (o : Obj) (f : Array Value → Array Value) : (o.mapFields f).dict = o.dict := by
  obtain ⟨c, d, dt, sl⟩ := o
  cases dt <;> rfl
theorem heap_setF {h : Heap} {a : Addr} {o : Obj} {vs : Array Value} (k : Nat) (x : Value) (ho : h.get? a = some o) (hd : o.data = .fields vs) :
    ∃ o', (h.update a (Obj.mapFields (·.setIfInBounds k x))).get? a = some o' ∧ o'.cls = o.cls ∧ o'.dict = o.dict ∧ o'.data = .fields (vs.setIfInBounds k x) ∧
      ∀ b, b ≠ a → (h.update a (Obj.mapFields (·.setIfInBounds k x))).get? b = h.get? b :=
  ⟨_, Heap.get?_update_self _ ho (Obj.isFreed_of_fields (Obj.data_mapFields hd _)), Obj.cls_mapFields _ _, dict_mapF _ _, Obj.data_mapFields hd _, fun b hb => Heap.get?_update_other _ _ (Ne.symm hb)⟩
structure Xo (lf : Option Addr) (h : Heap) (e : Addr) (cls : Value) (dx T : Option Addr) : Prop where
  ex : ∃ oe vs, h.get? e = some oe ∧ oe.cls = cls ∧ oe.dict = dx ∧ oe.data = .fields vs ∧ 1 < vs.size ∧ vs[1]? = some (T.elim Value.none Value.ref) ∧ vs[2]? = some .none
  tr : ∀ t, T = some t → t ≠ e ∧ ∃ ot ts, h.get? t = some ot ∧ ot.data = .fields ts ∧ 3 < ts.size ∧ (ts[3]? = some .none ∨ ∃ f, lf = some f ∧ ts[3]? = some (rawInt f))
theorem Xo.weak {lf : Option Addr} {h : Heap} {e : Addr} {cls : Value} {dx T : Option Addr} (x : Xo none h e cls dx T) : Xo lf h e cls dx T :=
  ⟨x.ex, fun t ht => by
    obtain ⟨ne, ot, ts, h1, h2, h3, h4⟩ := x.tr t ht
    refine ⟨ne, ot, ts, h1, h2, h3, .inl ?_⟩
    rcases h4 with h4 | ⟨f, z, _⟩
    · exact h4
    · cases z⟩
structure Xk (fs : List Addr) (e : Addr) (T : Option Addr) (h h' : Heap) : Prop where
  keep : ∀ b o, h.get? b = some o → b ≠ e → some b ≠ T → b ∉ fs → h'.get? b = some o
  slot : ∀ b o, h.get? b = some o → b ∈ fs → (∀ vs, o.data ≠ .fields vs) → ∃ sl, h'.get? b = some { o with slots := sl }
section
variable {M : Model} {A : Around} {E : Value → Shared → Prop} {s : Shared}
theorem xo_noted {base : Heap} {env : Env} {outer : List Env} {L e : Addr} {cls : Value} {dx T : Option Addr} {Q : Unit → Shared → Prop} (hfr : A.frames = some (env :: outer)) (hl : s.heap.FunFrames base (env :: outer)) (hf : env.frame = some L) (x : Xo env.frame s.heap e cls dx T)
    (k : ∀ h' T', Xo none h' e cls dx (some T') → (s.heap.objs.size ≤ T' ∨ T = some T') → Xk ((env :: outer).filterMap (·.frame)) e T s.heap h' → Q () { s with heap := h' }) :
    wpAny M A (noteFrame (.ref e) env) (fun _ s' => wpAny M A (setFlight (.ref e) none) Q E s') E s := by
  obtain ⟨⟨oe, vs, ge, gc, gd, gf, gz, g1, g2⟩, tr⟩ := x
  have nfe : e ∉ (env :: outer).filterMap (·.frame) := fun hm => by
    obtain ⟨_, o, ho, hn⟩ := hl.mem hm
    rw [ge] at ho
    cases ho
    exact hn vs gf
  -- from a heap in which the old entry is let go
  have main : ∀ (h1 : Heap) (hd : Value) (b : Bool), h1.get? e = some oe → (∀ c, some c ≠ T → h1.get? c = s.heap.get? c) → h1.objs.size = s.heap.objs.size → h1.FunFrames base (env :: outer) →
      wpAny M A (do setField (.ref e) 1 (← EntryCells.newEntry hd (← frameOf env) .none (rawInt L) .none (← entryPlaceOf L b))) (fun _ s' => wpAny M A (setFlight (.ref e) none) Q E s') E { s with heap := h1 } := by
    intro h1 hd b e1 same sz1 fun1
    refine wpAny_bind (wpAny_frameOf_fun hfr fun1 hf fun h2 so => ?_)
    refine wpAny_bind (wpAny_entryPlaceOf fun pl hpl => ?_)
    unfold EntryCells.newEntry newFields
    refine wpAny_bind (wpAny_newObj_type (?_) (hpl.sizeOk5 _ _ _ _ _))
    have e2 : h2.get? e = some oe := (so.2.1 e nfe).trans e1
    generalize hN : ([hd, Value.ref L, Value.none, rawInt L, Value.none] ++ (if pl.isEmpty then List.replicate 6 Value.none else pl)).toArray = N
    have n3 : 3 < N.size := by
      rw [← hN]
      simp only [List.size_toArray, List.length_append, List.length_cons, List.length_nil] <;> omega
    have e3 : (h2.push { cls := .type "traceback", data := .fields N }).get? e = some oe := Heap.get?_push_of_some _ e2
    refine wpAny_setField (s := { s with heap := h2.push { cls := .type "traceback", data := .fields N } }) e3 gf gz ?_
    obtain ⟨oe', p1, p2, p3, p4, p5⟩ := heap_setF 1 (Value.ref h2.objs.size) e3 gf
    have Te : h2.objs.size ≠ e := Nat.ne_of_gt (Heap.lt_size e2)
    have t3 := (p5 h2.objs.size Te).trans (Heap.get?_push_size h2 rfl)
    generalize hh : (h2.push { cls := .type "traceback", data := .fields N }).update e (Obj.mapFields (·.setIfInBounds 1 (Value.ref h2.objs.size))) = h3 at p1 p5 t3
    unfold setFlight
    have v1 : (vs.setIfInBounds 1 (Value.ref h2.objs.size))[1]? = some (.ref h2.objs.size) := by simp [gz]
    refine wpAny_bind (wpAny_field (s := { s with heap := h3 }) p1 p4 v1 ?_)
    rw [if_pos (show (Value.ref h2.objs.size != Value.none) = true from by simp)]
    refine wpAny_setField (s := { s with heap := h3 }) t3 rfl n3 ?_
    obtain ⟨ot, q1, q2, q3, q4, q5⟩ := heap_setF 3 ((none : Option Addr).elim Value.none fun f => rawInt f) t3 rfl
    have sz : h2.objs.size = h1.objs.size := so.1
    have up : ∀ c o, c ≠ e → h2.get? c = some o → (h3.update h2.objs.size (Obj.mapFields (·.setIfInBounds 3 ((none : Option Addr).elim Value.none fun f => rawInt f)))).get? c = some o := fun c o ce hc => by
      rw [q5 c (Nat.ne_of_lt (Heap.lt_size hc)), p5 c ce]
      exact Heap.get?_push_of_some _ hc
    refine k _ h2.objs.size ⟨⟨oe', _, (q5 e (Ne.symm Te)).trans p1, p2.trans gc, p3.trans gd, p4, by simpa using gz, v1, by simpa using g2⟩, fun t ht => ?_⟩ ?_ ⟨fun c o hc ce cT cf => ?_, fun c o hc cf nf => ?_⟩
    · cases ht
      exact ⟨Te, ot, _, q1, q4, by simpa using n3, .inl (by simp [n3])⟩
    · left; rw [sz, sz1]; exact Nat.le_refl _
    · exact up c o ce ((so.2.1 c cf).trans ((same c cT).trans hc))
    · have ce : c ≠ e := fun q => nfe (q ▸ cf)
      have cT : some c ≠ T := fun q => by
        obtain ⟨_, ot', ts', g', d', _⟩ := tr _ q.symm
        rw [hc] at g'
        cases g'
        exact nf ts' d'
      obtain ⟨sl, hs⟩ := so.2.2 c o ((same c cT).trans hc)
      exact ⟨sl, up c _ ce hs⟩
  unfold noteFrame
  simp only [hf]
  cases T with
  | none =>
    refine wpAny_bind (wpAny_field ge gf g1 ?_)
    rw [if_neg (by decide)]
    exact main s.heap .none _ ge (fun _ _ => rfl) rfl hl
  | some t =>
    obtain ⟨te, ot, ts, gt, td, tz, t3⟩ := tr t rfl
    refine wpAny_bind (wpAny_field ge gf g1 ?_)
    show wpAny M A (if (Value.ref t != Value.none) = true then _ else _) _ E s
    rw [if_pos (show (Value.ref t != Value.none) = true from by simp)]
    rcases t3 with t3 | ⟨f, lf, t3⟩
    case inr =>
      rw [hf] at lf
      cases lf
      refine wpAny_bind (wpAny_field gt td t3 ?_)
      rw [if_pos (show ((rawInt L == rawInt L) = true) from by simp)]
      refine wpAny_pure ?_
      unfold setFlight
      refine wpAny_bind (wpAny_field ge gf g1 ?_)
      show wpAny M A (if (Value.ref t != Value.none) = true then _ else _) _ E s
      rw [if_pos (show (Value.ref t != Value.none) = true from by simp)]
      refine wpAny_setField gt td tz ?_
      obtain ⟨ot', q1, q2, q3, q4, q5⟩ := heap_setF 3 ((none : Option Addr).elim Value.none fun f => rawInt f) gt td
      have up : ∀ b o, s.heap.get? b = some o → (∀ vs, o.data ≠ .fields vs) → (s.heap.update t (Obj.mapFields (·.setIfInBounds 3 ((none : Option Addr).elim Value.none fun f => rawInt f)))).get? b = some o := fun b o hb nf => (q5 b fun z => by
        rw [z, gt] at hb
        cases hb
        exact nf ts td).trans hb
      refine k _ t ⟨⟨oe, vs, (q5 e (Ne.symm te)).trans ge, gc, gd, gf, gz, g1, g2⟩, fun t' ht => ?_⟩ (.inr rfl) ⟨fun c o hc ce cT cf => (q5 c fun z => cT (by rw [z])).trans hc, fun c o hc cf nf => ⟨o.slots, up c o hc nf⟩⟩
      cases ht
      exact ⟨te, ot', _, q1, q4, by simpa using tz, .inl (by simp [tz])⟩
    refine wpAny_bind (wpAny_field gt td t3 ?_)
    rw [if_neg (show ¬ ((Value.none == rawInt L) = true) from by simp [rawInt])]
    refine wpAny_bind (wpAny_setField gt td tz ?_)
    obtain ⟨ot', q1, q2, q3, q4, q5⟩ := heap_setF 3 Value.none gt td
    refine main _ (.ref t) _ ((q5 e (Ne.symm te)).trans ge) (fun c hc => q5 c fun z => hc (by rw [z])) (Heap.size_update ..) (hl.of_keeps fun b o hb nf => ?_)
    have : b ≠ t := fun z => by
      rw [z, gt] at hb
      cases hb
      exact nf ts td
    exact ⟨o, (q5 b this).trans hb, rfl⟩
theorem xo_note {base : Heap} {env : Env} {outer : List Env} {L e : Addr} {cls : Value} {dx T : Option Addr} {Q : Unit → Shared → Prop} (hfr : A.frames = some (env :: outer)) (hl : s.heap.FunFrames base (env :: outer)) (hf : env.frame = some L) (x : Xo env.frame s.heap e cls dx T)
    (k : ∀ h' T', Xo none h' e cls dx (some T') → (s.heap.objs.size ≤ T' ∨ T = some T') → Xk ((env :: outer).filterMap (·.frame)) e T s.heap h' → Q () { s with heap := h' }) :
    wpAny M A (leaving env (.ref e)) Q E s := by
  unfold leaving
  exact wpAny_bind (xo_noted hfr hl hf x k)
theorem xo_flight {lf : Option Addr} {e : Addr} {cls : Value} {dx : Option Addr} {t : Addr} {Q : Unit → Shared → Prop} (x : Xo lf s.heap e cls dx (some t))
    (k : ∀ h', Xo none h' e cls dx (some t) → (∀ b, b ≠ t → h'.get? b = s.heap.get? b) → h'.objs.size = s.heap.objs.size → Q () { s with heap := h' }) : wpAny M A (setFlight (.ref e) none) Q E s := by
  obtain ⟨⟨oe, vs, ge, gc, gd, gf, gz, g1, g2⟩, tr⟩ := x
  obtain ⟨te, ot, ts, gt, td, tz, t3⟩ := tr t rfl
  unfold setFlight
  refine wpAny_bind (wpAny_field ge gf g1 ?_)
  show wpAny M A (if (Value.ref t != Value.none) = true then _ else _) _ E s
  rw [if_pos (show (Value.ref t != Value.none) = true from by simp)]
  refine wpAny_setField gt td tz ?_
  obtain ⟨ot', q1, q2, q3, q4, q5⟩ := heap_setF 3 ((none : Option Addr).elim Value.none fun f => rawInt f) gt td
  refine k _ ⟨⟨oe, vs, (q5 e (Ne.symm te)).trans ge, gc, gd, gf, gz, g1, g2⟩, fun t' ht => ?_⟩ q5 (Heap.size_update ..)
  cases ht
  exact ⟨te, ot', _, q1, q4, by simpa using tz, .inl (by simp [tz])⟩
end
end DL
set_option Elab.async false
set_option linter.all false
set_option maxRecDepth 100000
namespace DL
open PySem PyProof.Rows L2
section
variable {prog : Program} {w : World} {A : Around} {E : Value → Shared → Prop} {h : Heap} {g : Array GenState} {d : Drawn} {t : Nat} {os : OsState}
variable {nm q : Str} {C N : Addr} {bs bm bmB : List Value} {hdct : Bool} {sn : List Str} {sub : List Value} {ab : Bool} {col : Option Bool} {dd : Option Addr} {k0 k1 k2 k3 k5 : Option Value} {B newId initId : String}
abbrev xcT (rest : List Value) : Obj := { cls := .type "tuple", data := .seq rest.toArray }
abbrev xcE (C t : Addr) : Obj := { cls := .ref C, data := .fields #[.ref t, .none, .none, .none, .bool false, .none] }
theorem xc_tcall (F : ExcBaseFacts B newId initId bmB) (T : OwnTail h bmB bm) {mN : Str → Option Value} {rest : List Value} {fI : Addr} {oI : Obj} {Q : Fin → Shared → Prop}
    (hC : h.get? C = some (excClassObj nm q C N bs bm hdct sn sub ab col dd k0 k1 k2 k3 k5 newId)) (hn : h.Ns N mN) (hi : mN "__init__" = some (.ref fI)) (hf : h.get? fI = some oI) (hc : oI.cls = .type "function") (hl : rest.length ≤ sizeLine)
    (k : wpAny (model prog w) A (call (.ref fI) (.ref (h.objs.size + 1) :: rest)) (fun r s' => r = .none ∧ Q (.done (.ret (.ref (h.objs.size + 1)))) s') E ⟨(h.push (xcT rest)).push (xcE C h.objs.size), g, d, t, os⟩) :
    wpAny (model prog w) A (Builtin.«type.__call__» ⟨.ref C :: rest, []⟩) Q E ⟨h, g, d, t, os⟩ := by
  repeat (first | with_reducible refine wpAny_loadPart_at hC ?_ | with_reducible refine wpAny_madeBy_exc hC ?_ | wp_step)
  refine codeAny_call_builtin_code (Code.quiet_builtin _ F.quiet) (wpAny_check_new_subT F T hC (codeAny_exc_new_subT F T hC ?_ hl))
  show wpAny _ _ _ _ _ _
  have up : ∀ b o, h.get? b = some o → ((h.push (xcT rest)).push (xcE C h.objs.size)).get? b = some o := fun b o e => Heap.get?_push_of_some _ (Heap.get?_push_of_some _ e)
  have hC1 := up _ _ hC
  have hn1 : ((h.push (xcT rest)).push (xcE C h.objs.size)).Ns N mN := hn.keeps up
  have ge : ((h.push (xcT rest)).push (xcE C h.objs.size)).get? (h.objs.size + 1) = some (xcE C h.objs.size) := by
    rw [← Heap.size_push h (xcT rest)]
    exact Heap.get?_push_size _ rfl
  have cc : (Value.ref C :: bm).contains (.ref C) = true := by simp
  have T1 := T.keeps up
  unfold isInstance
  repeat (first | with_reducible refine wpAny_loadPart_at ge ?_ | (with_reducible refine wpAny_isSubtype_exc hC1 ?_; rw [cc]) | wp_step)
  show wpAny _ _ (typeLookup (.ref C) _) _ _ _
  refine wpAny_typeLookup_tail hC1 hn1 T1 F.mroIs F.init.lookup (?_)
  rw [hi]
  refine wpAny_holding (wpAny_bind (?_))
  unfold bindSpecial
  refine wpAny_bind (wpAny_typeOf (T := "function") ⟨_, up _ _ hf, hc⟩ (?_))
  rw [if_pos (by decide)]
  refine wpAny_pure (wpAny_bind (wpAny_mono k (fun r s' hr => ?_) fun _ _ x => x))
  obtain ⟨rfl, hQ⟩ := hr
  wp_walk
  exact hQ
theorem xc_call (F : ExcBaseFacts B newId initId bmB) (T : OwnTail h bmB bm) {mN : Str → Option Value} {rest : List Value} {fI : Addr} {oI : Obj} {Q : Value → Shared → Prop}
    (hC : h.get? C = some (excClassObj nm q C N bs bm hdct sn sub ab col dd k0 k1 k2 k3 k5 newId)) (hn : h.Ns N mN) (hi : mN "__init__" = some (.ref fI)) (hf : h.get? fI = some oI) (hc : oI.cls = .type "function") (hl : rest.length ≤ sizeLine)
    (k : wpAny (model prog w) (A.under (.builtin "type.__call__" ⟨.ref C :: rest, []⟩)) (call (.ref fI) (.ref (h.objs.size + 1) :: rest)) (fun r s' => r = .none ∧ Q (.ref (h.objs.size + 1)) s') E ⟨(h.push (xcT rest)).push (xcE C h.objs.size), g, d, t, os⟩) :
    wpAny (model prog w) A (call (.ref C) rest) Q E ⟨h, g, d, t, os⟩ := by
  have f1 := tc_lookup
  have f2 := tc_bind (.ref C)
  have ty : (⟨h, g, d, t, os⟩ : Shared).TypeIs (.ref C) "type" := ⟨_, hC, rfl⟩
  refine wpAny_call (codeAny_of_tree (?_))
  show wpAny _ _ (callAny (.ref C) _) _ _ _
  repeat (any_goals (first | assumption | with_reducible refine wpAny_loadPart_at hC ?_ | wp_step))
  exact ⟨rfl, codeAny_call_builtin_at (Code.quiet_builtin _ (by decide +kernel)) entry_typeCall (wpAny_check_type_call_sub hC (xc_tcall F T hC hn hi hf hc hl k))⟩
end
end DL
set_option Elab.async false
set_option linter.all false
set_option maxRecDepth 100000
namespace DL
open PySem PyProof.Rows L2
theorem refuse_tail {h : Heap} {bmB tl : List Value} {self : Value} {what : Str} (T : OwnTail h bmB tl) (p : refuseLoop self what bmB = pure ()) : refuseLoop self what tl = pure () := by
  induction T with
  | base => exact p
  | own _ _ _ _ ih => rw [refuseLoop_ref]; exact ih
section
variable {prog : Program} {w : World} {A : Around} {E : Value → Shared → Prop} {h : Heap} {g : Array GenState} {d : Drawn} {t : Nat} {os : OsState}
variable {nm q : Str} {C N x ta : Addr} {bs bm bmB : List Value} {sn : List Str} {sub : List Value} {ab : Bool} {col : Option Bool} {dd : Option Addr} {k0 k1 k2 k3 k5 : Option Value} {B newId owner : String} {name : Str} {v : Value} {K : PySem.W.Frag}
theorem xc_osa {tk : Tok} {Q : Fin → Shared → Prop} (X : K.In h) (SF : StoreFacts B bmB "object.__setattr__" owner) (T : OwnTail h bmB bm)
    (hC : h.get? C = some (excClassObj nm q C N bs bm true sn sub ab col dd k0 k1 k2 k3 k5 newId)) (hna : PySem.W.findIn K (.ref C) name = some none) (hx : h.get? x = some (xcE C ta))
    (k : ∀ h' tk', h'.get? x = some { xcE C ta with dict := some h.objs.size } → h'.Ns1 h.objs.size (fun y => if y = name then some v else none) → (∀ b o, b ≠ x → h.get? b = some o → h'.get? b = some o) → Q (.done (.ret .none)) ⟨h', g, d, tk', os⟩) :
    wpAny (model prog w) A (Builtin.«object.__setattr__» ⟨[.ref x, .str name tk, v], []⟩) Q E ⟨h, g, d, t, os⟩ := by
  have hp := refuse_tail T (SF.passes (.ref x))
  have look : ∀ {Q' : Option Value → Shared → Prop}, Q' none ⟨h, g, d, t, os⟩ → wpAny (model prog w) A (typeLookup (.ref C) name) Q' E ⟨h, g, d, t, os⟩ := fun z => (PySem.W.looks_findIn X hna).here z
  have xs : x ≠ h.objs.size := Nat.ne_of_lt (Heap.lt_size hx)
  have gx : (h.push { cls := .type "dict", data := .dict #[] }).get? x = some (xcE C ta) := Heap.get?_push_of_some _ hx
  have stored : wpAny (model prog w) A (Builtin.ObjectAttr.storeInDict h.objs.size (.str name tk) name v) Q E ⟨(h.push { cls := .type "dict", data := .dict #[] }).update x fun o => { cls := o.cls, dict := some h.objs.size, data := o.data, slots := o.slots }, g, d, t, os⟩ := by
    have gd : ((h.push { cls := .type "dict", data := .dict #[] }).update x fun o => { cls := o.cls, dict := some h.objs.size, data := o.data, slots := o.slots }).get? h.objs.size = some { cls := .type "dict", data := .dict #[] } :=
      (Heap.get?_update_ne _ _ _ _ xs.symm).trans (Heap.get?_push_at rfl rfl)
    have nd : ((h.push { cls := .type "dict", data := .dict #[] }).update x fun o => { cls := o.cls, dict := some h.objs.size, data := o.data, slots := o.slots }).Ns h.objs.size (fun _ => none) := ⟨_, #[], _, gd, rfl, fun e he => absurd he (by simp), fun _ => rfl⟩
    unfold Builtin.ObjectAttr.storeInDict Builtin.ObjectAttr.newKeyGuard
    refine wpAny_bind (wpAny_pure (wpAny_bind (wpAny_nsSet1 (Heap.Ns1.of_empty nd) fun h' hn' hs => ?_)))
    obtain ⟨oD, esD, epD, hoD, hdD, hcD⟩ := hn'.count (Within.cons name v Within.nil)
    refine wpAny_bind (wpAny_lookBehind hoD (by rw [hdD]; exact pastItsLine_dict (Nat.le_trans hcD (by rw [List.length_cons, List.length_nil, sizeLine_eq]; omega))) (?_))
    wp_walk
    refine k h' _ ((hs.2 x xs).trans (Heap.get?_update_self _ gx rfl)) hn' fun b o bx hb => ?_
    exact (hs.2 b (Nat.ne_of_lt (Heap.lt_size hb))).trans ((Heap.get?_update_ne _ _ _ _ bx).trans (Heap.get?_push_of_some _ hb))
  unfold Builtin.«object.__setattr__»
  repeat (first | with_reducible exact stored | rw [refuse_eq] | (rw [refuseLoop_ref, hp]) | with_reducible refine wpAny_loadPart_at hx ?_ | with_reducible refine wpAny_mroOf_exc hC ?_ | with_reducible refine look ?_ | wp_step)
theorem xc_check {M : Model} {o : Obj} {nameV : Value} {Q : Unit → Shared → Prop} (SF : StoreFacts B bmB "object.__setattr__" owner) (T : OwnTail h bmB bm)
    (hC : h.get? C = some (excClassObj nm q C N bs bm true sn sub ab col dd k0 k1 k2 k3 k5 newId)) (hx : h.get? x = some o) (hc : o.cls = .ref C) (hq : Q () ⟨h, g, d, t, os⟩) :
    wpAny M A (checkBuiltinCall "object.__setattr__" ⟨[.ref x, nameV, v], []⟩) Q E ⟨h, g, d, t, os⟩ := by
  have hB : (Value.ref C :: bm).contains (.type owner) = true := by rw [List.contains_cons, T.hasType SF.hasOwner, Bool.or_true]
  have ha := SF.args (.ref x) nameV v
  simp only [checkBuiltinCall, SF.kind, SF.split]
  refine wpAny_bind (?_)
  unfold isInstance
  repeat (first | (with_reducible refine wpAny_loadPart_at hx ?_; rw [hc]) | (with_reducible refine wpAny_isSubtype_exc hC ?_; rw [hB]) | wp_step)
  exact hq
theorem xc_set {Q : Unit → Shared → Prop} (X : K.In h) (SF : StoreFacts B bmB "object.__setattr__" owner) (T : OwnTail h bmB bm)
    (hC : h.get? C = some (excClassObj nm q C N bs bm true sn sub ab col dd k0 k1 k2 k3 k5 newId)) (hs : PySem.W.findIn K (.ref C) "__setattr__" = some (some (.builtin "object.__setattr__"))) (hna : PySem.W.findIn K (.ref C) name = some none) (hx : h.get? x = some (xcE C ta))
    (k : ∀ h' tk', h'.get? x = some { xcE C ta with dict := some h.objs.size } → h'.Ns1 h.objs.size (fun y => if y = name then some v else none) → (∀ b o, b ≠ x → h.get? b = some o → h'.get? b = some o) → Q () ⟨h', g, d, tk', os⟩) :
    wpAny (model prog w) A (setAttr (.ref x) name v) Q E ⟨h, g, d, t, os⟩ := by
  have f3 := SF.slot.bind (.ref x)
  have look : ∀ {Q' : Option Value → Shared → Prop} {t' : Nat}, Q' (some (.builtin "object.__setattr__")) ⟨h, g, d, t', os⟩ → wpAny (model prog w) A (typeLookup (.ref C) "__setattr__") Q' E ⟨h, g, d, t', os⟩ := fun z => (PySem.W.looks_findIn X hs).here (s := ⟨h, g, d, _, os⟩) z
  unfold setAttr callSpecial? specialOf
  repeat (any_goals (first | assumption | with_reducible refine wpAny_loadPart_at hx ?_ | with_reducible refine look ?_ | wp_step))
  refine codeAny_call_builtin SF.slot.plain SF.entry (xc_check SF T hC hx rfl (xc_osa X SF T hC hna hx fun h' tk' a b c => ?_))
  repeat (any_goals (first | assumption | wp_step))
  exact k h' tk' a b c
theorem xc_raise {M : Model} {s : Shared} {y : Sem Value} {env : Env} {Q : Flow → Shared → Prop} (hb : bm.contains (.type "BaseException") = true) (hh : A.handled = none)
    (k : wpAny M A y (fun v s1 => ∃ x ta dx, v = .ref x ∧ s1.heap.get? C = some (excClassObj nm q C N bs bm true sn sub ab col dd k0 k1 k2 k3 k5 newId) ∧ s1.heap.get? x = some { xcE C ta with dict := dx } ∧ E (.ref x) s1) E s) :
    wpAny M A (raiseStmt env (some y) none) Q E s := by
  have hcB : (Value.ref C :: bm).contains (.type "BaseException") = true := by rw [List.contains_cons, hb, Bool.or_true]
  unfold raiseStmt
  refine wpAny_bind (wpAny_mono k (fun v s1 h1 => ?_) fun _ _ z => z)
  obtain ⟨x, ta, dx, rfl, hC, he, hE⟩ := h1
  obtain ⟨hp, g, d, tk, os⟩ := s1
  repeat (first | with_reducible refine wpAny_loadPart_at he ?_ | with_reducible refine wpAny_loadPart_at hC ?_ | (with_reducible refine wpAny_isSubtype_exc hC ?_; rw [hcB]) | wp_step)
  exact wpAny_raiseNew_none hh hE
end
end DL
set_option Elab.async false
set_option linter.all false
set_option maxRecDepth 100000
namespace DL
open PySem PyProof.Rows L2
section
variable {prog : Program} {w : World} {A : Around} {E : Value → Shared → Prop} {s : Shared} {K : PySem.W.Frag}
variable {nm q : Str} {C N x ta : Addr} {bs bm bmB : List Value} {sn : List Str} {sub : List Value} {ab : Bool} {col : Option Bool} {dd : Option Addr} {k0 k1 k2 k3 k5 : Option Value} {B newId owner : String} {v : Value}
theorem xc_init {R : Result → Shared → Prop} {name qual : Str} {params : Arguments} {scope : Scope} {dV kV doc pm cdv ct oc : Value} {an od : Option Addr} {osl : Array (Option Value)} {f : Addr} {sf ky atn : Str} {p1 p2 p3 p4 : Pos}
    (X : K.In s.heap) (hlim : s.heap.NoLimit) (ho : K.lookup f = some ⟨oc, od, .func (PySem.W.fnOf name qual params [.Assign [.Attribute (.Name sf p1) atn p2] (.Name ky p3) p4] scope dV kV doc pm an cdv ct), osl⟩)
    (hcd : PySem.W.codeIn K cdv qual = true) (hroom : A.depth < recursionLimit)
    (hbind : BindsTo s (PySem.W.fnOf name qual params [.Assign [.Attribute (.Name sf p1) atn p2] (.Name ky p3) p4] scope dV kV doc pm an cdv ct) ⟨[.ref x, v], []⟩ [(sf, .ref x), (ky, v)])
    (ne : sf ≠ ky) (l1 : scope.names.lookup sf = some .local) (l2 : scope.names.lookup ky = some .local) (hco : scope.isCoroutine = false) (hgen : scope.isGenerator = false) (hk : scope.kind = .function)
    (d1 : (sf == ("__debug__" : Str)) = false) (d2 : (ky == ("__debug__" : Str)) = false) (hsw : ∀ env, swapsWith (.Name ky p3) (some (.Attribute (.Name sf p1) atn p2)) p4.line env = pure false)
    (SF : StoreFacts B bmB "object.__setattr__" owner) (T : OwnTail s.heap bmB bm)
    (hC : s.heap.get? C = some (excClassObj nm q C N bs bm true sn sub ab col dd k0 k1 k2 k3 k5 newId)) (hs : PySem.W.findIn K (.ref C) "__setattr__" = some (some (.builtin "object.__setattr__"))) (hna : PySem.W.findIn K (.ref C) atn = some none) (hx : s.heap.get? x = some (xcE C ta))
    (k : ∀ h' tk dx, h'.get? x = some { xcE C ta with dict := some dx } → h'.Ns1 dx (fun y => if y = atn then some v else none) → s.heap.objs.size ≤ dx → dx ≠ x → (∀ b o, b ≠ x → s.heap.get? b = some o → h'.get? b = some o) → R (.ok (.ret .none)) { s with heap := h', toks := tk }) :
    codeAny (model prog w) A (.call (.ref f) ⟨[.ref x, v], []⟩) R s := by
  refine Att.call_fn X hlim ho hcd hroom hbind (by simp [l1, l2]) (fun s1 ic => ?_) hco hgen hk
  obtain ⟨h1, tk, rfl, keep⟩ := ic.done
  have ns : h1.Ns s.heap.objs.size _ := ic.toInCall.ns
  have nd : [sf, ky].Nodup := by simp [ne]
  have m1 : bindL (envOfC qual scope s.heap.objs.size f cdv).kindOf [(sf, Value.ref x), (ky, v)] (fun _ => none) sf = some (.ref x) := bindL_get (P := [sf, ky]) (vs := [.ref x, v]) (i := 0) nd rfl rfl l1
  have m2 : bindL (envOfC qual scope s.heap.objs.size f cdv).kindOf [(sf, Value.ref x), (ky, v)] (fun _ => none) ky = some v := bindL_get (P := [sf, ky]) (vs := [.ref x, v]) (i := 1) nd rfl rfl l2
  refine wpAny_execs_cons (?_)
  refine plainObj_wpAny_Assign_Attribute (wpAny_Name (wpAny_loadName_local hk l2 ns m2 (wpAny_Name (wpAny_loadName_local hk l1 ns m1 (?_)) d1)) d2) (hsw _)
  have X1 : K.In h1 := X.keeps keep
  obtain ⟨hp, g, d, t0, os⟩ := s
  refine xc_set (h := h1) X1 SF (T.keeps keep) (keep _ _ hC) hs hna (keep _ _ hx) fun h' tk' a1 a2 a3 => ?_
  refine wpAny_execs_nil ?_
  refine k h' tk' h1.objs.size a1 a2 ?_ ?_ fun b o bx hb => a3 b o bx (keep b o hb)
  · exact Nat.le_of_lt ns.lt
  · exact Nat.ne_of_gt (Heap.lt_size (keep _ _ hx))
end
end DL
set_option Elab.async false
set_option linter.all false
set_option maxRecDepth 100000
namespace DL
open PySem PyProof.Rows L2
structure Xf (X : Cx) (pins : List (Addr × Obj)) (F H : Hp) (s : Shared) (a : Addr) (cls : Value) (dx T : Option Addr) (z : Xn) : Prop where
  xo : Xo X.env.frame s.heap a cls dx T
  na : X.s_0.heap.get? a = none
  ha : H a = none
  nt : ∀ t, T = some t → X.s_0.heap.get? t = none ∧ H t = none
  pn : ∀ p ∈ X.pn ++ pins, p.1 ≠ a ∧ some p.1 ≠ T
  at_ : XAt X.K F cls dx z
def CXx (P : Program) (w : World) : CXT := fun outer H s E e s' => ∃ a cls dx T H', e = .ref a ∧ Xo none s'.heap a cls dx (some T) ∧ s.heap.get? a = none ∧ s.heap.get? T = none ∧ H' a = none ∧ H' T = none ∧
  s'.os = s.os ∧ AllBare s'.gens ∧ Un (frs outer) [] H H' s.heap s'.heap ∧ HOk P w H' s'.heap ∧ E cls dx H'
section
variable {X : Cx} {pins : List (Addr × Obj)} {σ : L2.St} {F H : Hp} {s : Shared} {a : Addr} {cls : Value} {dx T : Option Addr} {z : Xn}
theorem Inv.xk (I : Inv X pins σ H s) {h' : Heap} (ha : H a = none) (nt : ∀ t, T = some t → H t = none) (k : Xk (frs X.stack) a T s.heap h') : HOk X.prog X.w H h' := fun b ob e => by
  refine (I.hok b ob e).stay (fun c v hc q => k.keep c v q ?_ ?_ ?_) (fun _ q => q) fun _ _ q => q
  all_goals
    have hn : H c ≠ none := fun z => by
      rcases hc with rfl | hc
      · rw [z] at e; cases e
      · rw [z] at hc; cases hc
  · exact fun z => hn (z ▸ ha)
  · exact fun z => hn (nt c z.symm)
  · exact fun z => hn (I.stkFree c z)
theorem Inv.xun (I : Inv X pins σ H s) {h' : Heap} (na : X.s_0.heap.get? a = none) (nt : ∀ t, T = some t → X.s_0.heap.get? t = none) (k : Xk (frs X.stack) a T s.heap h') : Un X.fs X.ex X.H_0 H X.s_0.heap h' := by
  have u := I.base
  have nea : ∀ b o, X.s_0.heap.get? b = some o → b ≠ a := fun b o hb z => by rw [z, na] at hb; cases hb
  have neT : ∀ b o, X.s_0.heap.get? b = some o → some b ≠ T := fun b o hb z => by rw [nt b z.symm] at hb; cases hb
  have neL : ∀ b o, X.s_0.heap.get? b = some o → b ≠ X.env.locals := fun b o hb z => by
    have h1 := Heap.lt_size hb
    have h2 := I.ok.above
    rw [z] at h1
    exact absurd (Nat.lt_of_lt_of_le h1 h2) (Nat.lt_irrefl _)
  have sub : ∀ b, b ∈ frs X.stack → b = X.env.locals ∨ b ∈ X.fs := fun b hb => List.mem_cons.mp (I.stkSub b hb)
  have nf : ∀ b o, s.heap.get? b = some o → b ∈ X.fs → ∀ vs, o.data ≠ .fields vs := fun b o hb hm => by
    obtain ⟨_, o', ho', q⟩ := I.funs.mem hm
    rw [hb] at ho'
    cases ho'
    exact q
  have onstk : ∀ b, b ∈ X.fs → b ∈ frs X.stack ∨ X.stack = X.outer := fun b hb => by
    rcases I.ok.stk with e | ⟨e, _⟩
    · exact .inr e
    · refine .inl ?_
      rw [e]
      unfold frs
      rw [List.filterMap_cons]
      split
      · exact hb
      · exact List.mem_cons_of_mem _ hb
  have instk : ∀ b, b ∈ X.fs → b ∈ frs X.stack := fun b hb => (onstk b hb).elim id fun e => by rw [e]; exact hb
  have step : ∀ b o o', X.s_0.heap.get? b = some o → s.heap.get? b = some o' → ∃ sl, h'.get? b = some { o' with slots := sl } := fun b o o' hb hs => by
    by_cases m : b ∈ frs X.stack
    · rcases sub b m with z | m'
      · exact absurd z (neL b o hb)
      · exact k.slot b o' hs m (nf b o' hs m')
    · exact ⟨o'.slots, k.keep b o' hs (nea b o hb) (neT b o hb) m⟩
  refine ⟨fun b o hb n hf hx => ?_, fun b o hb n hf hx => ?_, u.free, fun b o hb hx => ?_, u.tups, u.frzs, u.tbls⟩
  · refine k.keep b o (u.keep b o hb n hf hx) (nea b o hb) (neT b o hb) fun m => ?_
    rcases sub b m with z | m'
    · exact neL b o hb z
    · exact hf m'
  · obtain ⟨sl, e⟩ := u.slot b o hb n hf hx
    obtain ⟨sl', e'⟩ := step b o { o with slots := sl } hb e
    exact ⟨sl', e'⟩
  · obtain ⟨o', e⟩ := u.there b o hb hx
    obtain ⟨sl, e'⟩ := step b o o' hb e
    exact ⟨_, e'⟩
end
theorem xe_leaves {P : Program} {w : World} {K : PySem.W.Frag} {mg : Str → Option Value} {base : Heap} {N : List Str} {qual : Str} {scope : Scope} {f : Addr} {cd : Value} {A : Around} {outer : List Env} {s : Shared} {H : Hp} {E : XK}
    {pins : List (Addr × Obj)} {σ : L2.St} {F H' : Hp} {s' : Shared} {a : Addr} {cls : Value} {dx T : Option Addr} {z : Xn} (I : Inv (cxOf (CXx P w) P w K mg base N qual scope f cd A outer s H E) pins σ H' s')
    (x : Xf (cxOf (CXx P w) P w K mg base N qual scope f cd A outer s H E) pins F H' s' a cls dx T z) (q : E cls dx H') : (cxOf (CXx P w) P w K mg base N qual scope f cd A outer s H E).xe (.ref a) s' := by
  refine xo_note (base := base) I.ok.frames I.stack rfl x.xo fun h' T' xo' nT k => ?_
  have hk := Inv.xk I x.ha (fun t e => (x.nt t e).2) k
  have un := Inv.xun I x.na (fun t e => (x.nt t e).1) k
  have nT0 : s.heap.get? T' = none := by
    rcases nT with nT | nT
    · exact Heap.get?_none_of_le (Nat.le_trans I.sz nT)
    · exact (x.nt T' nT).1
  have hT : H' T' = none := by
    rcases nT with nT | nT
    · exact I.hok.fresh nT
    · exact (x.nt T' nT).2
  exact ⟨a, cls, dx, T', H', rfl, xo', x.na, nT0, x.ha, hT, I.os, I.bare, un, hk, q⟩
end DL
set_option Elab.async false
set_option linter.all false
set_option maxRecDepth 100000
namespace DX
open PySem PyProof.Rows L2 DL
def outS (X : Cx) (pins : List (Addr × Obj)) (c : En) (D : Ends) : Ou → Prop
  | .nx ρ' => ∀ F' H' σ', J X.K c F' H' σ' ρ' → D.nx σ' H'
  | .rt r ρ' => ∀ F' H' σ' v, J X.K c F' H' σ' ρ' → RelR X.K c F' H' σ' ρ' v r → D.rt v H'
  | .bk ρ' => ∀ F' H' σ', J X.K c F' H' σ' ρ' → D.bk σ' H'
  | .ct ρ' => ∀ F' H' σ', J X.K c F' H' σ' ρ' → D.ct σ' H'
  | .ex z ρ' => ∀ F' H' σ' s' a cls dx T, Inv X pins σ' H' s' → J X.K c F' H' σ' ρ' → Xf X pins F' H' s' a cls dx T z → X.xe (.ref a) s'
  | .bad => False
def outE (X : Cx) (pins : List (Addr × Obj)) (c : En) (σ : L2.St) (Q : VK) : Re R Rho → Prop
  | .ok r ρ' => ∀ F' H' v, J X.K c F' H' σ ρ' → RelR X.K c F' H' σ ρ' v r → Q v H'
  | .ex z ρ' => ∀ F' H' s' a cls dx T, Inv X pins σ H' s' → J X.K c F' H' σ ρ' → Xf X pins F' H' s' a cls dx T z → X.xe (.ref a) s'
  | .bad => False
def EXx (X : Cx) (e : Expr) (x : XE) : Prop := ∀ (pins : List (Addr × Obj)) (s : Shared) (σ : L2.St) (H : Hp) (Q : VK) (c : En) (F : Hp) (ρ : Rho), Inv X pins σ H s → J X.K c F H σ ρ → outE X pins c σ Q (x ρ) → wpAny (model X.prog X.w) X.A (eval e X.env) (EP X pins σ Q) X.xe s
def SXx (X : Cx) (st : Stmt) (x : XS) : Prop := ∀ (pins : List (Addr × Obj)) (s : Shared) (σ : L2.St) (H : Hp) (D : Ends) (c : En) (F : Hp) (ρ : Rho), Inv X pins σ H s → J X.K c F H σ ρ → outS X pins c D (x ρ) → wpAny (model X.prog X.w) X.A (exec st X.env) (SP X pins D) X.xe s
def SXxs (X : Cx) (sts : List Stmt) (x : XS) : Prop := ∀ (pins : List (Addr × Obj)) (s : Shared) (σ : L2.St) (H : Hp) (D : Ends) (c : En) (F : Hp) (ρ : Rho), Inv X pins σ H s → J X.K c F H σ ρ → outS X pins c D (x ρ) → wpAny (model X.prog X.w) X.A (execs sts X.env) (SP X pins D) X.xe s
def Ou.cl : Ou → Ou | .ex _ _ => .bad | o => o
def Re.cl {α β : Type} : Re α β → Re α β | .ex _ _ => .bad | o => o
@[simp ↓] theorem Ou.cl_nx (ρ : Rho) : (Ou.nx ρ).cl = .nx ρ := Eq.trans rfl rfl
@[simp ↓] theorem Ou.cl_rt (r : R) (ρ : Rho) : (Ou.rt r ρ).cl = .rt r ρ := Eq.trans rfl rfl
@[simp ↓] theorem Re.cl_ok {α β : Type} (a : α) (b : β) : (Re.ok a b).cl = .ok a b := Eq.trans rfl rfl
def xCl (x : XS) : XS := fun ρ => (x ρ).cl
@[simp ↓] theorem xCl_at (x : XS) (ρ : Rho) : xCl x ρ = (x ρ).cl := Eq.trans rfl rfl
section
variable {X : Cx} {st : Stmt} {sts as bs : List Stmt} {a e : Expr} {es : List Expr} {x y : XS} {xa : XE} {T : XT} {pos p : Pos} {i : Nat}
theorem out_toS {pins : List (Addr × Obj)} {c : En} {D : Ends} {ρ : Rho} (h : outS X pins c D (xCl x ρ)) : toS x ρ (Ek.of X.K c D) := by
  unfold xCl at h
  unfold toS
  cases e : x ρ with
  | nx ρ' => rw [e] at h; exact h
  | rt r ρ' => rw [e] at h; exact h
  | bk ρ' => rw [e] at h; exact h
  | ct ρ' => rw [e] at h; exact h
  | ex z ρ' => rw [e] at h; exact h
  | bad => rw [e] at h; exact h
theorem sxxs_cons (h1 : SXx X st x) (h2 : SXxs X sts y) : SXxs X (st :: sts) (xSeq x y) := by
  intro pins s σ H D c F ρ I j q
  unfold xSeq at q
  refine wpAny_execs_cons (thn (h1 pins s σ H { D with nx := fun σ' H' => ∃ F' ρ', J X.K c F' H' σ' ρ' ∧ outS X pins c D (y ρ') } c F ρ I j ?_) fun f s1 r => ?_)
  · cases e : x ρ with
    | nx ρ' => rw [e] at q; exact fun F' H' σ' j' => ⟨F', ρ', j', q⟩
    | rt r ρ' => rw [e] at q; exact q
    | bk ρ' => rw [e] at q; exact q
    | ct ρ' => rw [e] at q; exact q
    | ex z ρ' => rw [e] at q; exact q
    | bad => rw [e] at q; exact q
  · cases f with
    | next =>
      obtain ⟨σ', H', I', F', ρ', j', q'⟩ := r
      exact h2 pins s1 σ' H' D c F' ρ' I' j' q'
    | ret v => exact r
    | brk => exact r
    | cont => exact r
theorem sxxs_one (h : SXx X st x) : SXxs X [st] x := by
  intro pins s σ H D c F ρ I j q
  refine wpAny_execs_cons (thn (h pins s σ H D c F ρ I j q) fun f s1 r => ?_)
  cases f with
  | next => exact wpAny_execs_nil r
  | ret v => exact r
  | brk => exact r
  | cont => exact r
theorem sxx_ret (h : EXx X e xa) : SXx X (.Return (some e) pos) (xRet xa) := by
  intro pins s σ H D c F ρ I j q
  unfold xRet at q
  refine wpAny_Return_some (thn (h pins s σ H D.rt c F ρ I j ?_) fun v s1 ⟨x, H1, I1, r1, q1⟩ => ⟨x, σ, H1, I1, r1, q1⟩)
  cases e : xa ρ with
  | ok r ρ' => rw [e] at q; exact fun F' H' v j' rr => q F' H' σ v j' rr
  | ex z ρ' => rw [e] at q; exact fun F' H' s' a cls dx T I' j' x => q F' H' σ s' a cls dx T I' j' x
  | bad => rw [e] at q; exact q
end
end DX
set_option Elab.async false
set_option linter.all false
set_option maxRecDepth 100000
namespace DX
open PySem PyProof.Rows L2 DL
abbrev CtX := List PyData → (R → Prop) → (Xn → Prop) → Prop
def spX (K : PySem.W.Frag) (C : CtX) : Sp := fun vs H Q E => ∃ F ds, Same F H ∧ DpAll K F vs ds ∧
  C ds (fun r => ∀ F' H' v, Same F F' → Same F' H' → (∀ b o, F' b = some o → F b = some o ∨ H b = none) → Same H H' → RelF K H F' H' v r → Q v H')
    fun z => ∀ F' H' cls dx, Same F F' → Same F' H' → (∀ b o, F' b = some o → F b = some o ∨ H b = none) → Same H H' → XAt K F' cls dx z → E cls dx H'
def cX (f : Fn) : CtX := fun ds Q QE => match f ds with | .ok r _ => Q r | .ex z _ => QE z | .bad => False
structure CalX (P : Program) (w : World) (K : PySem.W.Frag) (mg : Str → Option Value) (base : Heap) (k : Nat) (x : Str) (ps : List Str) (sp : Sp) : Prop where
  ex : ∃ f fd, FnOk P w K mg base (CXx P w) k f fd ps sp ∧ mg x = some (.ref f) ∧ PySem.W.keepIn K (.ref f) = true ∧ Binds K fd ps []
def xCallX (f : Fn) (t : XA) : XE := fun ρ => ((t ρ).cl).bind fun ds ρ' => (f ds).at ρ'
section
variable {X : Cx} {e : Expr} {es : List Expr} {t : XA} {xa : XE} {x : Str} {ps : List Str} {k k' i : Nat} {p pos : Pos}
theorem exx_callC {f : Fn} (cal : CalX X.prog X.w X.K X.mg X.base k x ps (spX X.K (cX f))) (hr : Room k' X.A) (hk : k ≤ k') (hg : Gl X x) (ha : AX X (e :: es) t) (hex : X.ex = []) (hdb : (x == ("__debug__" : Str)) = false := by decide) (he : starEach (e :: es) X.env = (false, eval e X.env) :: starEach es X.env := by rfl) (hpl : (backTo pos (starEach es X.env)).any (·.1) = false := by rfl) (hcm : X.calm = true := by rfl) : EXx X (.Call (.Name x p) (e :: es) [] pos) (xCallX f t) := by
  intro pins s σ H Q c F ρ I j q
  obtain ⟨fa, fd, Fn, hm, kp, hb⟩ := cal.ex
  refine wpAny_Call_Name_kw (ld_glob I hg hm ?_ hdb)
  unfold xCallX at q
  refine PySem.W.callWith_K (h₀ := X.base) I.ok.mod.kin kp (thn (ha.pa pos pins s σ H (fun vs H1 => ∃ F1 ds ρ1, J X.K c F1 H1 σ ρ1 ∧ DpAll X.K F1 vs ds ∧ outE X pins c σ Q ((f ds).at ρ1)) I ⟨c, F, ρ, j, ?_⟩) fun us s1 ⟨vs, H1, I1, r, F1, ds, ρ1, j1, a1, q1⟩ => ⟨I1.kIn, ?_⟩) he hpl
  · cases e1 : t ρ with
    | ok ds ρ1 => rw [e1] at q; exact ⟨ds, ρ1, e1, fun F1 H1 vs j1 a1 => ⟨F1, ds, ρ1, j1, a1, q⟩⟩
    | ex z ρ1 => rw [e1] at q; exact q.elim
    | bad => rw [e1] at q; exact q.elim
  · have sp : spX X.K (cX f) vs H1 Q (fun cls dx H' => ∃ F' z, f ds = .ex z () ∧ J X.K c F' H' σ ρ1 ∧ XAt X.K F' cls dx z) := by
      refine ⟨F1, ds, j1.fh, a1, ?_⟩
      unfold cX
      cases e2 : f ds with
      | ok r u =>
        rw [e2] at q1
        exact fun F' H' v s1 s2 gr s3 rf => q1 F' H' v (j1.called s1 s2 gr s3) (rf.rel j1)
      | ex z u =>
        exact fun F' H' cls dx s1 s2 gr s3 xa => ⟨F', z, rfl, j1.called s1 s2 gr s3, xa⟩
      | bad => rw [e2] at q1; exact q1
    have hl : us.length = ps.length := by rw [← r.length]; exact Fn.len _ _ _ _ sp
    have hbs := hb s1 us I1.kIn (by rw [List.append_nil]; exact hl)
    rw [List.append_nil] at hbs
    refine wpAny_call (codeAny_mono (Fn.run X.A X.stack s1 H1 ⟨us, []⟩ us vs Q _ (hr.mono hk) ((qt_any hcm).cc I1) I1.env0 hbs r sp) fun r s' hq => ?_)
    cases r with
    | error ev =>
      obtain ⟨a, cls, dx, T, H', rfl, xo, na, nT, hA, hT, os, bare, un, hok, F', z, e2, j2, xat⟩ := hq
      rw [e2] at q1
      have I2 : Inv X pins σ H' s' := I1.call' (ch := []) os un hok bare (fun b z => absurd z (by simp))
      have old : ∀ b, s1.heap.get? b = none → X.s_0.heap.get? b = none := fun b hb => by
        cases z : X.s_0.heap.get? b with
        | none => rfl
        | some o =>
          obtain ⟨o', ho'⟩ := I1.base.there b o z (by rw [hex]; simp)
          rw [hb] at ho'; cases ho'
      refine q1 F' H' s' a cls dx (some T) I2 j2 ⟨xo.weak, old a na, hA, fun t ht => ?_, fun p hp => ?_, xat⟩
      · cases ht; exact ⟨old T nT, hT⟩
      · have := (I1.pin p hp).1
        refine ⟨fun z => ?_, fun z => ?_⟩
        · rw [z, na] at this; cases this
        · rw [Option.some.inj z, nT] at this; cases this
    | ok fl =>
      cases fl with
      | ret u => exact I1.after hq
      | next => exact False.elim hq
      | brk => exact False.elim hq
      | cont => exact False.elim hq
theorem sxx_set {pos' : Pos} (hN : X.N.Nodup) (hi : X.N[i]? = some x) (hx : Loc X.env.scope x) (h : EXx X e xa) (hs : swapsWith e (some (.Name x pos')) pos.line X.env = pure false := by rfl) (hf : X.fn x = true ∨ X.env.scope.names.lookup x = some .local := by first | exact .inl rfl | exact .inr rfl | assumption) :
    SXx X (.Assign [.Name x pos'] e pos) (xAsg xa (xN i)) := by
  intro pins s σ H D c F ρ I j q
  unfold xAsg at q
  refine wpAny_Assign_Name (thn (h pins s σ H (fun v H' => D.nx (σ.set i (some v)) H') c F ρ I j ?_) fun v s1 ⟨y, H1, I1, r1, q1⟩ => ?_) hs
  · cases e : xa ρ with
    | ok r ρ' =>
      rw [e] at q
      intro F' H' v j' rr
      have q : outS X pins c D (opX (xN i r ρ') .nx) := q
      cases e2 : xN i r ρ' with
      | none => rw [e2] at q; exact q.elim
      | some ρ2 =>
        rw [e2] at q
        obtain ⟨f1, e3⟩ := freeX_inv e2
        cases e3
        obtain ⟨hl, hio⟩ := freeSlot_use f1
        exact q F' H' _ (j'.assign hl hio rr)
    | ex z ρ' => rw [e] at q; exact fun F' H' s' a cls dx T I' j' x => q F' H' σ s' a cls dx T I' j' x
    | bad => rw [e] at q; exact q
  · exact store_ok I1 hN hi hx r1 (fun s2 I2 => ⟨_, H1, I2, q1⟩) hf
end
section
variable {P : Program} {w : World} {K : PySem.W.Frag} {mg : Str → Option Value} {base : Heap} {x : Str} {st : Stmt} {ps N : List Str} {k : Nat}
theorem calXx {xs : XS} {m n : Nat} (D : Df K mg x st ps) (S : FnScope N ps (defScope st)) (hN : ps.length ≤ N.length)
    (hb : ∀ (f : Addr) (cdv : Value) (A : Around) (outer : List Env) (s : Shared) (H : Hp) (E : XK), Room k (A.deeper (envOfC x (defScope st) s.heap.objs.size f cdv)) → SXxs (cxOf (CXx P w) P w K mg base N x (defScope st) f cdv A outer s H E) (defBody st) xs)
    (em : ps.length = m := by rfl) (en : N.length = n := by rfl) : CalX P w K mg base (k + 1) x ps (spX K (cX (runD m n xs))) := by
  subst em en
  obtain ⟨f, fd, Fn, hm, hbd⟩ := D
  refine ⟨f, fd, ?_, hm, Fn.kp, hbd⟩
  obtain ⟨oc, od, kV, doc, pm, an, cdv, ct, osl, rfl, lk, hcd⟩ := Fn.ex
  have len : ∀ ds (Q : R → Prop) QE, cX (runD ps.length N.length xs) ds Q QE → ds.length = ps.length := fun ds Q QE h => by
    unfold cX runD at h
    by_cases e : ds.length = ps.length
    · exact e
    · rw [if_neg e] at h; exact h.elim
  refine fn_of lk hcd S (fun vs H Q E h => ?_) fun A outer s H vs Q E hr h => ?_
  · obtain ⟨F, ds, _, al, c⟩ := h
    rw [DpAll.length al]
    exact len _ _ _ c
  · obtain ⟨F, ds, fh, al, c⟩ := h
    have hG := hb f cdv A outer s H E hr
    have hl := len _ _ _ c
    have hv := DpAll.length al
    have j : J K ⟨F, H, []⟩ F H (L2.start N vs) (rho0 N.length (ds.map R.sh)) := by
      refine ⟨?_, Same.refl _, fh, Same.refl _, fun _ _ z => .inl z, fun i d z => ?_, fun i o z => ?_, fun i j o o' a z => ?_, fun p hp => ?_⟩
      · rw [start_len (by omega), rho0_len (by rw [List.length_map]; omega)]
      · have z := rho0_get z
        rw [List.getElem?_map] at z
        cases e : ds[i]? with
        | none => rw [e] at z; cases z
        | some d' =>
          rw [e] at z
          cases z
          obtain ⟨v, h1, h2⟩ := DpAll.get al e
          exact ⟨v, start_get h1, h2⟩
      · rcases z with z | z
        all_goals
          have z := rho0_get z
          rw [List.getElem?_map] at z
          cases e : ds[i]? with
          | none => rw [e] at z; cases z
          | some d' => rw [e] at z; cases z
      · rcases z with z | z
        all_goals
          have z := rho0_get z
          rw [List.getElem?_map] at z
          cases e : ds[i]? with
          | none => rw [e] at z; cases z
          | some d' => rw [e] at z; cases z
      · cases hp
    refine ⟨fun D σ H' => ∃ c F ρ, J K c F H' σ ρ ∧ ∀ pins, outS (cxOf (CXx P w) P w K mg base N x (defScope st) f cdv A outer s H E) pins c D (xs ρ), fun pins s' σ H' D I ⟨c, F, ρ, j, q⟩ => hG pins s' σ H' D c F ρ I j (q pins), ⟨F, H, []⟩, F, _, j, fun pins => ?_⟩
    unfold cX runD at c
    rw [if_pos hl] at c
    cases e : xs (rho0 N.length (ds.map R.sh)) with
    | nx ρ' =>
      rw [e] at c
      exact fun F' H' σ' j' => c F' H' .non j'.ff j'.fh j'.fz j'.zh .non
    | rt r ρ' =>
      rw [e] at c
      intro F' H' σ' v j' vr
      refine c F' H' v j'.ff j'.fh j'.fz j'.zh ?_
      match r, vr with
      | .sh d, vr => exact vr
      | .own o, ⟨a, ho, h1, h2, h3, h4, h5, _⟩ => exact ⟨a, ho, h1, h5, h2, h3, h4⟩
      | .io _, vr => exact vr.elim
      | .new _, ⟨t, vs, h1, h2, h3⟩ => exact ⟨t, vs, h1, h2, h3⟩
    | bk ρ' => rw [e] at c; exact c.elim
    | ct ρ' => rw [e] at c; exact c.elim
    | ex z ρ' =>
      rw [e] at c
      intro F' H' σ' s' a cls dx T I' j' xf
      exact xe_leaves I' xf (c F' H' cls dx j'.ff j'.fh j'.fz j'.zh xf.at_)
    | bad => rw [e] at c; exact c.elim
end
end DX
set_option Elab.async false
set_option linter.all false
set_option maxRecDepth 100000
namespace DL
open PySem PyProof.Rows L2 PySem.W
abbrev bmV : List Value := [.type "ValueError", .type "Exception", .type "BaseException", .type "object"]
def excI (K : Frag) (C : Addr) (f : Option Addr) : Bool := match K.lookup C with
  | some ⟨.type "type", _, .cls cd, sl⟩ => (match cd.mro, sl.toList with
    | .ref C' :: bm, [_, _, _, _, some (.builtin n), _] => C' == C && n == "ValueError.__new__" && !cd.hasDel && cd.hasDict && tailIn K bmV bm && nsOkIn K cd.ns && nsIn K cd.ns "__init__" == some (f.map Value.ref)
    | _, _ => false)
  | _ => false
theorem ns_of {K : Frag} {h : Heap} {N : Addr} {mg : Str → Option Value} {n : Str} {r : Option Value} (X : K.In h) (G : h.Ns N mg) (e : nsIn K N n = some r) : mg n = r := by
  obtain ⟨o, es, ep, ho, hd, _, hf⟩ := G
  unfold nsIn at e
  split at e
  · rename_i c d es' n' sl q
    have := X _ _ q
    rw [ho] at this
    cases this
    cases hd
    rw [← hf]
    unfold nsFind findBy
    rw [← Array.find?_toList]
    split at e
    · rename_i he
      rw [he]
      exact Option.some.inj e
    · rename_i he
      rw [he]
      split at e
      · cases e
      · exact Option.some.inj e
  · cases e
structure XHp (h : Heap) (C : Addr) (f : Option Addr) : Prop where
  ex : ∃ nm q N bs bm sn sub ab col dd k0 k1 k2 k3 k5 mN, h.get? C = some (excClassObj nm q C N bs bm true sn sub ab col dd k0 k1 k2 k3 k5 "ValueError.__new__") ∧ h.Ns N mN ∧ mN "__init__" = f.map Value.ref ∧ OwnTail h bmV bm
theorem xhp_of {K : Frag} {h : Heap} {C : Addr} {f : Option Addr} (X : K.In h) (q : excI K C f = true) : XHp h C f := by
  unfold excI at q
  split at q
  · rename_i dd cd sl ho
    split at q
    · rename_i C' bm k0 k1 k2 k3 n k5 hm hs
      simp only [Bool.and_eq_true, beq_iff_eq, Bool.not_eq_true'] at q
      obtain ⟨⟨⟨⟨⟨⟨rfl, rfl⟩, hdel⟩, hdct⟩, ht⟩, hok⟩, hni⟩ := q
      obtain ⟨nm, bs, mro, ns, qn, hd, sn, sub, ab, col, del⟩ := cd
      dsimp only at hm hdel hok hni hdct
      subst hm hdel hdct
      have hsl : sl = #[k0, k1, k2, k3, some (.builtin "ValueError.__new__"), k5] := by
        obtain ⟨l⟩ := sl
        simp only at hs
        rw [hs]
      subst hsl
      have G : h.Ns ns _ := .of_isNs (isNs_of_in X hok)
      exact ⟨nm, qn, ns, bs, bm, sn, sub, ab, col, dd, k0, k1, k2, k3, k5, _, X _ _ ho, G, ns_of X G hni, tail_of_in X ht⟩
    · cases q
  · cases q
structure XIni (K : Frag) (mg : Str → Option Value) (x atn : Str) : Prop where
  ex : ∃ C f, mg x = some (.ref C) ∧ nsIn K mainGlobals x = some (some (.ref C)) ∧ excI K C (some f) = true ∧ keepIn K (.ref C) = true ∧ isFn K (.ref f) = true ∧
    findIn K (.ref C) "__setattr__" = some (some (.builtin "object.__setattr__")) ∧ findIn K (.ref C) atn = some none ∧
    ∃ (qual : Str) (st : Stmt) (fd : FuncData) (sf ky : Str) (p1 p2 p3 p4 : Pos), Fun K "__init__" qual st f fd ∧ Binds K fd [sf, ky] [] ∧ defBody st = [.Assign [.Attribute (.Name sf p1) atn p2] (.Name ky p3) p4] ∧
      sf ≠ ky ∧ (defScope st).names.lookup sf = some .local ∧ (defScope st).names.lookup ky = some .local ∧ (defScope st).isCoroutine = false ∧ (defScope st).isGenerator = false ∧ (defScope st).kind = .function ∧
      (sf == ("__debug__" : Str)) = false ∧ (ky == ("__debug__" : Str)) = false ∧ ∀ env, swapsWith (.Name ky p3) (some (.Attribute (.Name sf p1) atn p2)) p4.line env = pure false
end DL
namespace DX
open PySem PyProof.Rows L2 DL PySem.W
def xRaise (x atn : Str) (a : XE) : XS := fun ρ => ((a ρ).cl).to fun r ρ' => match r.dat with | some d => .ex ⟨x, [.str atn, d]⟩ ρ' | none => .bad
section
variable {X : Cx} {a : Expr} {xa : XE} {x atn : Str} {np cpos pos : Pos} {k : Nat}
theorem relO_one {atn : Str} {v : V} {u : Value} (r : RelV v u) (f : Str) : RelO ([(atn, v)].lookup f) (if f = atn then some u else none) := by
  by_cases e : f = atn
  · rw [if_pos e, e]
    simp only [List.lookup, beq_self_eq_true]
    exact r
  · rw [if_neg e]
    have : (f == atn) = false := by simpa using e
    simp only [List.lookup, this]
    exact trivial
theorem sxx_raise (hc : X.calm = true) (hr : Room (k + 1) X.A) (c : XIni X.K X.mg x atn) (hg : Gl X x) (ha : EX X a xa) (hdb : (x == ("__debug__" : Str)) = false := by decide) (he : starEach [a] X.env = [(false, eval a X.env)] := by rfl) :
    SXx X (.Raise (some (.Call (.Name x np) [a] [] cpos)) none pos) (xRaise x atn xa) := by
  intro pins s σ H D c0 F ρ I j q
  obtain ⟨C, f, hm, hn, hx, kp, hfn, hs, hna, qual, st, fd, sf, ky, p1, p2, p3, p4, Fn, hb, hbody, ne, l1, l2, sc1, sc2, sc3, d1, d2, hsw⟩ := c.ex
  obtain ⟨nm, qn, N, bs, bm, sn, sub, ab, col, dd, k0, k1, k2, k3, k5, mN, hC0, hN0, hi0, T0⟩ := (xhp_of I.ok.mod.kin hx).ex
  rw [arm_exec_Raise]
  refine wpAny_bind (wpAny_standAt ?_)
  refine xc_raise (C := C) (nm := nm) (q := qn) (N := N) (bs := bs) (bm := bm) (sn := sn) (sub := sub) (ab := ab) (col := col) (dd := dd) (k0 := k0) (k1 := k1) (k2 := k2) (k3 := k3) (k5 := k5) (newId := "ValueError.__new__") (T0.hasType (by rfl)) (I.ok.hd hc) ?_
  refine wpAny_bind ?_
  refine wpAny_mono (Q := fun v s1 => ∃ x ta dx, v = .ref x ∧ s1.heap.get? C = some (excClassObj nm qn C N bs bm true sn sub ab col dd k0 k1 k2 k3 k5 "ValueError.__new__") ∧ s1.heap.get? x = some { xcE C ta with dict := dx } ∧ X.xe (.ref x) s1) ?_ (fun v s3 h3 => wpAny_bind (wpAny_standAt (wpAny_pure h3))) fun _ _ z => z
  refine wpAny_Call_Name_kw (ld_glob I hg hm ?_ hdb)
  have da : DA X [a] _ := da_cons ha da_nil he
  refine PySem.W.callWith_K (h₀ := X.base) I.ok.mod.kin kp (thn (da.pa cpos pins s σ H (fun vs H1 => ∃ F1 d v ρ1, vs = [v] ∧ J X.K c0 F1 H1 σ ρ1 ∧ Dp X.K F1 v d ∧ outS X pins c0 D (.ex ⟨x, [.str atn, d]⟩ ρ1)) I ⟨c0, F, ρ, j, ?_⟩) fun us s1 ⟨vs, H1, I1, r, F1, d, v, ρ1, ev, j1, dp, q1⟩ => ⟨I1.kIn, ?_⟩) he rfl
  · unfold xRaise at q
    cases e1 : xa ρ with
    | ok r ρ1 =>
      rw [e1] at q
      refine ⟨r, ρ1, e1, ?_⟩
      have q : outS X pins c0 D (match r.dat with | some d => .ex ⟨x, [.str atn, d]⟩ ρ1 | none => .bad) := q
      cases e2 : r.dat with
      | none => rw [e2] at q; exact q.elim
      | some d =>
        rw [e2] at q
        refine withD_mk e2 ?_
        intro F1 H1 vs j1 a1
        cases a1 with
        | cons h t =>
          cases t
          exact ⟨F1, d, _, ρ1, rfl, j1, h, q⟩
    | ex z ρ1 => rw [e1] at q; exact q.elim
    | bad => rw [e1] at q; exact q.elim
  · subst ev
    obtain ⟨u, rfl, ru⟩ : ∃ u, us = [u] ∧ RelV v u := by
      cases r with
      | cons h t => cases t; exact ⟨_, rfl, h⟩
    have up1 := I1.bk
    have hC1 := up1 _ _ hC0
    have hN1 := hN0.keeps up1
    have T1 := T0.keeps up1
    obtain ⟨oc, od, kV, doc, pm, an, cdv, ct, osl, rfl, lk, hcd⟩ := Fn.ex
    obtain ⟨hp, g, dr, tk, os⟩ := s1
    have hoc : oc = .type "function" := by
      have e : typeIn X.K (.ref f) = some oc := by
        show (List.lookup f X.K).map (·.cls) = _
        rw [lk]
        rfl
      unfold isFn at hfn
      rw [e] at hfn
      simpa using hfn
    have szf : (hp.push (xcT [u])).push (xcE C hp.objs.size) = (hp.push (xcT [u])).push (xcE C hp.objs.size) := rfl
    refine xc_call (h := hp) (g := g) (d := dr) (t := tk) (os := os) PySem.F.excBase_ValueError T1 hC1 hN1 hi0 (I1.kIn _ _ lk) hoc (by size_fits) ?_
    have up2 : ∀ b o, hp.get? b = some o → ((hp.push (xcT [u])).push (xcE C hp.objs.size)).get? b = some o := fun b o e => Heap.get?_push_of_some _ (Heap.get?_push_of_some _ e)
    have gx : ((hp.push (xcT [u])).push (xcE C hp.objs.size)).get? (hp.objs.size + 1) = some (xcE C hp.objs.size) := by
      rw [← Heap.size_push hp (xcT [u])]
      exact Heap.get?_push_size _ rfl
    have K2 : X.K.In ((hp.push (xcT [u])).push (xcE C hp.objs.size)) := I1.kIn.keeps up2
    refine wpAny_call ?_
    have hbs := hb ⟨(hp.push (xcT [u])).push (xcE C hp.objs.size), g, dr, tk, os⟩ [.ref (hp.objs.size + 1), u] K2 rfl
    rw [hbody] at lk hbs
    refine xc_init (s := ⟨(hp.push (xcT [u])).push (xcE C hp.objs.size), g, dr, tk, os⟩) (x := hp.objs.size + 1) (v := u) K2 (I1.nolimit.keeps up2) lk hcd (hr.make C [u] []).depth hbs ne l1 l2 sc1 sc2 sc3 d1 d2 hsw PySem.F.store_ValueError (T1.keeps up2) (up2 _ _ hC1) hs hna gx fun h' tk' dx g1 g2 g3 g4 g5 => ?_
    have keepA : ∀ b o, hp.get? b = some o → h'.get? b = some o := fun b o e => g5 b o (Nat.ne_of_lt (Nat.lt_succ_of_lt (Heap.lt_size e))) (up2 b o e)
    have szd : hp.objs.size ≤ dx := by
      have : ((hp.push (xcT [u])).push (xcE C hp.objs.size)).objs.size = hp.objs.size + 2 := by rw [Heap.size_push, Heap.size_push]
      have := this ▸ g3
      omega
    have hd : H1 dx = none := I1.hok.fresh szd
    have hx1 : H1 (hp.objs.size + 1) = none := I1.hok.fresh (Nat.le_succ _)
    have I2 : Inv X pins σ (upd H1 dx (.xd [(atn, v)])) ⟨h', g, dr, tk', os⟩ := I1.laid (t' := tk') keepA szd ⟨_, g2, relO_one ru⟩
    have j2 : J X.K c0 (upd F1 dx (.xd [(atn, v)])) (upd H1 dx (.xd [(atn, v)])) σ ρ1 := (j1.alloc hd _).frz upd_same (j1.ffree hd) (j1.zfree hd) (j1.apart hd)
    have xo : Xo X.env.frame h' (hp.objs.size + 1) (.ref C) (some dx) none := ⟨⟨_, _, g1, rfl, rfl, rfl, (by show 1 < 6; decide), rfl, rfl⟩, fun t e => nomatch e⟩
    refine ⟨rfl, hp.objs.size + 1, hp.objs.size, some dx, rfl, keepA _ _ hC1, g1, q1 _ _ σ ⟨h', g, dr, tk', os⟩ _ (.ref C) (some dx) none I2 j2 ⟨xo, ?_, ?_, (fun t e => nomatch e), fun p hp' => ?_, ⟨C, rfl, hn⟩, dx, v, rfl, upd_same, dpM (same_new (j1.ffree hd) _) dp⟩⟩
    · exact Heap.get?_none_of_le (Nat.le_trans I1.sz (Nat.le_succ _))
    · rw [upd_ne (Ne.symm g4)]; exact hx1
    · refine ⟨fun z => ?_, fun z => by cases z⟩
      have := Heap.lt_size (I1.pin p hp').1
      rw [z] at this
      exact absurd this (by show ¬ (hp.objs.size + 1 < hp.objs.size); omega)
end
end DX
namespace DX
open PySem PyProof.Rows L2 DL PySem.W
theorem objOk_there {P : Program} {w : World} {H : Hp} {h : Heap} {a : Addr} {o : HO} (x : ObjOk P w H h a o) : ∃ u, h.get? a = some u := by
  cases o with
  | lst xs => obtain ⟨_, _, _, _, e⟩ := x; exact ⟨_, e⟩
  | tup xs => obtain ⟨_, _, _, o, e, _⟩ := x; exact ⟨_, e⟩
  | dK kvs => obtain ⟨_, _, _, _, o, _, _, e, _⟩ := x; exact ⟨_, e⟩
  | dT kvs => obtain ⟨_, _, _, _, o, _, _, e, _⟩ := x; exact ⟨_, e⟩
  | set S n => obtain ⟨o, _, _, _, e, _⟩ := x; exact ⟨_, e⟩
  | ins C dx fs => obtain ⟨_, _, _, e, _⟩ := x; exact ⟨_, e⟩
  | own _ => exact x
  | xd fs => obtain ⟨mA, ns, _⟩ := x; obtain ⟨o, _, _, e, _⟩ := ns; exact ⟨_, e⟩
  | rng lo hi => obtain ⟨_, _, _, e⟩ := x; exact ⟨_, e⟩
  | frz o u => exact ⟨_, x.1⟩
  | tbl ps => exact ⟨_, x⟩
  | met f y => exact ⟨_, x⟩
  | ext φ => exact x.2.1
section
variable {X : Cx} {x : Str} {np cpos pos : Pos}
end
end DX
set_option Elab.async false
set_option linter.all false
set_option maxRecDepth 100000
namespace DL
open PySem PyProof.Rows L2
section
variable {X : Cx} {pins : List (Addr × Obj)} {σ : L2.St} {F H : Hp} {s : Shared} {a : Addr} {cls : Value} {dx T : Option Addr} {z : Xn} {h' : Heap}
theorem Inv.xnote (I : Inv X pins σ H s) (x : Xf X pins F H s a cls dx T z) (k : Xk (frs X.stack) a T s.heap h') : Inv X pins σ H { s with heap := h' } := by
  obtain ⟨⟨oe, ves, ge, gc, gd, gf, gz, g1, g2⟩, tr⟩ := x.xo
  have nea : ∀ b o, s.heap.get? b = some o → (∀ vs, o.data ≠ .fields vs) → b ≠ a := fun b o hb nf e => by
    rw [e, ge] at hb; cases hb; exact nf _ gf
  have neT : ∀ b o, s.heap.get? b = some o → (∀ vs, o.data ≠ .fields vs) → some b ≠ T := fun b o hb nf e => by
    obtain ⟨_, ot, ts, gt, td, _⟩ := tr b e.symm
    rw [hb] at gt; cases gt; exact nf _ td
  have step : ∀ b o, s.heap.get? b = some o → (∀ vs, o.data ≠ .fields vs) → ∃ sl, h'.get? b = some { o with slots := sl } := fun b o hb nf => by
    by_cases m : b ∈ frs X.stack
    · exact k.slot b o hb m nf
    · exact ⟨o.slots, k.keep b o hb (nea b o hb nf) (neT b o hb nf) m⟩
  obtain ⟨m, ⟨oL, es, ep, hoL, hdL, hkL, hmL⟩, hl⟩ := I.loc
  obtain ⟨slL, eL⟩ := step _ _ hoL (fun vs q => by rw [hdL] at q; cases q)
  have cellK : ∀ {c : Addr} {v : Option Value}, s.heap.IsCell c v → h'.IsCell c v := fun {c v} hc => by
    obtain ⟨oc, e, d⟩ := hc
    obtain ⟨sl, e'⟩ := step c oc e (fun vs q => by rw [d] at q; cases q)
    exact ⟨_, e', d⟩
  refine ⟨I.ok, I.os, I.bare, Inv.xun I x.na (fun t e => (x.nt t e).1) k, ⟨m, ⟨_, es, ep, eL, hdL, hkL, hmL⟩, fun i y v e1 e2 e3 => ?_⟩, fun y c e => ?_, I.free, I.freeC, fun p hp => ?_, Inv.xk I x.ha (fun t e => (x.nt t e).2) k, I.len⟩
  · obtain ⟨u, r, q⟩ := hl i y v e1 e2 e3
    refine ⟨u, r, ?_⟩
    rcases q with q | ⟨kk, c, e, w⟩
    · exact .inl q
    · exact .inr ⟨kk, c, e, cellK w⟩
  · obtain ⟨v, w⟩ := I.cell y c e
    exact ⟨v, cellK w⟩
  · obtain ⟨e, n, ne, nf, d⟩ := I.pin p hp
    refine ⟨k.keep p.1 p.2 e (x.pn p hp).1 (x.pn p hp).2 fun hm => ?_, n, ne, nf, d⟩
    rcases List.mem_cons.mp (I.stkSub p.1 hm) with q | q
    · exact ne q
    · exact nf q
theorem Inv.adopt {oe : Obj} {vs : Array Value} (I : Inv X pins σ H s) (ge : s.heap.get? a = some oe) (gf : oe.data = .fields vs) (na : X.s_0.heap.get? a = none) (ha : H a = none) (pn : ∀ p ∈ X.pn ++ pins, p.1 ≠ a) : Inv X pins σ (upd H a (.frz oe (.own 0))) s := by
  have up : ∀ b o, H b = some o → upd H a (.frz oe (.own 0)) b = some o := fun b o e => by rw [upd_ne (fun z => by rw [z, ha] at e; cases e)]; exact e
  have fr : ∀ b, b ≠ a → H b = none → upd H a (.frz oe (.own 0)) b = none := fun b ne e => by rw [upd_ne ne]; exact e
  obtain ⟨m, ⟨oL, es, ep, hoL, hdL, hkL, hmL⟩, hl⟩ := id I.loc
  refine ⟨I.ok, I.os, I.bare, ⟨I.base.keep, I.base.slot, fun b o e n hx => fr b (fun z => by rw [z, na] at e; cases e) (I.base.free b o e n hx), I.base.there, fun b xs e => up _ _ (I.base.tups b xs e), fun b o u e => up _ _ (I.base.frzs b o u e), fun b ps e => ?_⟩, I.loc, I.cell, fr _ (fun z => ?_) I.free, fun y c e => fr _ (fun z => ?_) (I.freeC y c e), fun p hp => ?_, fun b o e => ?_, I.len⟩
  · obtain ⟨more, q⟩ := I.base.tbls b ps e
    exact ⟨more, up _ _ q⟩
  · rw [← z, hoL] at ge; cases ge; rw [hdL] at gf; cases gf
  · obtain ⟨v, oc, e', d⟩ := I.cell y c e
    rw [← z, e'] at ge; cases ge; rw [d] at gf; cases gf
  · obtain ⟨e, n, ne, nf, d⟩ := I.pin p hp
    exact ⟨e, fr _ (pn p hp) n, ne, nf, d⟩
  · by_cases q : b = a
    · subst q
      rw [upd_same] at e
      cases e
      exact ⟨ge, oe, ge⟩
    · rw [upd_ne q] at e
      exact (I.hok b o e).stay (fun c w hc hh => hh) (fun x hx => up _ _ hx) fun _ _ hx => up _ _ hx
abbrev Cxh (X : Cx) (a : Addr) : Cx := { X with A := X.A.mark (some (.ref a)), calm := false, hush := false, xe := fun _ _ => False }
theorem Inv.hnd (I : Inv X pins σ H s) (a : Addr) : Inv (Cxh X a) pins σ H s :=
  ⟨⟨I.ok.mod, I.ok.kind, I.ok.glob, I.ok.blt, I.ok.above, I.ok.inj, I.ok.has, I.ok.cab, (fun z => nomatch z), (fun z => nomatch z), I.ok.frames, I.ok.stk, I.ok.exf, I.ok.bs, I.ok.bsz, I.ok.noex, I.ok.exfs, I.ok.funs, I.ok.frf⟩, I.os, I.bare, I.base, I.loc, I.cell, I.free, I.freeC, I.pin, I.hok, I.len⟩
abbrev Cxk (X : Cx) (a : Addr) (oe : Obj) : Cx := { X with A := X.A.mark (some (.ref a)), calm := false, hush := true, H_0 := upd X.H_0 a (.frz oe (.own 0)), xe := fun _ _ => False }
theorem Inv.hndK {oe : Obj} {vs : Array Value} (I : Inv X pins σ H s) (ga : H a = some (.frz oe (.own 0))) (na : X.s_0.heap.get? a = none) (gf : oe.data = .fields vs) (g2 : vs[2]? = some .none) : Inv (Cxk X a oe) pins σ H s := by
  have ne : ∀ {b : Addr} {o : Obj}, X.s_0.heap.get? b = some o → b ≠ a := fun {b o} e z => by rw [z, na] at e; cases e
  have dn : ∀ {b : Addr}, b ≠ a → upd X.H_0 a (.frz oe (.own 0)) b = X.H_0 b := fun {b} h => upd_ne h
  have cs : ∀ {b : Addr} {u : HO}, upd X.H_0 a (.frz oe (.own 0)) b = some u → (b = a ∧ u = .frz oe (.own 0)) ∨ (b ≠ a ∧ X.H_0 b = some u) := fun {b u} e => by
    by_cases q : b = a
    · subst q; rw [upd_same] at e; cases e; exact .inl ⟨rfl, rfl⟩
    · rw [dn q] at e; exact .inr ⟨q, e⟩
  refine ⟨⟨I.ok.mod, I.ok.kind, I.ok.glob, I.ok.blt, I.ok.above, I.ok.inj, I.ok.has, I.ok.cab, (fun z => nomatch z), (fun _ => .inr ⟨a, oe, vs, rfl, upd_same, gf, g2⟩), I.ok.frames, I.ok.stk, I.ok.exf, fun b o e => ⟨(I.ok.bs b o e).1, (dn (ne (I.ok.bs b o e).1)).trans (I.ok.bs b o e).2⟩, I.ok.bsz, I.ok.noex, I.ok.exfs, I.ok.funs, fun b hb => ?_⟩, I.os, I.bare, ⟨fun b o e n hb hx => ?_, fun b o e n hb hx => ?_, fun b o e n hx => ?_, I.base.there, fun b xs e => ?_, fun b o u e => ?_, fun b ps e => ?_⟩, I.loc, I.cell, I.free, I.freeC, I.pin, I.hok, I.len⟩
  · obtain ⟨_, o, ho, _⟩ := I.ok.funs.mem hb
    exact (dn (ne ho)).trans (I.ok.frf b hb)
  · exact I.base.keep b o e ((dn (ne e)).symm.trans n) hb hx
  · exact I.base.slot b o e ((dn (ne e)).symm.trans n) hb hx
  · exact I.base.free b o e ((dn (ne e)).symm.trans n) hx
  · rcases cs e with ⟨_, z⟩ | ⟨_, z⟩
    · cases z
    · exact I.base.tups b xs z
  · rcases cs e with ⟨rfl, z⟩ | ⟨_, z⟩
    · cases z; exact ga
    · exact I.base.frzs b o u z
  · rcases cs e with ⟨_, z⟩ | ⟨_, z⟩
    · cases z
    · exact I.base.tbls b ps z
theorem Inv.unhndK {oe : Obj} {pins0 : List (Addr × Obj)} {σ0 : L2.St} {H0 : Hp} {s0 : Shared} (I0 : Inv X pins0 σ0 H0 s0) (h0 : H0 a = none) (na : X.s_0.heap.get? a = none) (I : Inv (Cxk X a oe) pins σ H s) : Inv X pins σ H s := by
  have ne : ∀ {b : Addr} {o : Obj}, X.s_0.heap.get? b = some o → b ≠ a := fun {b o} e z => by rw [z, na] at e; cases e
  have dn : ∀ {b : Addr}, b ≠ a → upd X.H_0 a (.frz oe (.own 0)) b = X.H_0 b := fun {b} h => upd_ne h
  refine ⟨I0.ok, I.os, I.bare, ⟨fun b o e n hb hx => I.base.keep b o e ((dn (ne e)).trans n) hb hx, fun b o e n hb hx => I.base.slot b o e ((dn (ne e)).trans n) hb hx, fun b o e n hx => I.base.free b o e ((dn (ne e)).trans n) hx, I.base.there, fun b xs e => I.base.tups b xs ((dn fun z => ?_).trans e), fun b o u e => I.base.frzs b o u ((dn fun z => ?_).trans e), fun b ps e => I.base.tbls b ps ((dn fun z => ?_).trans e)⟩, I.loc, I.cell, I.free, I.freeC, I.pin, I.hok, I.len⟩
  · have q := I0.base.tups b xs e
    rw [z, h0] at q; cases q
  · have q := I0.base.frzs b o u e
    rw [z, h0] at q; cases q
  · obtain ⟨m, q⟩ := I0.base.tbls b ps e
    rw [z, h0] at q; cases q
theorem gone_ok {M : Model} {A : Around} {E : Value → Shared → Prop} {i : Nat} {x : Str} {Q : Unit → Shared → Prop} {pos : Pos} (I : Inv X pins σ H s) (hN : X.N.Nodup) (hi : X.N[i]? = some x) (hk : X.env.scope.names.lookup x = some .local)
    (h : ∀ s', Inv X pins (σ.set i none) H s' → Q () s') : wpAny M A (do bindName X.env x .none; unbindBehindTheSuite X.env x pos) Q E s := by
  obtain ⟨m, hn, hl⟩ := id I.loc
  have hcls : (X.env.scope.kind == .class || (X.env.scope.kind == .module && X.env.locals != X.env.globals)) = false := by rw [I.ok.kind]; rfl
  have hiσ : i < σ.length := by rw [I.len]; exact (List.getElem?_eq_some_iff.mp hi).1
  have cne := I.cne
  refine wpAny_nameGoes_keeps hk hn hcls fun h' v hn' hs => ?_
  obtain ⟨oL, _, _, hoL, _⟩ := id hn
  have tracked : HOk X.prog X.w H h' := fun b ob e => by
    refine (I.hok b ob e).stay (fun c w' hc q => (hs.2 c ?_).trans q) (fun _ q => q) fun _ _ q => q
    rintro rfl
    rcases hc with rfl | hc
    · rw [I.free] at e; cases e
    · rw [I.free] at hc; cases hc
  refine h _ ⟨I.ok, I.os, I.bare, ⟨fun b o e n hb hx => ?_, fun b o e n hb hx => ?_, I.base.free, fun b o e hx => ?_, I.base.tups, I.base.frzs, I.base.tbls⟩, ⟨_, hn', fun j y v' e1 e2 e3 => ?_⟩, fun y c e => ?_, I.free, I.freeC, fun p hp => ?_, tracked, by simpa using I.len⟩
  · exact (hs.2 b (Nat.ne_of_lt (Nat.lt_of_lt_of_le (Heap.lt_size e) I.ok.above))).trans (I.base.keep b o e n hb hx)
  · obtain ⟨sl, e1⟩ := I.base.slot b o e n hb hx
    exact ⟨sl, (hs.2 b (Nat.ne_of_lt (Nat.lt_of_lt_of_le (Heap.lt_size e) I.ok.above))).trans e1⟩
  · obtain ⟨o', e1⟩ := I.base.there b o e hx
    exact ⟨o', (hs.2 b (Nat.ne_of_lt (Nat.lt_of_lt_of_le (Heap.lt_size e) I.ok.above))).trans e1⟩
  · by_cases hj : j = i
    · subst hj
      rw [List.getElem?_set_self hiσ] at e2
      cases e2
    · rw [List.getElem?_set_ne (Ne.symm hj)] at e2
      obtain ⟨u', r', q⟩ := hl j y v' e1 e2 e3
      refine ⟨u', r', ?_⟩
      rcases q with ⟨k, e⟩ | ⟨k, c, e, z⟩
      · refine .inl ⟨k, ?_⟩
        have : y ≠ x := fun e => hj (nodup_ix hN e1 (e ▸ hi))
        simp [this, e]
      · exact .inr ⟨k, c, e, z.sameBut hs (cne y c e)⟩
  · obtain ⟨w', z⟩ := I.cell y c e
    exact ⟨w', z.sameBut hs (cne y c e)⟩
  · obtain ⟨e, n, ne, nf, d⟩ := I.pin p hp
    exact ⟨(hs.2 p.1 ne).trans e, n, ne, nf, d⟩
end
theorem J.gone {K : PySem.W.Frag} {c : En} {F H : Hp} {σ : L2.St} {ρ : Rho} {i : Nat} (j : J K c F H σ ρ) (hi : ∀ o, ρ[i]? ≠ some (some (R.io o))) : J K c F H (σ.set i none) (ρ.set i none) where
  len := by rw [List.length_set, List.length_set]; exact j.len
  ff := j.ff
  fh := j.fh
  zh := j.zh
  fz := j.fz
  sh := fun k d h => by
    rw [get_set] at h
    by_cases e : i = k
    · rw [if_pos e] at h
      split at h <;> cases h
    · rw [if_neg e] at h
      rw [get_set, if_neg e]
      exact j.sh k d h
  ow := fun k o h => by
    rcases ow_set h with ⟨e, h | h⟩ | ⟨e, h⟩
    · cases h
    · cases h
    · rw [get_set, if_neg e]
      exact j.ow k o h
  nd := fun k l o o' a h h' e e' => by
    rcases ow_set h with ⟨_, w | w⟩ | ⟨z, w⟩
    · cases w
    · cases w
    rcases ow_set h' with ⟨_, w' | w'⟩ | ⟨z', w'⟩
    · cases w'
    · cases w'
    rw [get_set, if_neg z] at e
    rw [get_set, if_neg z'] at e'
    exact j.nd k l o o' a w w' e e'
  ios := fun p hp => by
    obtain ⟨o, h1, h2⟩ := j.ios p hp
    have ne : i ≠ p.1 := fun e => hi o (by rw [e]; exact h1)
    exact ⟨o, by rw [get_set, if_neg ne]; exact h1, by rw [get_set, if_neg ne]; exact h2⟩
theorem RelR.gone {K : PySem.W.Frag} {c : En} {F H : Hp} {σ : L2.St} {ρ : Rho} {i : Nat} {v : V} : ∀ {r : R}, RelR K c F H σ ρ v r → RelR K c F H (σ.set i none) (ρ.set i none) v r
  | .sh _, h => h
  | .own _, ⟨a, ho, h1, h2, h3, h4, h5, ap⟩ => ⟨a, ho, h1, h2, h3, h4, h5, fun k o hk e => by
      rcases ow_set hk with ⟨_, w | w⟩ | ⟨z, w⟩
      · cases w
      · cases w
      rw [get_set, if_neg z] at e
      exact ap k o w e⟩
  | .io _, h => h.elim
  | .new _, h => h
end DL
set_option Elab.async false
set_option linter.all false
set_option maxRecDepth 100000
namespace DL
open PySem PyProof.Rows L2 PySem.W
structure XD (K : Frag) (mg : Str → Option Value) (x : Str) (D : Addr) : Prop where
  m : mg x = some (.ref D)
  n : nsIn K mainGlobals x = some (some (.ref D))
  e : ∃ f, excI K D f = true
structure XIs (K : Frag) (x : Str) (Dv : Value) (b : Bool) : Prop where
  ex : ∃ C f, nsIn K mainGlobals x = some (some (.ref C)) ∧ excI K C f = true ∧ subIn K (.ref C) Dv = some b
section
variable {prog : Program} {w : World} {A : Around} {E : Value → Shared → Prop} {h : Heap} {g : Array GenState} {d : Drawn} {t : Nat} {os : OsState}
variable {nm q : Str} {C D N e : Addr} {bs bm : List Value} {hdct : Bool} {sn : List Str} {sub : List Value} {ab : Bool} {col : Option Bool} {dd : Option Addr} {k0 k1 k2 k3 k5 : Option Value} {newId : String} {oe : Obj}
theorem xc_matches {M : Model} {Q : Bool → Shared → Prop} (hD : h.get? D = some (excClassObj nm q D N bs bm hdct sn sub ab col dd k0 k1 k2 k3 k5 newId)) (he : h.get? e = some oe) (hcls : oe.cls = .ref C) (hbase : bm.contains (.type "BaseException") = true)
    (hs : Looks M h (isSubtype (.ref C) (.ref D)) true) (hq : Q true ⟨h, g, d, t, os⟩) : wpAny M A (excMatches (.ref e) (.ref D)) Q E ⟨h, g, d, t, os⟩ := by
  have hcB : (Value.ref D :: bm).contains (.type "BaseException") = true := by rw [List.contains_cons, hbase, Bool.or_true]
  have f := tc_notTuple
  have sb : ∀ {Q' : Bool → Shared → Prop}, Q' true ⟨h, g, d, t, os⟩ → wpAny M A (isSubtype (.ref C) (.ref D)) Q' E ⟨h, g, d, t, os⟩ := fun z => hs.here (s := ⟨h, g, d, t, os⟩) z
  unfold excMatches
  repeat (first | (with_reducible refine wpAny_loadPart_at he ?_; rw [hcls]) | with_reducible refine sb ?_ | with_reducible refine wpAny_loadPart_at hD ?_ | (with_reducible refine wpAny_isSubtype_exc hD ?_; rw [hcB]) | wp_step)
  exact hq
end
end DL
namespace DX
open PySem PyProof.Rows L2 DL PySem.W
def goneX (i : Nat) (k : Rho → Ou) (ρ : Rho) : Ou := opX (freeX ρ[i]? (some (ρ.set i none))) k
def Ou.gone (i : Nat) : Ou → Ou
  | .nx ρ => goneX i .nx ρ | .rt r ρ => goneX i (.rt r) ρ | .bk ρ => goneX i .bk ρ | .ct ρ => goneX i .ct ρ | .ex _ _ => .bad | .bad => .bad
@[simp ↓] theorem Ou.gone_rt (i : Nat) (r : R) (ρ : Rho) : (Ou.rt r ρ).gone i = goneX i (.rt r) ρ := Eq.trans rfl rfl
@[simp ↓] theorem goneX_at (i : Nat) (k : Rho → Ou) (ρ : Rho) : goneX i k ρ = opX (freeX ρ[i]? (some (ρ.set i none))) k := Eq.trans rfl rfl
def Ou.try (o : Ou) (h : Xn → Rho → Ou) : Ou := match o with | .ex z ρ => h z ρ | o => o
@[simp ↓] theorem Ou.try_rt (r : R) (ρ : Rho) (h : Xn → Rho → Ou) : (Ou.rt r ρ).try h = .rt r ρ := Eq.trans rfl rfl
@[simp ↓] theorem Ou.try_ex (z : Xn) (ρ : Rho) (h : Xn → Rho → Ou) : (Ou.ex z ρ).try h = h z ρ := Eq.trans rfl rfl
def inX (z : Xn) (cs : List Str) (o : Ou) : Ou := if z.cls ∈ cs then o else .bad
def xTry (cs : List Str) (i : Nat) (b h : XS) : XS := fun ρ => (b ρ).try fun z ρ' => inX z cs (opX (xN i (.own (.exc z)) ρ') fun ρ2 => (h ρ2).gone i)
section
variable {X : Cx} {body suite : List Stmt} {b0 : Stmt} {xb xh : XS} {Dn n : Str} {D : Addr} {cs : List Str} {i : Nat} {np hp pos : Pos}
theorem sxx_try (hd : XD X.K X.mg Dn D) (hcs : ∀ x ∈ cs, XIs X.K x (.ref D) true) (hg : Gl X Dn) (hN : X.N.Nodup) (hi : X.N[i]? = some n) (hk : X.env.scope.names.lookup n = some .local) (hst : X.stack = X.env :: X.outer) (hfr : X.env.frame = some X.env.locals)
    (hb : ∀ E, SXxs (X.wish E) body xb) (hh : ∀ a oe, SXs (Cxk X a oe) (b0 :: suite) xh) (hdb : (Dn == ("__debug__" : Str)) = false := by decide) :
    SXx X (.Try body [.ExceptHandler (some (.Name Dn np)) (some n) (b0 :: suite) hp] [] [] pos) (xTry cs i xb xh) := by
  intro pins s σ H D0 c F ρ I j q
  refine wpAny_Try_except ?_
  unfold xTry at q
  refine wpAny_mono (hb (fun e s₁ => wpAny (model X.prog X.w) X.A (noteFrame e X.env) (fun _ s₂ => wpAny (model X.prog X.w) X.A (setFlight e none) (fun _ s₃ => wpAny (model X.prog X.w) X.A (handleBy e X.env [.ExceptHandler (some (.Name Dn np)) (some n) (b0 :: suite) hp]) (SP X pins D0) X.xe s₃) X.xe s₂) X.xe s₁) pins s σ H D0 c F ρ (I.wish _) j ?_) (fun f s1 r => ?_) fun _ _ z => z
  · cases e : xb ρ with
    | nx ρ' => rw [e] at q; exact q
    | rt r ρ' => rw [e] at q; exact q
    | bk ρ' => rw [e] at q; exact q
    | ct ρ' => rw [e] at q; exact q
    | bad => rw [e] at q; exact q
    | ex z ρ' =>
      rw [e] at q
      have q : outS X pins c D0 (inX z cs (opX (xN i (.own (.exc z)) ρ') fun ρ2 => (xh ρ2).gone i)) := q
      unfold inX at q
      by_cases hz : z.cls ∈ cs
      case neg => rw [if_neg hz] at q; exact q.elim
      rw [if_pos hz] at q
      cases e2 : xN i (.own (.exc z)) ρ' with
      | none => rw [e2] at q; exact q.elim
      | some ρ2 =>
      rw [e2] at q
      have q : outS X pins c D0 ((xh ρ2).gone i) := q
      obtain ⟨fs1, e3⟩ := freeX_inv e2
      obtain ⟨hl, hio⟩ := freeSlot_use fs1
      intro F' H' σ' s' a cls dx T I' j' xf'
      have I1 : Inv X pins σ' H' s' := I'.unwish
      have xf : Xf X pins F' H' s' a cls dx T z := ⟨xf'.xo, xf'.na, xf'.ha, xf'.nt, xf'.pn, xf'.at_⟩
      have hstk : s'.heap.FunFrames X.base (X.env :: X.outer) := hst ▸ I1.stack
      show wpAny _ X.A (noteFrame (.ref a) X.env) _ _ s'
      refine xo_noted (base := X.base) (outer := X.outer) (by rw [I1.ok.frames, hst]) hstk hfr xf.xo fun h1 T1 xo1 nT k => ?_
      have k' : Xk (frs X.stack) a T s'.heap h1 := by rw [hst]; exact k
      have I2 := DL.Inv.xnote I1 xf k'
      have nT0 : X.s_0.heap.get? T1 = none := by
        rcases nT with nT | nT
        · exact Heap.get?_none_of_le (Nat.le_trans I1.sz nT)
        · exact (xf.nt T1 nT).1
      have hT1 : H' T1 = none := by
        rcases nT with nT | nT
        · exact I1.hok.fresh nT
        · exact (xf.nt T1 nT).2
      have xf2 : Xf X pins F' H' { s' with heap := h1 } a cls dx (some T1) z := ⟨xo1.weak, xf.na, xf.ha, fun t e => by cases e; exact ⟨nT0, hT1⟩, fun p hp => ⟨(xf.pn p hp).1, fun e => by
        rcases nT with nT | nT
        · have := Heap.lt_size (I1.pin p hp).1
          rw [Option.some.inj e] at this
          exact absurd (Nat.lt_of_lt_of_le this nT) (Nat.lt_irrefl _)
        · exact (xf.pn p hp).2 (e.trans nT.symm)⟩, xf.at_⟩
      obtain ⟨C, f, n1, x1, s1⟩ := (hcs z.cls hz).ex
      obtain ⟨⟨C', rfl, n2⟩, _⟩ := xf.at_
      obtain rfl : C = C' := by rw [n1] at n2; cases n2; rfl
      obtain ⟨fD, xD⟩ := hd.e
      obtain ⟨nm, qn, N, bs, bm, sn, sub, ab, col, dd, k0, k1, k2, k3, k5, mN, hD, hN0, hi0, T0⟩ := (xhp_of I2.kIn xD).ex
      obtain ⟨⟨oe, ves, ge, gc, gd, gf, gz, g1, g2⟩, tr⟩ := id xo1
      refine wpAny_handleBy_cons (codeAny_handlers_test (ld_glob (X := Cxh X a) (DL.Inv.hnd I2 a) hg hd.m ?_ hdb)) (by intro q; cases q)
      refine xc_matches (h := h1) hD ge gc (T0.hasType (by rfl)) (looks_subIn I2.kIn s1) ?_
      refine codeAny_handlers_suite_as ?_
      refine xo_flight xo1 fun h2 xo2 same sz => ?_
      have k2 : Xk (frs X.stack) a (some T1) h1 h2 := ⟨fun b o hb _ bT _ => (same b fun z => bT (by rw [z])).trans hb, fun b o hb _ nf => ⟨o.slots, (same b fun z => by
        obtain ⟨_, ot, ts, gt, td, _⟩ := tr T1 rfl
        rw [z, gt] at hb
        cases hb
        exact nf _ td).trans hb⟩⟩
      have I3 := DL.Inv.xnote I2 xf2 k2
      obtain ⟨⟨oe2, ves2, ge2, gc2, gd2, gf2, gz2, g12, g22⟩, tr2⟩ := id xo2
      have I4 := DL.Inv.adopt I3 ge2 gf2 xf.na xf.ha fun p hp => (xf.pn p hp).1
      have ja : J X.K c F' (upd H' a (.frz oe2 (.own 0))) σ' ρ' := j'.alloc xf.ha _
      have at2 : XAt X.K F' oe2.cls oe2.dict z := by rw [gc2, gd2]; exact xf.at_
      have jb : J X.K c F' (upd H' a (.frz oe2 (.own 0))) (σ'.set i (some (.ref a))) ρ2 := by
        cases e3
        exact ja.assign hl hio ⟨a, _, rfl, upd_same, ⟨oe2, ves2, rfl, gf2, at2⟩, j'.ffree xf.ha, j'.zfree xf.ha, j'.apart xf.ha⟩
      refine store_ok (X := Cxk X a oe2) (i := i) (v := .ref a) (DL.Inv.hndK I4 upd_same xf.na gf2 g22) hN hi (.inl hk) rfl (fun s3 I5 => ?_) (.inr hk)
      refine wpAny_mono ((hh a oe2).ps pins s3 _ _ ⟨fun σ2 H2 => D0.nx (σ2.set i none) H2, D0.rt, fun σ2 H2 => D0.bk (σ2.set i none) H2, fun σ2 H2 => D0.ct (σ2.set i none) H2⟩ I5 ⟨c, F', ρ2, jb, ?_⟩) (fun fl s4 r => ?_) fun _ _ z => z.elim
      · unfold toS
        have gi : ∀ {ρ3 : Rho} {kk : Rho → Ou}, outS X pins c D0 (goneX i kk ρ3) → (∀ o, ρ3[i]? ≠ some (some (R.io o))) ∧ outS X pins c D0 (kk (ρ3.set i none)) := fun {ρ3 kk} w => by
          unfold goneX at w
          cases e4 : freeX ρ3[i]? (some (ρ3.set i none)) with
          | none => rw [e4] at w; exact w.elim
          | some ρ4 =>
            rw [e4] at w
            obtain ⟨f1, e5⟩ := freeX_inv e4
            cases e5
            exact ⟨(freeSlot_use f1).2, w⟩
        cases e4 : xh ρ2 with
        | nx ρ3 => rw [e4] at q; obtain ⟨g1, g2⟩ := gi q; exact fun F5 H5 σ5 j5 => g2 F5 H5 _ (j5.gone g1)
        | rt r ρ3 => rw [e4] at q; obtain ⟨g1, g2⟩ := gi q; exact fun F5 H5 σ5 v j5 rr => g2 F5 H5 _ v (j5.gone g1) rr.gone
        | bk ρ3 => rw [e4] at q; obtain ⟨g1, g2⟩ := gi q; exact fun F5 H5 σ5 j5 => g2 F5 H5 _ (j5.gone g1)
        | ct ρ3 => rw [e4] at q; obtain ⟨g1, g2⟩ := gi q; exact fun F5 H5 σ5 j5 => g2 F5 H5 _ (j5.gone g1)
        | ex z ρ3 => rw [e4] at q; exact q.elim
        | bad => rw [e4] at q; exact q.elim
      · cases fl with
        | next => obtain ⟨σ2, H2, I6, q6⟩ := r; exact gone_ok (DL.Inv.unhndK I3 xf.ha xf.na I6) hN hi hk fun s5 I7 => ⟨_, H2, I7, q6⟩
        | brk => obtain ⟨σ2, H2, I6, q6⟩ := r; exact gone_ok (DL.Inv.unhndK I3 xf.ha xf.na I6) hN hi hk fun s5 I7 => ⟨_, H2, I7, q6⟩
        | cont => obtain ⟨σ2, H2, I6, q6⟩ := r; exact gone_ok (DL.Inv.unhndK I3 xf.ha xf.na I6) hN hi hk fun s5 I7 => ⟨_, H2, I7, q6⟩
        | ret u => obtain ⟨v, σ2, H2, I6, rv, q6⟩ := r; exact gone_ok (DL.Inv.unhndK I3 xf.ha xf.na I6) hN hi hk fun s5 I7 => ⟨v, _, H2, I7, rv, q6⟩
  · cases f with
    | next => exact wpAny_execs_nil r.unwish
    | ret v => exact r.unwish
    | brk => exact r.unwish
    | cont => exact r.unwish
end
end DX
set_option Elab.async false
set_option linter.all false
set_option maxRecDepth 100000
namespace DL
open PySem PyProof.Rows L2 PySem.W
def excQ (K : Frag) (C : Addr) : Bool := findIn K (.ref C) "__getattribute__" == some (some (.builtin "BaseException.__getattribute__")) && findIn K (.ref C) "__getattr__" == some none && findIn K (.ref C) "__class__" == some (some (.builtin "object.__class__")) &&
  specialIn K (.builtin "object.__class__") "__get__" == some (some (.builtin "getset_descriptor.__get__")) && takesIn K (.builtin "object.__class__") == some true && mroIn K C (.type "object") == some true && mroIn K C (.type "BaseException") == some true && (clsIn K C).isSome && typeIn K (.ref C) == some (.type "type")
section
variable {prog : Program} {w : World} {A : Around} {E : Value → Shared → Prop} {h : Heap} {g : Array GenState} {d : Drawn} {t : Nat} {os : OsState} {a C : Addr} {o : Obj} {K : Frag} {name : Str}
theorem xa_check {M : Model} {nameV : Value} {Q : Unit → Shared → Prop} (X : K.In h) (hq : excQ K C = true) (hx : h.get? a = some o) (hc : o.cls = .ref C) (k : Q () ⟨h, g, d, t, os⟩) : wpAny M A (checkBuiltinCall "BaseException.__getattribute__" ⟨[.ref a, nameV], []⟩) Q E ⟨h, g, d, t, os⟩ := by
  have hk : builtinKind "BaseException.__getattribute__" = some .slot := by decide +kernel
  have hsplit : splitId "BaseException.__getattribute__" = some ("BaseException", "__getattribute__") := by decide +kernel
  have ha := F.args_bexc_ga (.ref a) nameV
  simp only [excQ, Bool.and_eq_true, beq_iff_eq] at hq
  obtain ⟨⟨⟨⟨⟨⟨⟨⟨q1, q2⟩, q3⟩, q4⟩, q5⟩, q6⟩, q7⟩, q8⟩, q9⟩ := hq
  have sb : ∀ {Q' : Bool → Shared → Prop}, Q' true ⟨h, g, d, t, os⟩ → wpAny M A (isSubtype (.ref C) (.type "BaseException")) Q' E ⟨h, g, d, t, os⟩ := fun z => (looks_mroIn X q7).here (s := ⟨h, g, d, t, os⟩) z
  simp only [checkBuiltinCall, hk, hsplit]
  refine wpAny_bind ?_
  unfold isInstance
  repeat (first | (with_reducible refine wpAny_loadPart_at hx ?_; rw [hc]) | with_reducible refine sb ?_ | wp_step)
  exact k
theorem xa_by {tk : Tok} {fill expr : Bool} {v : Value} {Q : Value → Shared → Prop} (X : K.In h) (hq : excQ K C = true) (hx : h.get? a = some o) (hc : o.cls = .ref C) (hh : handedIn v = true)
    (k : ∀ {A' : Around} {E' : Value → Shared → Prop} {Q' : Fin → Shared → Prop}, Q' (.done (.ret v)) ⟨h, g, d, t, os⟩ → wpAny (model prog w) A' (Builtin.«object.__getattribute__» ⟨[.ref a, .str name tk], []⟩) Q' E' ⟨h, g, d, t, os⟩) (q : Q v ⟨h, g, d, t, os⟩) :
    wpAny (model prog w) A (getAttrBy (.ref a) (.str name tk) fill expr) Q E ⟨h, g, d, t, os⟩ := by
  have hq0 := hq
  simp only [excQ, Bool.and_eq_true, beq_iff_eq] at hq
  obtain ⟨⟨⟨⟨⟨⟨⟨⟨q1, q2⟩, q3⟩, q4⟩, q5⟩, q6⟩, q7⟩, q8⟩, q9⟩ := hq
  have f3 := F.attr_ValueError.ga.bind (.ref a)
  have hx0 : (expr && onTheHeap (Value.builtin "BaseException.__getattribute__")) = false := by cases expr <;> rfl
  have hx2 : (Value.builtin "BaseException.__getattribute__" == Value.builtin "object.__getattribute__") = false := by decide +kernel
  have hx1 : (onTheHeap (Value.ref C) && Value.builtin "BaseException.__getattribute__" == Value.builtin "object.__getattribute__") = false := by rw [hx2]; rfl
  have l1 : ∀ {Q' : Option Value → Shared → Prop} {E' : Value → Shared → Prop}, Q' (some (.builtin "BaseException.__getattribute__")) ⟨h, g, d, t, os⟩ → wpAny (model prog w) A (typeLookup (.ref C) "__getattribute__") Q' E' ⟨h, g, d, t, os⟩ := fun z => (looks_findIn X q1).here (s := ⟨h, g, d, t, os⟩) z
  have l2 : ∀ {Q' : Option Value → Shared → Prop} {E' : Value → Shared → Prop}, Q' none ⟨h, g, d, t, os⟩ → wpAny (model prog w) A (typeLookup (.ref C) "__getattr__") Q' E' ⟨h, g, d, t, os⟩ := fun z => (looks_findIn X q2).here (s := ⟨h, g, d, t, os⟩) z
  have hv := handedOut_of hh
  repeat (any_goals (first | assumption | (with_reducible refine wpAny_loadPart_at hx ?_; rw [hc]) | with_reducible refine l1 ?_ | with_reducible refine l2 ?_ | wp_step))
  refine codeAny_call_builtin F.attr_ValueError.ga.plain F.entry_bexc_ga (xa_check X hq0 hx hc (k ?_))
  repeat (any_goals (first | assumption | wp_step))
end
end DL
set_option Elab.async false
set_option linter.all false
set_option maxRecDepth 100000
namespace DL
open PySem PyProof.Rows L2 PySem.W
theorem lookIn_of {name : Str} {o : Obj} {es : Array DictEntry} {ep : Nat} {v : Value} (hd : o.data = .dict es ep) (e : nsFind es name = some v) : lookIn name o = some (some v) := by
  unfold lookIn
  rw [hd]
  unfold nsFind findBy at e
  rw [← Array.find?_toList] at e
  cases q : es.toList.find? (·.key.isStr name) with
  | none => rw [q] at e; cases e
  | some x =>
    rw [q] at e
    show (match es.toList.find? (·.key.isStr name) with | some e => some (some e.val) | none => if es.toList.any (·.refKey) then none else some none) = _
    rw [q]
    exact congrArg some e
section
variable {prog : Program} {w : World} {A : Around} {E : Value → Shared → Prop} {h : Heap} {g : Array GenState} {d : Drawn} {t : Nat} {os : OsState} {a C : Addr} {o : Obj} {od : Option Obj} {K : Frag} {name : Str} {tk : Tok}
theorem xa_entry {v : Value} {Q : Fin → Shared → Prop} (X : K.In h) (I : InstAt h a o C od) (hf : findObj K C od name = some (.value v)) (k : Q (.done (.ret v)) ⟨h, g, d, t, os⟩) :
    wpAny (model prog w) A (Builtin.«object.__getattribute__» ⟨[.ref a, .str name tk], []⟩) Q E ⟨h, g, d, t, os⟩ := by
  have fnd : ∀ {Q' : Builtin.ObjectAttr.Found → Shared → Prop}, Q' (.value v) ⟨h, g, d, t, os⟩ → wpAny (model prog w) A (Builtin.ObjectAttr.find (.ref a) (.ref C) name) Q' E ⟨h, g, d, t, os⟩ := fun z => (looks_find X I hf).here (s := ⟨h, g, d, t, os⟩) z
  have hx := I.at_
  have hc := I.cls
  unfold Builtin.«object.__getattribute__»
  repeat (any_goals (first | assumption | with_reducible refine fnd ?_ | (with_reducible refine wpAny_loadPart_at hx ?_; rw [hc]) | wp_step))
theorem xa_entryC {Q : Fin → Shared → Prop} (X : K.In h) (I : InstAt h a o C od) (hm : mroIn K C (.type "object") = some true) (hf : findObj K C od "__class__" = some (.bind (.builtin "getset_descriptor.__get__") (.builtin "object.__class__"))) (k : Q (.done (.ret (.ref C))) ⟨h, g, d, t, os⟩) :
    wpAny (model prog w) A (Builtin.«object.__getattribute__» ⟨[.ref a, .str "__class__" tk], []⟩) Q E ⟨h, g, d, t, os⟩ := by
  have fnd : ∀ {Q' : Builtin.ObjectAttr.Found → Shared → Prop}, Q' (.bind (.builtin "getset_descriptor.__get__") (.builtin "object.__class__")) ⟨h, g, d, t, os⟩ → wpAny (model prog w) A (Builtin.ObjectAttr.find (.ref a) (.ref C) "__class__") Q' E ⟨h, g, d, t, os⟩ := fun z => (looks_find X I hf).here (s := ⟨h, g, d, t, os⟩) z
  have hx := I.at_
  have hc := I.cls
  have cg : ∀ {Q' : Value → Shared → Prop} {E' : Value → Shared → Prop}, Q' (.ref C) ⟨h, g, d, t, os⟩ → wpAny (model prog w) A (call (.builtin "getset_descriptor.__get__") [.builtin "object.__class__", .ref a, .ref C]) Q' E' ⟨h, g, d, t, os⟩ := fun z => wpAny_call (class_get (s := ⟨h, g, d, t, os⟩) X I hm z)
  unfold Builtin.«object.__getattribute__»
  repeat (any_goals (first | assumption | with_reducible refine fnd ?_ | with_reducible refine cg ?_ | (with_reducible refine wpAny_loadPart_at hx ?_; rw [hc]) | wp_step))
theorem xa_attr {expr : Bool} {dx : Addr} {mA : Str → Option Value} {vs : Array Value} {v : Value} {Q : Value → Shared → Prop} (X : K.In h) (hq : excQ K C = true) (hdc : hasDictIn K C = true) (hna : findIn K (.ref C) name = some none)
    (hx : h.get? a = some o) (hc : o.cls = .ref C) (hv : o.data = .fields vs) (hd : o.dict = some dx) (hn : h.Ns1 dx mA) (e : mA name = some v) (hh : handedIn v = true) (q : Q v ⟨h, g, d, t + 1, os⟩) :
    wpAny (model prog w) A (getAttr (.ref a) name expr) Q E ⟨h, g, d, t, os⟩ := by
  obtain ⟨oD, es, ep, g1, g2, _, _, g3⟩ := hn
  have I : InstAt h a o C (some oD) := ⟨hx, hc, by unfold notCls; rw [hv], by rw [hd]; exact g1⟩
  have hf : findObj K C (some oD) name = some (.value v) := findObj_own hdc hna rfl (lookIn_of g2 ((g3 name).trans e))
  unfold getAttr
  refine wpAny_bind (wpAny_mkText ?_)
  exact xa_by X hq hx hc hh (fun z => xa_entry X I hf z) q
theorem findObj_cls (hc : (clsIn K C).isSome = true) {a g : Value} (ha : findIn K (.ref C) name = some (some a)) (hg : specialIn K a "__get__" = some (some g)) (ht : takesIn K a = some true) : findObj K C od name = some (.bind g a) := by
  obtain ⟨cd, hc⟩ := Option.isSome_iff_exists.mp hc
  unfold findObj
  rw [hc, Option.bind_some, ha, Option.bind_some]
  simp [hg, ht]
end
structure XIn (h : Heap) (a C : Addr) : Prop where
  ex : ∃ o vs, h.get? a = some o ∧ o.cls = .ref C ∧ o.data = .fields vs ∧ ∀ dx, o.dict = some dx → ∃ od, h.get? dx = some od
theorem XIn.inst {h : Heap} {a C : Addr} (x : XIn h a C) : ∃ o od, InstAt h a o C od := by
  obtain ⟨o, vs, h1, h2, h3, h4⟩ := x.ex
  have no : notCls o = true := by unfold notCls; rw [h3]
  cases e : o.dict with
  | none => exact ⟨o, none, h1, h2, no, by rw [e]; trivial⟩
  | some dx =>
    obtain ⟨od, h5⟩ := h4 dx e
    exact ⟨o, some od, h1, h2, no, by rw [e]; exact h5⟩
theorem kitx_exc {K : Frag} {a C : Addr} (hq : excQ K C = true) : KitX K (.ref a) (.ref C) (fun h => XIn h a C) := by
  have hq0 := hq
  simp only [excQ, Bool.and_eq_true, beq_iff_eq] at hq
  obtain ⟨⟨⟨⟨⟨⟨⟨⟨q1, q2⟩, q3⟩, q4⟩, q5⟩, q6⟩, q7⟩, q8⟩, q9⟩ := hq
  refine ⟨fun M h X x => ?_, fun M h X x => ?_, fun h tp dd its n sl X htp => ?_, fun {prog w A E Q s} X x k => ?_⟩
  · obtain ⟨o, od, I⟩ := x.inst
    exact I.type
  · obtain ⟨cd, hcd⟩ := Option.isSome_iff_exists.mp q8
    unfold clsIn at hcd
    split at hcd
    · rename_i c' d' cd' sl' ho
      intro A' Q' E' s' k q
      unfold isType loadHead
      exact wpAny_bind (wpAny_loadPart (k _ _ (X _ _ ho)) (wpAny_pure q))
    · cases hcd
  · refine Bool.eq_false_iff.mpr fun q => ?_
    have e : C = tp := Value.ref.inj (beq_iff_eq.mp q)
    subst e
    obtain ⟨cd, hcd⟩ := Option.isSome_iff_exists.mp q8
    unfold clsIn at hcd
    split at hcd
    · rename_i c' d' cd' sl' ho
      rw [X _ _ ho] at htp
      cases htp
    · cases hcd
  · obtain ⟨o, od, I⟩ := x.inst
    obtain ⟨h, g, d, t, os⟩ := s
    unfold getAttr? getAttrBy?
    refine wpAny_bind (wpAny_mkText (wpAny_bind (wpAny_attempt ?_)))
    refine xa_by (h := h) (t := t + 1) X hq0 I.at_ I.cls (v := .ref C) rfl (fun z => xa_entryC X I q6 (findObj_cls q8 q3 q4 q5) z) ?_
    exact wpAny_pure k
end DL
set_option Elab.async false
set_option linter.all false
set_option maxRecDepth 100000
namespace DL
open PySem PyProof.Rows L2 PySem.W
structure XQ (K : Frag) (x atn : Str) : Prop where
  ex : ∃ C, nsIn K mainGlobals x = some (some (.ref C)) ∧ excQ K C = true ∧ hasDictIn K C = true ∧ findIn K (.ref C) atn = some none
structure XKit (K : Frag) (x : Str) (Dv : Value) (b : Bool) : Prop where
  ex : ∃ C, nsIn K mainGlobals x = some (some (.ref C)) ∧ excQ K C = true ∧ kitOne K (.ref C) Dv = some b
end DL
namespace DX
open PySem PyProof.Rows L2 DL PySem.W
section
variable {α β : Type}
def excX (s : Option (Option R)) (k : Xn → Re α β) : Re α β := match s with
  | some (some (.own (.exc z))) => k z
  | some (some (.io (.exc z))) => k z
  | _ => .bad
@[simp ↓] theorem excX_own (z : Xn) (k : Xn → Re α β) : excX (some (some (.own (.exc z)))) k = k z := Eq.trans rfl rfl
@[simp ↓] theorem excX_io (z : Xn) (k : Xn → Re α β) : excX (some (some (.io (.exc z)))) k = k z := Eq.trans rfl rfl
theorem excX_inv {ρ : Rho} {i : Nat} {k : Xn → Re α β} {a : α} {b : β} (h : excX ρ[i]? k = .ok a b) : ∃ z, Ow ρ i (.exc z) ∧ k z = .ok a b := by
  have go : ∀ s, ρ[i]? = s → excX s k = .ok a b → ∃ z, Ow ρ i (.exc z) ∧ k z = .ok a b := by
    intro s hs h
    match s, h with
    | some (some (.own (.exc z))), h => exact ⟨z, .inl hs, h⟩
    | some (some (.io (.exc z))), h => exact ⟨z, .inr hs, h⟩
    | some (some (.own (.lst _))), h => cases h
    | some (some (.own (.dic _))), h => cases h
    | some (some (.io (.lst _))), h => cases h
    | some (some (.io (.dic _))), h => cases h
    | some (some (.sh _)), h => cases h
    | some none, h => cases h
    | none, h => cases h
  exact go _ rfl h
end
def attX (cs : List Str) (atn : Str) (z : Xn) : Option R := match z.args with
  | [.str an, d] => gd (z.cls ∈ cs ∧ an = atn) (some (.sh d))
  | _ => none
@[simp ↓] theorem attX_one (cs : List Str) (atn c an : Str) (d : PyData) : attX cs atn ⟨c, [.str an, d]⟩ = gd (c ∈ cs ∧ an = atn) (some (.sh d)) := Eq.trans rfl rfl
def xAttr (cs : List Str) (i : Nat) (atn : Str) : XE := fun ρ => excX ρ[i]? fun z => ofO (attX cs atn z) ρ
def isX (tab : List (Str × Bool)) (z : Xn) : Option R := (tab.lookup z.cls).map fun b => .sh (.bool b)
@[simp ↓] theorem isX_at (tab : List (Str × Bool)) (c : Str) (as : List PyData) : isX tab ⟨c, as⟩ = (tab.lookup c).map fun b => .sh (.bool b) := Eq.trans rfl rfl
def xIsE (tab : List (Str × Bool)) (i : Nat) : XE := fun ρ => excX ρ[i]? fun z => ofO (isX tab z) ρ
theorem lookup_mem {tab : List (Str × Bool)} {c : Str} {b : Bool} (h : tab.lookup c = some b) : (c, b) ∈ tab := PySem.mem_of_lookup h
theorem exc_at {X : Cx} {pins : List (Addr × Obj)} {σ : L2.St} {F H : Hp} {s : Shared} {c : En} {ρ : Rho} {i : Nat} {z : Xn} (I : Inv X pins σ H s) (j : J X.K c F H σ ρ) (o : Ow ρ i (.exc z)) :
    ∃ a oe vs, σ[i]? = some (some (.ref a)) ∧ H a = some (.frz oe (.own 0)) ∧ s.heap.get? a = some oe ∧ oe.data = .fields vs ∧ XAt X.K F oe.cls oe.dict z := by
  obtain ⟨a, ho, h1, h2, ⟨oe, vs, rfl, h3, h4⟩, _⟩ := j.ow i _ o
  exact ⟨a, oe, vs, h1, h2, (I.hok a _ h2).1, h3, h4⟩
theorem xdict_at {K : Frag} {F H : Hp} {cls : Value} {dx : Option Addr} {z : Xn} (s : Same F H) (x : XAt K F cls dx z) : ∀ d, dx = some d → ∃ o, H d = some o := by
  intro d e
  obtain ⟨_, h2⟩ := x
  split at h2
  · rw [h2] at e; cases e
  · obtain ⟨a, v, e1, f, _⟩ := h2
    rw [e1] at e
    cases e
    exact ⟨_, s _ _ f⟩
  · exact h2.elim
section
variable {X : Cx} {pos p p2 py : Pos} {y atn x : Str} {i : Nat} {cs : List Str} {tab : List (Str × Bool)} {D : Addr} {n : String}
theorem xe_attr (hcs : ∀ x ∈ cs, XQ X.K x atn) (hy : PE X (.Name y py) (tVar i)) (hb : attributeBase (.Name y py) atn X.env (eval (.Name y py) X.env) = eval (.Name y py) X.env := by rfl) : EX X (.Attribute (.Name y py) atn pos) (xAttr cs i atn) :=
  ⟨toG_mono _, fun pins s σ H Q I ⟨c, F, ρ, j, r, ρ', e, q⟩ => by
    obtain ⟨z, o, e1⟩ := excX_inv e
    obtain ⟨e2, rfl⟩ := ofO_inv e1
    obtain ⟨a, oe, vs, hσ, ha, ge, gf, xat⟩ := exc_at I j o
    refine attr_of hb (thn (hy pins s σ H (fun v H1 => v = .ref a ∧ H1 = H) I ⟨.ref a, hσ, rfl, rfl⟩) fun u s1 ⟨x, H1, I1, rx, ex, eH⟩ => ?_)
    subst ex eH
    obtain rfl : u = Value.ref a := rx
    unfold attX at e2
    obtain ⟨⟨C, hC, hn⟩, xa⟩ := xat
    split at e2
    · next an d hz =>
      obtain ⟨⟨c1, rfl⟩, c2⟩ := gd_inv e2
      cases c2
      rw [hz] at xa
      obtain ⟨dx, v, ed, fd, dp⟩ := xa
      obtain ⟨C', n', q1, q2, q3⟩ := (hcs _ c1).ex
      obtain rfl : C' = C := by rw [hn] at n'; cases n'; rfl
      have hok : ObjOk X.prog X.w H1 s1.heap dx (.xd [(an, v)]) := I1.hok dx _ (j.fh _ _ fd)
      obtain ⟨mA, ns, rel⟩ := hok
      have rv := rel an
      simp only [List.lookup, beq_self_eq_true] at rv
      obtain ⟨u, hu, ru⟩ := RelO.some_of rv
      obtain ⟨hp, g, dr, t, os⟩ := s1
      refine xa_attr (h := hp) (dx := dx) (mA := mA) I1.kIn q1 q2 q3 (I1.hok a _ ha).1 hC gf ed ns hu (handed_of ru) ?_
      exact ⟨v, H1, I1.tok (t + 1), ru, q F H1 v j dp⟩
    · cases e2⟩
def rIsE (K : Frag) : List V → Hp → VK → Prop := fun xs H Q => ∃ a oe vs C dv b, xs = [.ref a, dv] ∧ H a = some (.frz oe (.own 0)) ∧ oe.data = .fields vs ∧ oe.cls = .ref C ∧ (∀ d, oe.dict = some d → ∃ o, H d = some o) ∧ excQ K C = true ∧
  ((∃ D, dv = .ref D ∧ kitOne K (.ref C) (.ref D) = some b) ∨ (∃ n, dv = .ty n ∧ kitOne K (.ref C) (.type n) = some b) ∨ ∃ t, ∃ Ds : List Addr, dv = .ref t ∧ H t = some (.tup (Ds.map V.ref)) ∧ kitAny K (.ref C) (Ds.map Value.ref) = some b) ∧ Q (.bl b) H
theorem vals_refs : ∀ {Ds : List Addr} {us : List Value}, Vals (Ds.map V.ref) us → us = Ds.map Value.ref
  | [], _, h => by cases h; rfl
  | D :: Ds, _, h => by
    cases h with
    | cons a t => rw [List.map_cons, ← vals_refs t, show _ = Value.ref D from a]
theorem call_isE : CallR X (.builtin "isinstance") (rIsE X.K) := by
  intro pins s σ H xs us Q I r h
  obtain ⟨a, oe, vs, C, dv, b, rfl, ha, gf, gc, gd, hq, hk, q⟩ := h
  obtain ⟨u, w, rfl, ru, rw'⟩ := r.two
  cases (show u = Value.ref a from ru)
  have xin : XIn s.heap a C := ⟨oe, vs, (I.hok a _ ha).1, gc, gf, fun d e => by
    obtain ⟨o, ho⟩ := gd d e
    exact objOk_there (I.hok d o ho)⟩
  have fin : ∀ tk, EP X pins σ Q (.bool b) { s with toks := tk } := fun tk => ⟨.bl _, H, I.tok tk, rfl, q⟩
  rcases hk with ⟨D, rfl, e⟩ | ⟨n, rfl, e⟩ | ⟨t, Ds, rfl, ht, e⟩
  · cases (show w = Value.ref D from rw')
    exact kia_one (kitx_exc hq) I.kIn xin e (fun z => nomatch z) fin
  · cases (show w = Value.type n from rw')
    exact kia_one (kitx_exc hq) I.kIn xin e (fun z => nomatch z) fin
  · cases (show w = Value.ref t from rw')
    obtain ⟨_, its, rv, ⟨oc, od, dt, sl⟩, h1, h2, m, h3⟩ := I.hok t _ ht
    obtain rfl := vals_refs rv
    cases h2
    cases (show dt = _ from h3)
    exact kia_tup (kitx_exc hq) I.kIn xin h1 e (fun z => nomatch z) fin
theorem isE_use {pins : List (Addr × Obj)} {σ : L2.St} {F H : Hp} {s : Shared} {c : En} {ρ ρ' : Rho} {r : R} (j : J X.K c F H σ ρ) (e : xIsE tab i ρ = .ok r ρ') : ∃ z a oe vs C b, ρ' = ρ ∧ r = .sh (.bool b) ∧ (z.cls, b) ∈ tab ∧ σ[i]? = some (some (.ref a)) ∧ H a = some (.frz oe (.own 0)) ∧ oe.data = .fields vs ∧ oe.cls = .ref C ∧
    (∀ d, oe.dict = some d → ∃ o, H d = some o) ∧ nsIn X.K mainGlobals (Xn.cls z) = some (some (.ref C)) := by
  obtain ⟨z, o, e1⟩ := excX_inv e
  obtain ⟨e2, rfl⟩ := ofO_inv e1
  obtain ⟨a, ho, h1, h2, ⟨oe, vs, rfl, h3, h4⟩, _⟩ := j.ow i _ o
  unfold isX at e2
  obtain ⟨b, hb, rfl⟩ := Option.map_eq_some_iff.mp e2
  obtain ⟨C, hC, hn⟩ := h4.1
  exact ⟨z, a, oe, vs, C, b, rfl, rfl, lookup_mem hb, h1, h2, h3, hC, xdict_at j.fh h4, hn⟩
theorem xe_isE (hg : Gl X "isinstance") (hm : X.mg "isinstance" = none) (hg2 : Gl X x) (hm2 : X.mg x = some (.ref D)) (ht : ∀ p ∈ tab, XKit X.K p.1 (.ref D) p.2) (hy : PE X (.Name y py) (tVar i)) (hd2 : (x == ("__debug__" : Str)) = false := by decide)
    (he : starEach [.Name y py, .Name x p2] X.env = (false, eval (.Name y py) X.env) :: starEach [.Name x p2] X.env := by rfl) (hs : starEach [.Name x p2] X.env = [(false, eval (.Name x p2) X.env)] := by rfl) (hpl : (backTo pos (starEach [.Name x p2] X.env)).any (·.1) = false := by rfl) : EX X (.Call (.Name "isinstance" p) [.Name y py, .Name x p2] [] pos) (xIsE tab i) :=
  ⟨toG_mono _, peI (pe_callB call_isE hg hm (by decide +kernel) (pa_cons hy (pa_cons (pe_glob (v := .ref D) hg2 hm2 rfl hd2) pa_nil hs) he) (by decide) (by decide) he hpl) fun σ H Q ⟨c, F, ρ, j, r, ρ', e, q⟩ => by
    obtain ⟨z, a, oe, vs, C, b, rfl, rfl, hb, h1, h2, h3, h4, h5, h6⟩ := isE_use (pins := []) (s := X.s_0) j e
    obtain ⟨C', n', q1, q2⟩ := (ht _ hb).ex
    obtain rfl : C' = C := by rw [h6] at n'; cases n'; rfl
    exact ⟨.ref a, h1, a, oe, vs, _, .ref D, b, rfl, h2, h3, h4, h5, q1, .inl ⟨D, rfl, q2⟩, q F H _ j (.bl _)⟩⟩
theorem xe_isET (hg : Gl X "isinstance") (hm : X.mg "isinstance" = none) (hg2 : Gl X x) (hm2 : X.mg x = none) (hv : bootBuiltins x = some (.type n)) (ht : ∀ p ∈ tab, XKit X.K p.1 (.type n) p.2) (hy : PE X (.Name y py) (tVar i)) (hn2 : x ≠ "__name__" := by decide) (hd2 : (x == ("__debug__" : Str)) = false := by decide)
    (he : starEach [.Name y py, .Name x p2] X.env = (false, eval (.Name y py) X.env) :: starEach [.Name x p2] X.env := by rfl) (hs : starEach [.Name x p2] X.env = [(false, eval (.Name x p2) X.env)] := by rfl) (hpl : (backTo pos (starEach [.Name x p2] X.env)).any (·.1) = false := by rfl) : EX X (.Call (.Name "isinstance" p) [.Name y py, .Name x p2] [] pos) (xIsE tab i) :=
  ⟨toG_mono _, peI (pe_callB call_isE hg hm (by decide +kernel) (pa_cons hy (pa_cons (pe_bltn (v := .ty n) hg2 hm2 hv rfl hn2 hd2) pa_nil hs) he) (by decide) (by decide) he hpl) fun σ H Q ⟨c, F, ρ, j, r, ρ', e, q⟩ => by
    obtain ⟨z, a, oe, vs, C, b, rfl, rfl, hb, h1, h2, h3, h4, h5, h6⟩ := isE_use (pins := []) (s := X.s_0) j e
    obtain ⟨C', n', q1, q2⟩ := (ht _ hb).ex
    obtain rfl : C' = C := by rw [h6] at n'; cases n'; rfl
    exact ⟨.ref a, h1, a, oe, vs, _, .ty n, b, rfl, h2, h3, h4, h5, q1, .inr (.inl ⟨n, rfl, q2⟩), q F H _ j (.bl _)⟩⟩
end
end DX
set_option Elab.async false
set_option linter.all false
set_option maxRecDepth 100000
namespace DX
open PySem PyProof.Rows L2 DL PySem.W
section
variable {X : Cx} {st : Stmt} {sts : List Stmt} {x : XS}
theorem sxn_of (h : SX X.nox st x) : SXx X st (xCl x) := fun pins s σ H D c F ρ I j q => wpAny_mono (h.ps pins s σ H D (I.wish _) ⟨c, F, ρ, j, out_toS (X := X) q⟩) (fun _ _ r => r.unwish) fun _ _ z => False.elim z
end
theorem fa_nil {α : Type} {P : α → Prop} : ∀ x ∈ ([] : List α), P x := fun x h => nomatch h
theorem fa_cons {α : Type} {P : α → Prop} {a : α} {l : List α} (h : P a) (t : ∀ x ∈ l, P x) : ∀ x ∈ a :: l, P x := fun x hx => by
  rcases List.mem_cons.mp hx with rfl | hx
  · exact h
  · exact t x hx
section
variable {P : Program} {w : World} {K : Frag} {mg : Str → Option Value} {base : Heap} {x : Str} {st : Stmt} {ps : List Str} {k : Nat}
theorem calOfX {f : Fn} (c : CalX P w K mg base k x ps (spX K (cX f))) : Cal P w K mg base k x ps (spD K (cD f)) := by
  obtain ⟨fa, fd, Fn, hm, kp, hb⟩ := c.ex
  have conv : ∀ vs H Q E, spD K (cD f) vs H Q E → spX K (cX f) vs H Q (fun _ _ _ => False) := fun vs H Q E ⟨F, ds, s, a, r, e, q⟩ => ⟨F, ds, s, a, by unfold cX; rw [e]; exact q⟩
  refine ⟨fa, fd, ⟨fun vs H Q E h => Fn.len vs H Q _ (conv vs H Q E h), fun A outer s H args us vs Q E hr hcc e0 hbd r h => codeAny_mono (Fn.run A outer s H args us vs Q _ hr hcc e0 hbd r (conv vs H Q E h)) fun r s' q => ?_⟩, hm, kp, hb⟩
  cases r with
  | error e => obtain ⟨a, cls, dx, T, H', _, _, _, _, _, _, _, _, _, _, z⟩ := q; exact z.elim
  | ok fl => cases fl <;> exact q
theorem xd_mk {D : Addr} {f : Option Addr} {h : Heap} (X : K.In h) (G : h.Ns mainGlobals mg) (a : nsIn K mainGlobals x = some (some (.ref D))) (e : excI K D f = true) : XD K mg x D := ⟨mg_of X G a, a, f, e⟩
theorem xis_mk {C : Addr} {Dv : Value} {b : Bool} {f : Option Addr} (a : nsIn K mainGlobals x = some (some (.ref C))) (e : excI K C f = true) (s : subIn K (.ref C) Dv = some b) : XIs K x Dv b := ⟨C, f, a, e, s⟩
theorem xini_mk {D f : Addr} {h : Heap} {atn qual sf ky : Str} {st : Stmt} {fd : FuncData} {p1 p2 p3 p4 : Pos} (X : K.In h) (G : h.Ns mainGlobals mg) (a : nsIn K mainGlobals x = some (some (.ref D))) (e : excI K D (some f) = true) (k : keepIn K (.ref D) = true) (fn : isFn K (.ref f) = true)
    (s : findIn K (.ref D) "__setattr__" = some (some (.builtin "object.__setattr__"))) (n : findIn K (.ref D) atn = some none) (Fn : Fun K "__init__" qual st f fd) (hb : Binds K fd [sf, ky] []) (hbody : defBody st = [.Assign [.Attribute (.Name sf p1) atn p2] (.Name ky p3) p4])
    (ne : sf ≠ ky) (l1 : (defScope st).names.lookup sf = some .local) (l2 : (defScope st).names.lookup ky = some .local) (sc1 : (defScope st).isCoroutine = false) (sc2 : (defScope st).isGenerator = false) (sc3 : (defScope st).kind = .function) (d1 : (sf == ("__debug__" : Str)) = false) (d2 : (ky == ("__debug__" : Str)) = false)
    (hsw : ∀ env, swapsWith (.Name ky p3) (some (.Attribute (.Name sf p1) atn p2)) p4.line env = pure false) : XIni K mg x atn :=
  ⟨D, f, mg_of X G a, a, e, k, fn, s, n, qual, st, fd, sf, ky, p1, p2, p3, p4, Fn, hb, hbody, ne, l1, l2, sc1, sc2, sc3, d1, d2, hsw⟩
theorem xq_mk {C : Addr} {atn : Str} (a : nsIn K mainGlobals x = some (some (.ref C))) (q : excQ K C = true) (d : hasDictIn K C = true) (n : findIn K (.ref C) atn = some none) : XQ K x atn := ⟨C, a, q, d, n⟩
theorem xkit_mk {C : Addr} {Dv : Value} {b : Bool} (a : nsIn K mainGlobals x = some (some (.ref C))) (q : excQ K C = true) (e : kitOne K (.ref C) Dv = some b) : XKit K x Dv b := ⟨C, a, q, e⟩
end
end DX
set_option Elab.async false
set_option linter.all false
set_option maxRecDepth 100000
namespace DL
open PySem PyProof.Rows L2
section
variable {prog : Program} {w : World} {A : Around} {E : Value → Shared → Prop} {s : Shared} {r : Addr} {a b c : Int} {t u v : Tok} {n : Nat}
end
section
variable {prog : Program} {w : World} {A : Around} {E : Value → Shared → Prop} {s : Shared} {r : Addr} {a b c : Int} {t u v : Tok} {n : Nat}
end
end DL
namespace DL
open PySem PyProof.Rows L2
section
variable {X : Cx} {a : Expr} {pos pos2 p p2 : Pos} {t : GA}
end
end DL
namespace DX
open PySem PyProof.Rows L2 DL
section
variable {X : Cx} {a : Expr} {pos pos2 p p2 : Pos} {t : XA}
end
end DX
set_option Elab.async false
set_option linter.all false
set_option maxRecDepth 100000
namespace DL
open PySem PyProof.Rows L2
section
variable {M : Model} {A : Around} {E : Value → Shared → Prop} {s : Shared}
end
end DL
namespace DX
open PySem PyProof.Rows L2 DL
section
variable {X : Cx} {st : Stmt} {a b e : Expr} {es : List Expr} {x : XS} {xe xa : XE} {pos p : Pos}
end
end DX
set_option Elab.async false
set_option linter.all false
set_option maxRecDepth 100000
namespace DX
open PySem PyProof.Rows L2 DL
section
variable {X : Cx} {tg iter : Expr} {body : List Stmt} {i : XA} {g : XG} {sl : List Nat} {x : XS} {pos : Pos}
end
end DX
set_option Elab.async false
set_option linter.all false
set_option maxRecDepth 100000
namespace DL
open PySem PyProof.Rows L2 PySem.W
section
variable {prog : Program} {w : World} {A : Around} {E : Value → Shared → Prop} {h : Heap} {g : Array GenState} {d : Drawn} {t : Nat} {os : OsState}
variable {C D D' e p : Addr} {oe op : Obj} {xs : Array Value} {n : Nat} {b : Bool}
end
end DL
namespace DX
open PySem PyProof.Rows L2 DL PySem.W
section
variable {X : Cx} {body suite : List Stmt} {b0 : Stmt} {xb xh : XS} {Dn : Str} {D : Addr} {cs : List Str} {np hp pos : Pos}
end
end DX
set_option Elab.async false
set_option linter.all false
set_option maxRecDepth 100000
namespace DX
open PySem PyProof.Rows L2 DL PySem.W
section
variable {X : Cx} {e : Expr} {x : XE}
end
end DX
set_option Elab.async false
set_option linter.all false
set_option maxRecDepth 100000
namespace DL
open PySem PyProof.Rows L2
section
variable {K : PySem.W.Frag} {F H : Hp} {c : En} {σ : L2.St} {ρ : Rho}
end
section
variable {X : Cx} {x : Str} {p pos : Pos} {a b tg : Expr} {Ga Gb : GE} {i : Nat}
end
end DL
namespace DX
open PySem PyProof.Rows L2 DL
section
variable {X : Cx} {x : Str} {p pos : Pos} {a b tg : Expr} {xa xb : XE} {i : Nat}
end
end DX
set_option Elab.async false
set_option linter.all false
set_option maxRecDepth 100000
namespace DL
open PySem PyProof.Rows L2
section
variable {K : PySem.W.Frag} {F : Hp}
end
section
variable {X : Cx} {x : Str} {p pos apos cpos : Pos} {a b e : Expr} {Ga Gb Gc : GE} {i : Nat}
end
end DL
namespace DX
open PySem PyProof.Rows L2 DL
section
variable {X : Cx} {x : Str} {p pos apos cpos : Pos} {a b e : Expr} {xa xb xc : XE} {i : Nat}
end
end DX
set_option Elab.async false
set_option linter.all false
set_option maxRecDepth 100000
namespace DL
open PySem PyProof.Rows L2
section
variable {K : PySem.W.Frag} {F : Hp}
end
section
variable {X : Cx} {a tg : Expr} {Ga : GE} {apos cpos tpos : Pos} {elts : List Expr} {kk : Nat}
end
end DL
namespace DX
open PySem PyProof.Rows L2 DL
section
variable {X : Cx} {a tg : Expr} {xa : XE} {apos cpos tpos : Pos} {elts : List Expr} {kk : Nat}
end
end DX
set_option Elab.async false
set_option linter.all false
set_option maxRecDepth 100000
namespace DL
open PySem PyProof.Rows L2
section
variable {X : Cx} {x : Str} {p pos : Pos} {b : Expr} {Gb : GE} {i : Nat}
end
end DL
namespace DX
open PySem PyProof.Rows L2 DL
section
variable {X : Cx} {x : Str} {p pos : Pos} {b : Expr} {xb : XE} {i : Nat}
end
end DX
set_option Elab.async false
set_option linter.all false
set_option maxRecDepth 100000
namespace DL
open PySem PyProof.Rows L2
section
variable {X : Cx} {a b : Expr} {Gk Gv : GE} {pos : Pos}
end
end DL
namespace DX
open PySem PyProof.Rows L2 DL
section
variable {X : Cx} {a b : Expr} {xa xb : XE} {pos : Pos}
end
end DX
set_option Elab.async false
set_option linter.all false
set_option maxRecDepth 100000
namespace DL
open PySem PyProof.Rows
theorem entry_unchain : entryFor table "proto.unchain" = some Builtin.«proto.unchain» := entryFor_of_fast (by kernel_rfl)
def HushAt (A : Around) (h : Heap) : Prop := A.handled = none ∨ ∃ e oe vs, A.handled = some (.ref e) ∧ h.get? e = some oe ∧ oe.data = .fields vs ∧ vs[2]? = some .none
theorem HushAt.keeps {A : Around} {h h' : Heap} (q : HushAt A h) (k : ∀ b o, h.get? b = some o → (∃ vs, o.data = .fields vs ∧ vs[2]? = some .none) → A.handled = some (.ref b) → h'.get? b = some o) : HushAt A h' := by
  rcases q with q | ⟨e, oe, vs, q, ge, de, ve⟩
  · exact .inl q
  · exact .inr ⟨e, oe, vs, q, k e oe ge ⟨vs, de, ve⟩ q, de, ve⟩
section
variable {prog : Program} {w : World} {A : Around} {E : Value → Shared → Prop} {s : Shared}
theorem raiseNewH {α : Type} {a : Addr} {oa : Obj} {us : Array Value} {Q : α → Shared → Prop} (hq : HushAt A s.heap) (ne : A.handled ≠ some (.ref a)) (ha : s.heap.get? a = some oa) (hu : oa.data = .fields us) (h2 : 2 < us.size)
    (h : ∀ h', (∀ b, b ≠ a → h'.get? b = s.heap.get? b) → (∃ o', h'.get? a = some o' ∧ o'.cls = oa.cls) → E (.ref a) { s with heap := h' }) : wpAny (model prog w) A (raiseNew (.ref a) : Sem α) Q E s := by
  simp only [raiseNew]
  refine wpAny_bind (wpAny_handled ?_)
  rcases hq with q | ⟨e, oe, vs, q, ge, de, ve⟩
  · rw [q]
    exact wpAny_bind (wpAny_pure (wpAny_throw (h s.heap (fun _ _ => rfl) ⟨_, ha, rfl⟩)))
  · rw [q]
    have nea : e ≠ a := fun z => ne (by rw [q, z])
    have nb : (Value.ref e != Value.ref a) = true := by
      rw [bne_iff_ne]
      exact fun z => nea (by cases z; rfl)
    show wpAny _ _ (if (Value.ref e != Value.ref a) = true then _ else _) _ _ s
    rw [if_pos nb]
    refine wpAny_bind (wpAny_holding (wpAny_runValue (codeAny_builtin entry_unchain ?_)))
    show wpAny _ _ (Builtin.«proto.unchain» ⟨[.ref a, .ref e, .ref e, .bool false], []⟩) _ _ s
    unfold Builtin.«proto.unchain»
    show wpAny _ _ (field (.ref e) 2 >>= _) _ _ s
    refine wpAny_bind (wpAny_field ge de ve ?_)
    show wpAny _ _ (if (Value.none == Value.none) = true then _ else _) _ _ s
    rw [if_pos (show (Value.none == Value.none) = true from rfl)]
    refine wpAny_pure ?_
    refine wpAny_bind ?_
    unfold updateField
    refine wpAny_bind (wpAny_load ha ?_)
    rw [hu]
    show wpAny _ _ (if 2 < us.size then _ else _) _ _ s
    rw [if_pos h2]
    refine wpAny_update ha ?_
    exact wpAny_throw (h _ (fun b hb => Heap.get?_update_other _ _ (Ne.symm hb)) ⟨_, Heap.get?_update_self _ ha (Obj.isFreed_of_fields (Obj.data_mapFields hu _)), Obj.cls_mapFields ..⟩)
theorem stopH {α : Type} {k : Value → Sem α} {Q : α → Shared → Prop} (hq : HushAt A s.heap) (hlt : ∀ e, A.handled = some (.ref e) → e < s.heap.objs.size)
    (hk : ∀ (a : Addr) (s' : Shared), wpAny (model prog w) A (raiseNew (.ref a) : Sem α) Q E s' → wpAny (model prog w) A (k (.ref a)) Q E s')
    (h : ∀ a h', (∀ b o, s.heap.get? b = some o → h'.get? b = some o) → (∃ o', h'.get? a = some o' ∧ o'.cls = .type "StopIteration") → E (.ref a) { s with heap := h' }) :
    wpAny (model prog w) A (newExc (.type "StopIteration") [] >>= k) Q E s := by
  refine wpAny_bind ?_
  simp only [newExc, newTuple]
  refine wpAny_bind (wpAny_newObj_type ?_ (by size_fits))
  refine wpAny_bind (m := firstArgMember _ _) (wpAny_of_eq (a := Value.none) (by first | rfl | (simp only [firstArgMember]; rfl)) ?_)
  refine wpAny_newObj_type ?_ (by size_fits)
  refine hk _ _ ?_
  have old : ∀ b o, s.heap.get? b = some o → b < s.heap.objs.size := fun b o e => Heap.lt_size e
  refine raiseNewH (hq.keeps fun b o e _ _ => Heap.get?_push_of_some _ (Heap.get?_push_of_some _ e)) (fun z => ?_) (Heap.get?_push_size _ rfl) rfl (by simp; omega) fun h' hb ⟨o', e1, e2⟩ => h _ h' (fun b o e => ?_) ⟨o', e1, e2⟩
  · have q := hlt _ z
    rw [Heap.size_push] at q
    exact absurd (Nat.lt_trans (Nat.lt_succ_self _) q) (Nat.lt_irrefl _)
  · rw [hb b (fun z => ?_)]
    · exact Heap.get?_push_of_some _ (Heap.get?_push_of_some _ e)
    · have q := old b o e
      rw [z, Heap.size_push] at q
      exact absurd (Nat.lt_trans (Nat.lt_succ_self _) q) (Nat.lt_irrefl _)
theorem listEndH {it l : Addr} {i : Nat} {items} {Q : Option Value → Shared → Prop} (hq : HushAt A s.heap) (hlt : ∀ e, A.handled = some (.ref e) → e < s.heap.objs.size ∧ e ≠ it)
    (hit : s.heap.IsListIter it l i) (hl : s.heap.IsList l items) (hx : items[i]? = none)
    (hQ : ∀ h', Heap.ExtBut it s.heap h' → Q none { s with heap := h' }) : wpAny (model prog w) A (pyNext (.ref it)) Q E s := by
  obtain ⟨oi, gi, ci, di⟩ := id hit
  obtain ⟨ol, gl, _, nl, dl⟩ := hl
  unfold pyNext
  have key : wpAny (model prog w) A (callSpecial? (.ref it) (Str.ofString "__next__")) (fun _ _ => False) (fun e s' => ∃ a h', e = .ref a ∧ s' = { s with heap := h' } ∧ Heap.ExtBut it s.heap h' ∧ ∃ o', h'.get? a = some o' ∧ o'.cls = .type "StopIteration") s := by
    refine wpAny_callSpecial?_slot hit.typeIs slot_listiter_next (wpAny_call_entry slot_listiter_next hit.typeIs entry_listiter_next ?_ (args_listiter_next _))
    show wpAny _ _ (field (.ref it) 0 >>= _) _ _ s
    refine wpAny_bind (wpAny_field gi di (x := .ref l) rfl ?_)
    show wpAny _ _ (if (Value.ref l == Value.none) = true then _ else _) _ _ s
    rw [if_neg (show ¬ ((Value.ref l == Value.none) = true) from Bool.false_ne_true)]
    refine wpAny_bind (wpAny_field gi di (x := .int i 0) rfl ?_)
    refine wpAny_bind (wpAny_seqItems gl dl ?_)
    simp only [Int.toNat_natCast, hx]
    refine wpAny_bind (wpAny_rule (wpAny_bind (wpAny_setField gi di (by simp) ?_)))
    refine stopH (HushAt.keeps hq fun b o e _ z => ?_) (fun e z => ?_) (fun a s' z => ?_) fun a h' k ⟨o', e1, e2⟩ => ⟨a, h', rfl, rfl, fun b o nb e => ?_, o', e1, e2⟩
    · exact (Heap.get?_update_other _ _ (Ne.symm (hlt b z).2)).trans e
    · have := (hlt e z).1
      simpa using this
    · exact z
    · exact k b o ((Heap.get?_update_other _ _ (Ne.symm nb)).trans e)
  refine wpAny_bind (wpAny_attempt (wpAny_mono key (fun _ _ h => h.elim) fun e s' ⟨a, h', e1, e2, k, o', g, c⟩ => ?_))
  subst e1 e2
  refine wpAny_bind (wpAny_isInstance (T := "StopIteration") (b := true) ⟨_, g, c⟩ isSubtype_stop ?_)
  exact wpAny_pure (hQ _ k)
theorem tupleEndH {it l : Addr} {i : Nat} {items} {Q : Option Value → Shared → Prop} (hq : HushAt A s.heap) (hlt : ∀ e, A.handled = some (.ref e) → e < s.heap.objs.size ∧ e ≠ it)
    (hit : s.heap.IsTupleIter it l i) (hl : s.heap.IsTuple l items) (hx : items[i]? = none)
    (hQ : ∀ h', Heap.ExtBut it s.heap h' → Q none { s with heap := h' }) : wpAny (model prog w) A (pyNext (.ref it)) Q E s := by
  obtain ⟨oi, gi, ci, di⟩ := id hit
  obtain ⟨ol, gl, _, nl, dl⟩ := hl
  unfold pyNext
  have key : wpAny (model prog w) A (callSpecial? (.ref it) (Str.ofString "__next__")) (fun _ _ => False) (fun e s' => ∃ a h', e = .ref a ∧ s' = { s with heap := h' } ∧ Heap.ExtBut it s.heap h' ∧ ∃ o', h'.get? a = some o' ∧ o'.cls = .type "StopIteration") s := by
    refine wpAny_callSpecial?_slot hit.typeIs F.slot_tuple_iterator_next (wpAny_call_entry F.slot_tuple_iterator_next hit.typeIs F.entry_tuple_iterator_next ?_ (F.args_tuple_iterator_next_1 _))
    show wpAny _ _ (field (.ref it) 0 >>= _) _ _ s
    refine wpAny_bind (wpAny_field gi di (x := .ref l) rfl ?_)
    show wpAny _ _ (if (Value.ref l == Value.none) = true then _ else _) _ _ s
    rw [if_neg (show ¬ ((Value.ref l == Value.none) = true) from Bool.false_ne_true)]
    refine wpAny_bind (wpAny_field gi di (x := .int i 0) rfl ?_)
    refine wpAny_bind (wpAny_seqItems gl dl ?_)
    simp only [Int.toNat_natCast, hx]
    refine wpAny_bind (wpAny_rule (wpAny_bind (wpAny_setField gi di (by simp) ?_)))
    refine stopH (HushAt.keeps hq fun b o e _ z => ?_) (fun e z => ?_) (fun a s' z => ?_) fun a h' k ⟨o', e1, e2⟩ => ⟨a, h', rfl, rfl, fun b o nb e => ?_, o', e1, e2⟩
    · exact (Heap.get?_update_other _ _ (Ne.symm (hlt b z).2)).trans e
    · have := (hlt e z).1
      simpa using this
    · exact z
    · exact k b o ((Heap.get?_update_other _ _ (Ne.symm nb)).trans e)
  refine wpAny_bind (wpAny_attempt (wpAny_mono key (fun _ _ h => h.elim) fun e s' ⟨a, h', e1, e2, k, o', g, c⟩ => ?_))
  subst e1 e2
  refine wpAny_bind (wpAny_isInstance (T := "StopIteration") (b := true) ⟨_, g, c⟩ isSubtype_stop ?_)
  exact wpAny_pure (hQ _ k)
end
end DL
set_option Elab.async false
set_option linter.all false
set_option maxRecDepth 100000
namespace DL
open PySem PyProof.Rows L2
section
variable {X : Cx} {pins : List (Addr × Obj)} {σ : L2.St} {H : Hp} {s : Shared}
abbrev HuC : Cx → Prop := fun X => X.hush = true
theorem Inv.hushAt (I : Inv X pins σ H s) (h : X.hush = true) : HushAt X.A s.heap ∧ ∀ e, X.A.handled = some (.ref e) → e < s.heap.objs.size ∧ H e ≠ none := by
  rcases I.hush h with q | ⟨e, oe, vs, q, he, hd, h2⟩
  · exact ⟨.inl q, fun e z => by rw [q] at z; cases z⟩
  · have ge : s.heap.get? e = some oe := (I.hok e _ he).1
    exact ⟨.inr ⟨e, oe, vs, q, ge, hd, h2⟩, fun b z => by rw [q] at z; cases z; exact ⟨Heap.lt_size ge, by rw [he]; exact fun z => nomatch z⟩⟩
theorem turn_listH {P : Program} {w : World} {K : PySem.W.Frag} {tg : Expr} (a it : Addr) : TurnC HuC P w K tg (Itl K a) [it] it (fun i h => h.IsListIter it a i) := by
  have T := turn_list (P := P) (w := w) (K := K) (tg := tg) a it
  refine ⟨T.mem, T.obj, T.keep, ?_, ?_, T.self⟩
  · intro X hP hw hK _ i pins s σ H E I hf st hg
    subst hP hw hK
    obtain ⟨xs, x, hq, hx⟩ := hg
    obtain ⟨its, rv, p, hz⟩ := I.list hq
    obtain ⟨u, hu, ru⟩ := rv.get hx
    obtain ⟨f0, f1, f2, f3, f4, f5⟩ := hf it (by simp)
    refine wpAny_pyNext_list_item st p.isList (x := u) (by simpa using hu) fun h' st' sb => ?_
    have I1 : Inv X pins σ H { s with heap := h' } := I.turned (t' := s.toks) (fun b o hb e => (sb.2 b hb).trans e) f0 f1 f3 f4 f5
    obtain ⟨o, e, c, d⟩ := id st'
    exact ⟨u, rfl, go_of (s := { s with heap := h' }) e c d (by decide) ⟨x, H, I1, ru, ⟨rfl, fun ys hy => by rw [I.list_inj hy hq]; exact hx⟩, st', fun b hb => (hf b hb).1⟩⟩
  · intro X hP hw hK hc i pins s σ H E I hf st hg
    subst hP hw hK
    obtain ⟨xs, hq, hx⟩ := hg
    obtain ⟨its, rv, p, hz⟩ := I.list hq
    obtain ⟨f0, f1, f2, f3, f4, f5⟩ := hf it (by simp)
    have hl := rv.length
    have hh := Inv.hushAt I hc
    exact listEndH hh.1 (fun e z => ⟨(hh.2 e z).1, fun q => (hh.2 e z).2 (by rw [q]; exact f0)⟩) st p.isList (by simp; omega) fun h' eb => ⟨rfl, I.turned (t' := s.toks) (fun b o hb e => eb b o hb e) f0 f1 f3 f4 f5⟩
theorem pi_lstH {tg l : Expr} {tl : TE} (hl : PE X l tl) : PIC HuC X tg l (fun σ H R => tl σ H fun x H1 => ∃ a, x = .ref a ∧ (∃ xs, SqL X.K H1 a xs) ∧ R (Itl X.K a) H1) := by
  intro pins s σ H R I h
  refine thn (hl pins s σ H _ I h) fun v s1 ⟨x, H1, I1, r1, a, e, ⟨xs, hq⟩, q⟩ => ?_
  subst e
  cases r1
  obtain ⟨its, rv, p, hz⟩ := I1.list hq
  refine wpAny_pyIter_list p.isList ?_
  refine ⟨s1.heap.objs.size, [s1.heap.objs.size], _, _, H1, rfl, I1.kept (t' := s1.toks) fun b o e => Heap.get?_push_of_some _ e, turn_listH a _, ⟨_, Heap.get?_push_size _ rfl, rfl, rfl⟩, fun b hb => ?_, q⟩
  have e : b = s1.heap.objs.size := by simpa using hb
  subst e
  exact I1.fpOk (Nat.le_refl _) (I1.hok.fresh (Nat.le_refl _))
theorem pg_tupH {es : List Expr} {k : Nat} {pos : Pos} {t : TGs} {n : Nat} (hc : X.hush = true) (h : PGs X es t)
    (hn : (assignEach es X.env).length = n := by rfl) (hst : (assignEach es X.env).findIdx? (·.1) = none := by rfl) : PG X (.Tuple es k pos) (L2.gTup X.K n t) := by
  intro pins s σ H v u Q I r hw
  obtain ⟨a, xs, e1, hq, hl, hw⟩ := hw
  subst e1
  cases r
  obtain ⟨its, rv, ht, hz⟩ := I.tuple hq
  have hh := Inv.hushAt I hc
  rw [PyProof.Rows.assign_Tuple]
  refine wpAny_bind (wpAny_standAt ?_)
  unfold unpack
  have e2 : (assignEach es X.env).length = its.toArray.size := by simp [hn, ← hl, rv.length]
  rw [e2, hst]
  refine wpAny_bind (wpAny_holding ?_)
  have ne : a ≠ s.heap.objs.size := by obtain ⟨o, ho, _⟩ := ht; exact Nat.ne_of_lt (Heap.lt_size ho)
  unfold unpackItems
  refine wpAny_bind ?_
  unfold notIterableAtAll
  refine wpAny_bind (wpAny_specialOf ht.typeIs slot_tuple_iter.lookup (wpAny_pure ?_))
  simp only [Bool.false_eq_true, if_false]
  refine wpAny_bind (wpAny_holding (iter_tuple ht ?_))
  refine wpAny_bind (wpAny_holding (draw_tuple ne its.toArray.size 0 _ _ ⟨_, Heap.get?_push_size _ rfl, rfl, rfl⟩ (ht.push _) (by omega) fun h₁ hit₁ hs₁ => ?_))
  rw [List.drop_zero, List.take_of_length_le (by simp), if_neg (by simp)]
  have ht₁ : IsTup h₁ a its.toArray := (ht.push _).extBut hs₁.extBut ne
  have kp : ∀ b o, s.heap.get? b = some o → h₁.get? b = some o := fun b o e => (hs₁.2 b (Nat.ne_of_lt (Heap.lt_size e))).trans (Heap.get?_push_of_some _ e)
  have I1 : Inv X pins σ H { s with heap := h₁ } := I.kept (t' := s.toks) kp
  refine wpAny_bind (wpAny_holding (tupleEndH (s := { s with heap := h₁ }) ((hh.1).keeps fun b o e _ _ => kp b o e) (fun e z => ⟨?_, fun q => ?_⟩) hit₁ (show Heap.IsTuple h₁ a its.toArray from ht₁) (by simp) fun h₂ he₂ => ?_))
  · obtain ⟨z1, z2⟩ := (Inv.hushAt I1 hc).2 e z
    exact z1
  · have := (hh.2 e z).1
    rw [q] at this
    exact absurd this (Nat.lt_irrefl _)
  · simp only [Option.isSome_none, Bool.false_eq_true, if_false]
    refine wpAny_pure ?_
    have I2 : Inv X pins σ H { s with heap := h₂ } := I.kept (t' := s.toks) fun b o e => he₂ b o (Nat.ne_of_lt (Heap.lt_size e)) (kp b o e)
    exact h pins _ σ H xs _ Q I2 (by simpa using rv) hw
theorem ps_setLcC {C0 : Cx → Prop} {i : Nat} {y : Str} {py : Pos} {elt tg iter : Expr} {ifs : List Expr} {scope : Scope} {own : List (Str × Nat)} {pos spos : Pos} {wi : TI} {g : TG} {tt : TT} {te : TE} (hc : ∀ s H ce fp, C0 (X.blk s H scope ce fp)) (hN : X.N.Nodup) (hy : X.N[i]? = some y) (hyl : X.env.scope.names.lookup y = some .local)
    (hsw : swapsWith (.ListComp elt [⟨tg, iter, ifs, 0⟩] scope pos) (some (.Name y py)) spos.line X.env = pure true) (hi : PIC C0 X tg iter wi) (ok : BlkOk X.N X.env.scope scope own)
    (hg : ∀ (s : Shared) (H : Hp) (C : Addr) (cl : List (Str × Addr)) (fp : List Addr), PG (X.blk s H scope (compEnvC scope cl C X.env) fp) tg g) (ht : ∀ (s : Shared) (H : Hp) (C : Addr) (cl : List (Str × Addr)) (fp : List Addr), PTs (X.blk s H scope (compEnvC scope cl C X.env) fp) ifs tt)
    (he : ∀ (s : Shared) (H : Hp) (C : Addr) (cl : List (Str × Addr)) (fp : List Addr), PE (X.blk s H scope (compEnvC scope cl C X.env) fp) elt te) (hs : ∀ x, foldedSetIterable iter X.env x = pure x := by intro _; rfl) :
    PS X (.Assign [.Name y py] (.ListComp elt [⟨tg, iter, ifs, 0⟩] scope pos) spos) (tAsg (tLc wi g tt te (own.map (·.2))) (gName i)) := by
  intro pins s σ H D I h
  rw [exec_Assign_Name_used _ _ _ _ hsw]
  refine wpAny_bind (wpAny_standAt (wpAny_bind ?_))
  show wpAny _ X.A (do let _ ← comprehension (.ListComp elt [⟨tg, iter, ifs, 0⟩] scope pos) scope X.env (firstIterPos [⟨tg, iter, ifs, 0⟩] pos) (newList []) false (eval iter X.env) (some (assign (.Name y py) X.env))) _ _ s
  have h : tLc wi g tt te (own.map (·.2)) σ H (fun x H1 => gName i x σ H1 D.nx) := h
  refine wpAny_bind (thn (lc_coreC (Qf := fun _ s' => SP X pins D .next s') hc hN I hi ok hg ht he hs h fun L C s' m H' I' q hn f => ?_) fun _ s' hq => wpAny_pure (wpAny_pure hq))
  show wpAny _ _ (assign (.Name y py) X.env (.ref L)) _ _ _
  refine wpAny_assign_Name (store_ok2 (v := V.ref L) I' hN hy (.inl hyl) rfl (fun s2 I2 ⟨a, sb, ha⟩ => ?_) (.inr hyl))
  obtain ⟨f0, f1, f2, f3, f4, f5⟩ := f
  have haC : C ≠ a := by
    rcases ha with z | z
    · rw [z]; exact f1
    · exact fun e => f4 y a z e.symm
  refine ⟨m, hn.sameBut sb haC, fun h3 sb3 => ?_⟩
  exact ⟨_, H', I2.turned (t' := s2.toks) (fun b o hb e => (sb3.2 b hb).trans e) f0 f1 f3 f4 f5, q⟩
end
end DL
set_option Elab.async false
set_option linter.all false
set_option maxRecDepth 100000
namespace DL
open PySem PyProof.Rows L2
structure DIH (X : Cx) (tg iter : Expr) (G : GI) : Prop where
  mono : ∀ ρ Q Q', (∀ ds ρ', Q ds ρ' → Q' ds ρ') → G ρ Q → G ρ Q'
  ex : ∃ wi : TI, PIC HuC X tg iter wi ∧ ∀ (c : En) (F H : Hp) (σ : L2.St) (ρ : Rho) (Q : List PyData → Rho → Prop) (R : It → Hp → Prop), J X.K c F H σ ρ → G ρ Q →
    (∀ ds ρ' F' H' I, Q ds ρ' → J X.K c F' H' σ ρ' → ItOk X.K F' c.Z I ds → R I H') → wi σ H R
section
variable {X : Cx} {tg a b e : Expr} {es : List Expr} {Ga Gb : GE} {pos : Pos}
def giLst (a : GE) : GI := fun ρ Q => a ρ fun r ρ' => withD r fun d => match d with
  | .list ds => Q ds ρ'
  | _ => False
theorem di_lstH (h : DE X a Ga) : DIH X tg a (giLst Ga) := ⟨fun _ _ _ hq q => h.mono _ _ _ (fun _ _ z => withD_mono (fun d z => by cases d <;> first | exact hq _ _ z | exact z) z) q, _, pi_lstH h.pe, fun c F H σ ρ Q R j q k => by
  refine ⟨c, F, ρ, j, h.mono _ _ _ (fun r ρ' z F' H' v j' vr => ?_) q⟩
  obtain ⟨d, hd, z⟩ := withD_use z
  obtain ⟨F2, j2, s2, dp⟩ := vr.frz j' hd
  split at z
  · obtain ⟨p, xs, rfl, h1, a1⟩ := dp_lst dp
    exact ⟨p, rfl, ⟨xs, j2.fh.seq h1⟩, k _ _ F2 H' _ z j2 (it_lst h1 a1)⟩
  · exact z.elim⟩
variable {elt iter : Expr} {ifs : List Expr} {scope : Scope} {own : List (Str × Nat)} {i : GI} {g : GG} {T : GT} {Ge : GE} {sl : List Nat} {tg' : TG}
theorem ds_setLcH {k : Nat} {y : Str} {py spos : Pos} (hc : X.hush = true) (hN : X.N.Nodup) (hy : X.N[k]? = some y) (hyl : X.env.scope.names.lookup y = some .local)
    (hsw : swapsWith (.ListComp elt [⟨tg, iter, ifs, 0⟩] scope pos) (some (.Name y py)) spos.line X.env = pure true) (hi : DIH X tg iter i) (ok : BlkOk X.N X.env.scope scope own) (hg : DGB X scope tg sl g) (hsl : ∀ v ∈ sl, v ∈ own.map (·.2))
    (ht : ∀ (s : Shared) (H : Hp) (C : Addr) (cl : List (Str × Addr)) (fp : List Addr), DTs (X.blk s H scope (compEnvC scope cl C X.env) fp) ifs T)
    (he : ∀ (s : Shared) (H : Hp) (C : Addr) (cl : List (Str × Addr)) (fp : List Addr), DE (X.blk s H scope (compEnvC scope cl C X.env) fp) elt Ge) (hs : ∀ x, foldedSetIterable iter X.env x = pure x := by intro _; rfl) :
    DS X (.Assign [.Name y py] (.ListComp elt [⟨tg, iter, ifs, 0⟩] scope pos) spos) (gAsg (gLc i (own.map (·.2)) g T Ge) (gN k)) := by
  obtain ⟨wi, pi, hwi⟩ := hi.ex
  obtain ⟨tg', pg, hpg⟩ := hg.ex
  have mT : MonoT T := (ht {} (fun _ => none) 0 [] []).mono
  have mE : MonoE Ge := (he {} (fun _ => none) 0 [] []).mono
  have mL : MonoE (gLc i (own.map (·.2)) g T Ge) := fun _ _ _ hq q => hi.mono _ _ _ (fun ds ρ z => ⟨z.1, lcW_mono hg.mono mT mE (fun a ρ2 z => hq _ _ z) ds [] _ z.2⟩) q
  refine ⟨fun _ _ _ le q => mL _ _ _ (fun _ _ z => ⟨z.1, le.nx _ z.2⟩) q, ?_⟩
  refine psI (ps_setLcC (C0 := HuC) (tt := tDT X.K T) (te := tDE X.K Ge) (fun _ _ _ _ => hc) hN hy hyl hsw pi ok pg (fun s H C cl fp => (ht s H C cl fp).pt) (fun s H C cl fp => (he s H C cl fp).pe) hs) fun D σ H ⟨c, F, ρ, j, q⟩ => ?_
  refine tLc_of mT mE hg.mono hsl hwi hpg σ H _ ⟨c, F, ρ, j, mL _ _ _ (fun r ρ' z F' H' v j' vr => ?_) q⟩
  obtain ⟨hl, hi⟩ := freeSlot_use z.1
  exact z.2 F' H' _ (j'.assign hl hi vr)
end
end DL
namespace DX
open PySem PyProof.Rows L2 DL
abbrev IXH (X : Cx) (tg iter : Expr) (x : XA) : Prop := DIH X tg iter (toG x)
def lsX {β : Type} (d : PyData) (k : List PyData → Re (List PyData) β) : Re (List PyData) β := match d with
  | .list ds => k ds
  | _ => .bad
@[simp ↓] theorem lsX_list {β : Type} (ds : List PyData) (k : List PyData → Re (List PyData) β) : lsX (.list ds) k = k ds := Eq.trans rfl rfl
def xiLst (a : XE) : XA := fun ρ => (a ρ).bind fun r ρ' => withX r fun d => lsX d fun ds => .ok ds ρ'
@[simp ↓] theorem xiLst_at (a : XE) (ρ : Rho) : xiLst a ρ = (a ρ).bind fun r ρ' => withX r fun d => lsX d fun ds => .ok ds ρ' := Eq.trans rfl rfl
def tpX (n : Nat) (d : PyData) (k : List PyData → Option Rho) : Option Rho := match d with
  | .tuple ds => gd (ds.length = n) (k ds)
  | _ => none
@[simp ↓] theorem tpX_tuple (n : Nat) (ds : List PyData) (k : List PyData → Option Rho) : tpX n (.tuple ds) k = gd (ds.length = n) (k ds) := Eq.trans rfl rfl
def xT2t (n : Nat) (t : XGs) : XG := fun r ρ => match r.dat with
  | some d => tpX n d fun ds => t ds ρ
  | none => none
@[simp ↓] theorem xT2t_sh (n : Nat) (t : XGs) (d : PyData) (ρ : Rho) : xT2t n t (.sh d) ρ = tpX n d fun ds => t ds ρ := Eq.trans rfl rfl
section
variable {X : Cx} {a b c e tg iter : Expr} {es rest : List Expr} {pos p py : Pos} {xa xb : XE}
theorem ix_lstH (h : EX X a xa) : IXH X tg a (xiLst xa) := ⟨toG_mono _, by
  obtain ⟨wi, p, k⟩ := (di_lstH (tg := tg) h).ex
  refine ⟨wi, p, fun c F H σ ρ Q R j ⟨ds, ρ', e, q⟩ kk => k c F H σ ρ Q R j ?_ kk⟩
  obtain ⟨r1, ρ1, e1, f1⟩ := Re.bind_inv e
  obtain ⟨d, hd, f2⟩ := withX_inv f1
  refine ⟨r1, ρ1, e1, withD_mk hd ?_⟩
  cases d with
  | list ds => cases f2; exact q
  | _ => cases f2⟩
variable {elt : Expr} {ifs : List Expr} {scope : Scope} {own : List (Str × Nat)} {i : XA} {g : XG} {T : XT} {xe : XE} {sl : List Nat}
theorem sx_setLcH {k : Nat} {y : Str} {py spos : Pos} (hc : X.hush = true) (hN : X.N.Nodup) (hy : X.N[k]? = some y) (hyl : X.env.scope.names.lookup y = some .local)
    (hsw : swapsWith (.ListComp elt [⟨tg, iter, ifs, 0⟩] scope pos) (some (.Name y py)) spos.line X.env = pure true) (hi : IXH X tg iter i) (ok : BlkOk X.N X.env.scope scope own) (hg : GBX X scope tg sl g) (hsl : ∀ v ∈ sl, v ∈ own.map (·.2))
    (ht : ∀ (s : Shared) (H : Hp) (C : Addr) (cl : List (Str × Addr)) (fp : List Addr), TXs (X.blk s H scope (compEnvC scope cl C X.env) fp) ifs T)
    (he : ∀ (s : Shared) (H : Hp) (C : Addr) (cl : List (Str × Addr)) (fp : List Addr), EX (X.blk s H scope (compEnvC scope cl C X.env) fp) elt xe) (hs : ∀ x, foldedSetIterable iter X.env x = pure x := by intro _; rfl) :
    SX X (.Assign [.Name y py] (.ListComp elt [⟨tg, iter, ifs, 0⟩] scope pos) spos) (xAsg (xLc i (own.map (·.2)) g T xe) (xN k)) := dsI (ds_setLcH hc hN hy hyl hsw hi ok hg hsl ht he hs) fun ρ E h => by
  obtain ⟨r, ρ', e, q⟩ := im_asgN ρ E h
  exact im_lc ρ _ r ρ' e q
theorem gbx_tupH {scope : Scope} {t : XGs} {k n : Nat} {sl : List Nat} (hc : ∀ (s : Shared) (H : Hp) (C : Addr) (cl : List (Str × Addr)) (fp : List Addr), (X.blk s H scope (compEnvC scope cl C X.env) fp).hush = true) (h : DGBs X scope es sl (toGG t))
    (hn : ∀ (s : Shared) (H : Hp) (C : Addr) (cl : List (Str × Addr)) (fp : List Addr), (assignEach es (X.blk s H scope (compEnvC scope cl C X.env) fp).env).length = n := by intro _ _ _ _ _; rfl) (hst : ∀ (s : Shared) (H : Hp) (C : Addr) (cl : List (Str × Addr)) (fp : List Addr), (assignEach es (X.blk s H scope (compEnvC scope cl C X.env) fp).env).findIdx? (·.1) = none := by intro _ _ _ _ _; rfl) : GBX X scope (.Tuple es k pos) sl (xT2t n t) :=
  ⟨toGG_mono _, by
    obtain ⟨tt, p2, h2⟩ := h.ex
    refine ⟨L2.gTup X.K n tt, fun s H C cl fp => pg_tupH (hc s H C cl fp) (p2 s H C cl fp) (hn s H C cl fp) (hst s H C cl fp), fun c F H σ ρ v r Q Qv j vr ⟨ρ', e, q⟩ kk => ?_⟩
    unfold xT2t at e
    split at e
    · next d hd =>
      obtain ⟨F2, j2, s2, dp⟩ := vr.frz j hd
      unfold tpX at e
      split at e
      · obtain ⟨cc, e⟩ := gd_inv e
        obtain ⟨p, xs, rfl, h1, a1⟩ := dp_tup dp
        exact ⟨p, xs, rfl, sqT_same j2.fh h1, by rw [DpAll.length a1]; exact cc, h2 c F2 H σ ρ _ _ _ _ j2 a1 ⟨ρ', e, q⟩ kk⟩
      · cases e
    · cases e⟩
end
theorem _root_.L2.Room.mkd {k : Nat} {A : Around} {h : Option Value} (r : Room k A) : Room k (A.mark h) := ⟨r.dp, r.un, r.gd⟩
end DX
set_option Elab.async false
set_option linter.all false
set_option maxRecDepth 100000
namespace PF
open PySem L2 DL DX
def U_law_take : XS :=
  (xSeq (xIf (xB (xBin vGt (xIxU 0 (xC (.int 0))) (xC (.int 0)))) (xSeq (xAsg (xBin vMod (xIxU 0 (xC (.int 0))) (xVar 1)) (xN 2))
    (xSeq (xExp (xSetIx 0 (xBin vDiv (xIxU 0 (xC (.int 0))) (xVar 1)) (xC (.int 0))))
    (xRet (xVar 2)))) xNext)
    (xSeq (xExp (xSetIx 0 (xBin vMod (xBin vAdd (xBin vMulB (xIxU 0 (xC (.int 1))) (xC (.int 69621))) (xC (.int 12345))) (xC (.int 2147483647))) (xC (.int 1))))
    (xRet (xBin vMod (xBin vDiv (xBin vMod (xBin vMulB (xIxU 0 (xC (.int 1))) (xIxU 0 (xC (.int 1)))) (xC (.int 2147483629))) (xC (.int 64))) (xVar 1)))))
def F_law_take : Fp := runP 2 3 U_law_take
theorem F_law_take_eq (a0 : OO) (a1 : PyData) : F_law_take a0 [a1] = (U_law_take [some (.io a0), some (.sh a1), none]).finP := runP_eq (m := 2) (n := 3) U_law_take a0 [a1] _ rfl rfl
end PF
set_option Elab.async false
set_option linter.all false
set_option maxRecDepth 100000
namespace PF
open PySem L2 DL DX
end PF
set_option Elab.async false
set_option linter.all false
set_option maxRecDepth 100000
namespace PF
open PySem L2 DL DX
@[simp ↓] theorem vEq_int (neg : Bool) (i j : Int) : vEq neg (.int i) (.int j) = some (.sh (.bool (if neg then !decide (i = j) else decide (i = j)))) := by
  unfold vEq
  rw [gd_ok (by simp [PyData.canLay0, PyData.depth])]
  have e : (i == j) = decide (i = j) := by by_cases h : i = j <;> simp [h]
  simp [PyData.eqv, e]
structure Lay (d : PyData) : Prop where
  lay : d.canLay0 = true
  dep : d.depth < 200
theorem vEq_lay {neg : Bool} {d e : PyData} (h : Lay d) (k : e.canLay0 = true) : vEq neg d e = some (.sh (.bool (if neg then !PyData.eqv d e else PyData.eqv d e))) := by
  unfold vEq
  rw [gd_ok ⟨h.lay, k, by have := h.dep; omega⟩]
theorem vEq_lay' {neg : Bool} {d e : PyData} (h : d.canLay0 = true) (k : Lay e) : vEq neg d e = some (.sh (.bool (if neg then !PyData.eqv d e else PyData.eqv d e))) := by
  unfold vEq
  rw [gd_ok ⟨h, k.lay, by have := k.dep; omega⟩]
theorem Lay.tup0 : Lay (.tuple []) := ⟨rfl, by decide⟩
theorem canLayAll_map {α : Type} {f : α → PyData} (h : ∀ x, (f x).canLay0 = true) : ∀ xs : List α, PyData.canLayAll0 (xs.map f) = true
  | [] => rfl
  | x :: xs => by simp [PyData.canLayAll0, h x, canLayAll_map h xs]
theorem depthAll_map {α : Type} {f : α → PyData} {m : Nat} (h : ∀ x, (f x).depth ≤ m) : ∀ xs : List α, PyData.depthAll (xs.map f) ≤ m
  | [] => Nat.zero_le _
  | x :: xs => by
    have h1 := h x
    have h2 := depthAll_map h xs
    simp only [List.map_cons, PyData.depthAll]
    omega
theorem Lay.list {α : Type} {f : α → PyData} {m : Nat} (h : ∀ x, (f x).canLay0 = true) (k : ∀ x, (f x).depth ≤ m) (hm : m < 190) (xs : List α) : Lay (.list (xs.map f)) :=
  ⟨by simp [PyData.canLay0, canLayAll_map h xs], by have := depthAll_map k xs; simp only [PyData.depth]; omega⟩
theorem Lay.tuple {α : Type} {f : α → PyData} {m : Nat} (h : ∀ x, (f x).canLay0 = true) (k : ∀ x, (f x).depth ≤ m) (hm : m < 190) (xs : List α) : Lay (.tuple (xs.map f)) :=
  ⟨by simp [PyData.canLay0, canLayAll_map h xs], by have := depthAll_map k xs; simp only [PyData.depth]; omega⟩
theorem Lay.ints (xs : List Int) : Lay (.list (xs.map .int)) := Lay.list (m := 1) (fun _ => rfl) (fun _ => by simp [PyData.depth]) (by decide) xs
@[simp ↓] theorem pow10_6 : vPow (.int 10) (.int 6) = some (.sh (.int 1000000)) := (pow_ok ⟨by decide, by decide +kernel⟩).trans (congrArg (fun z => some (R.sh (PyData.int z))) (by decide +kernel))
@[simp ↓] theorem pow10_10 : vPow (.int 10) (.int 10) = some (.sh (.int 10000000000)) := (pow_ok ⟨by decide, by decide +kernel⟩).trans (congrArg (fun z => some (R.sh (PyData.int z))) (by decide +kernel))
@[simp ↓] theorem pow10_18 : vPow (.int 10) (.int 18) = some (.sh (.int 1000000000000000000)) := (pow_ok ⟨by decide, by decide +kernel⟩).trans (congrArg (fun z => some (R.sh (PyData.int z))) (by decide +kernel))
def T60 : Int := 10 ^ 60
@[simp ↓] theorem pow10_60 : vPow (.int 10) (.int 60) = some (.sh (.int T60)) := pow_ok ⟨by decide, by decide +kernel⟩
structure Pot where
  a : Int
  b : Int
def Pot.o (p : Pot) : OO := .lst [.int p.a, .int p.b]
structure Pot.Ok (p : Pot) : Prop where
  a0 : 0 ≤ p.a
  b0 : 0 ≤ p.b
  b1 : p.b < 2147483648
def takeV (p : Pot) (m : Int) : Int := if 0 < p.a then p.a % m else ((p.b * 69621 + 12345) % 2147483647) * ((p.b * 69621 + 12345) % 2147483647) % 2147483629 / 64 % m
def takeP (p : Pot) (m : Int) : Pot := if 0 < p.a then ⟨p.a / m, p.b⟩ else ⟨p.a, (p.b * 69621 + 12345) % 2147483647⟩
theorem take_eq {p : Pot} {m : Int} (hp : p.Ok) (h0 : 0 < m) (h1 : m < 1073741824) : F_law_take p.o [.int m] = .ok (.sh (.int (takeV p m))) (takeP p m).o := by
  obtain ⟨a, b⟩ := p
  obtain ⟨g1, g2, g3⟩ := hp
  rw [F_law_take_eq]
  by_cases h : 0 < a
  · simp (disch := first | assumption | omega) [U_law_take, Pot.o, takeV, takeP, h, gd_ok, CDiv, h0, h1]
  · have h2 : 0 ≤ (b * 69621 + 12345) % 2147483647 := Int.emod_nonneg _ (by decide)
    have h3 : (b * 69621 + 12345) % 2147483647 < 2147483647 := Int.emod_lt_of_pos _ (by decide)
    have k1 : IntMulOk b 69621 := mulOk_r (by decide) (by decide)
    have k2 : IntMulOk ((b * 69621 + 12345) % 2147483647) ((b * 69621 + 12345) % 2147483647) := mulOk_r (by omega) (by omega)
    simp (disch := first | assumption | omega) [U_law_take, Pot.o, takeV, takeP, h, gd_ok, CDiv, h0, h1, k1, k2]
theorem takeV_ge {p : Pot} {m : Int} (h0 : 0 < m) : 0 ≤ takeV p m := by
  unfold takeV
  split
  · exact Int.emod_nonneg _ (by omega)
  · exact Int.emod_nonneg _ (by omega)
theorem takeV_lt {p : Pot} {m : Int} (h0 : 0 < m) : takeV p m < m := by
  unfold takeV
  split
  · exact Int.emod_lt_of_pos _ h0
  · exact Int.emod_lt_of_pos _ h0
theorem takeP_ok {p : Pot} {m : Int} (hp : p.Ok) (h0 : 0 < m) : (takeP p m).Ok := by
  unfold takeP
  split
  · exact ⟨Int.ediv_nonneg hp.a0 (by omega), hp.b0, hp.b1⟩
  · refine ⟨hp.a0, Int.emod_nonneg _ (by decide), ?_⟩
    show (p.b * 69621 + 12345) % 2147483647 < 2147483648
    have := Int.emod_lt_of_pos (p.b * 69621 + 12345) (show (0 : Int) < 2147483647 by decide)
    omega
theorem take_ex {p : Pot} {m : Int} (hp : p.Ok) (h0 : 0 < m) (h1 : m < 1073741824) : ∃ i q, F_law_take p.o [.int m] = .ok (.sh (.int i)) (Pot.o q) ∧ 0 ≤ i ∧ i < m ∧ q.Ok :=
  ⟨_, _, take_eq hp h0 h1, takeV_ge h0, takeV_lt h0, takeP_ok hp h0⟩
theorem cell_bits {cell k : Int} (h0 : 0 ≤ k) (h1 : k < 100) : CPowB (cell % 2147483629 + 7919 * k + 1) 5 := by
  have h1 := Int.emod_nonneg cell (show (2147483629 : Int) ≠ 0 by decide)
  have h2 := Int.emod_lt_of_pos cell (show (0 : Int) < 2147483629 by decide)
  refine ⟨by decide, ?_⟩
  have h3 : Builtin.Int.intBits (cell % 2147483629 + 7919 * k + 1) ≤ 64 := PySem.intBits_le_64 (by omega) (by omega)
  have e : (2 : Int) ^ 27 = 134217728 := by decide
  rw [e]
  omega
end PF
set_option Elab.async false
set_option linter.all false
namespace PF
open PySem L2 DL DX
def NIo (s : Option R) : Prop := ∀ x, freeX (some s) x = x
theorem NIo.none : NIo none := fun x => rfl
theorem NIo.sh (d : PyData) : NIo (some (.sh d)) := fun x => rfl
theorem NIo.own (d : OO) : NIo (some (.own d)) := fun x => rfl
def calmS (s : Option (Option R)) : Bool := match s with | some (some (.own _)) => false | some (some (.io _)) => false | _ => true
structure Sl (s : Option R) : Prop where
  io : ∀ x, freeX (some s) x = x
  calm : calmS (some s) = true
theorem Sl.none : Sl none := ⟨fun _ => rfl, rfl⟩
theorem Sl.sh (d : PyData) : Sl (some (.sh d)) := ⟨fun _ => rfl, rfl⟩
end PF
set_option Elab.async false
set_option linter.all false
set_option maxRecDepth 100000
namespace PF
open PySem L2 DL DX
end PF
set_option Elab.async false
set_option linter.all false
set_option maxRecDepth 100000
namespace PF
open PySem L2 DL DX
structure Card where
  k : Int
  r : Int
  w : Int
def Card.d (c : Card) : PyData := .tuple [.int c.k, .int c.r, .int c.w]
inductive T where
  | nil
  | node (l : T) (c : Card) (r : T)
def T.d : T → PyData
  | .nil => .tuple []
  | .node l c r => .tuple [l.d, c.d, r.d]
def T.cards : T → List Card
  | .nil => []
  | .node l c r => l.cards ++ c :: r.cards
def T.hi : T → Nat
  | .nil => 0
  | .node l _ r => max l.hi r.hi + 1
theorem Card.lay (c : Card) : c.d.canLay0 = true := rfl
theorem Card.dep (c : Card) : c.d.depth ≤ 2 := by simp [Card.d, PyData.depth, PyData.depthAll]
theorem T.lay : ∀ t : T, t.d.canLay0 = true
  | .nil => rfl
  | .node l c r => by simp [T.d, Card.d, PyData.canLay0, PyData.canLayAll0, T.lay l, T.lay r]
theorem T.hi_len : ∀ t : T, t.hi ≤ t.cards.length
  | .nil => Nat.le_refl _
  | .node l c r => by
    have h1 := T.hi_len l
    have h2 := T.hi_len r
    simp only [T.hi, T.cards, List.length_append, List.length_cons]
    omega
theorem vEq_nil : vEq false T.nil.d (.tuple []) = some (.sh (.bool true)) := by
  rw [vEq_lay' (T.lay _) Lay.tup0]
  simp [T.d, PyData.eqv, PyData.eqvAll]
theorem vEq_node (l : T) (c : Card) (r : T) : vEq false (T.node l c r).d (.tuple []) = some (.sh (.bool false)) := by
  rw [vEq_lay' (T.lay _) Lay.tup0]
  simp [T.d, PyData.eqv, PyData.eqvAll]
abbrev csd (cs : List Card) : PyData := .list (cs.map Card.d)
theorem Lay.csd (cs : List Card) : Lay (PF.csd cs) := Lay.list (m := 2) Card.lay Card.dep (by decide) cs
end PF
set_option Elab.async false
set_option linter.all false
set_option maxRecDepth 100000
namespace PF
open PySem L2 DL DX
end PF
set_option Elab.async false
set_option linter.all false
set_option maxRecDepth 100000
namespace PF
open PySem L2 DL DX
end PF
set_option Elab.async false
set_option linter.all false
set_option maxRecDepth 100000
namespace PF
open PySem L2 DL DX
end PF
set_option Elab.async false
set_option linter.all false
set_option maxRecDepth 100000
namespace PF
open PySem L2 DL DX
end PF
set_option Elab.async false
set_option linter.all false
set_option maxRecDepth 100000
namespace PF
open PySem L2 DL DX
end PF
set_option Elab.async false
set_option linter.all false
set_option maxRecDepth 100000
namespace PF
open PySem L2 DL DX
end PF
set_option Elab.async false
set_option linter.all false
set_option maxRecDepth 100000
set_option maxHeartbeats 1000000
namespace PF
open PySem L2 DL DX
theorem pick4 {a b c d : Int} {i : Int} (h0 : 0 ≤ i) (h1 : i < 4) : ∃ x, ixX [.int a, .int b, .int c, .int d] i = some (.sh (.int x)) ∧ (x = a ∨ x = b ∨ x = c ∨ x = d) := by
  have : i = 0 ∨ i = 1 ∨ i = 2 ∨ i = 3 := by omega
  rcases this with rfl | rfl | rfl | rfl <;> exact ⟨_, by simp; rfl, by simp⟩
theorem pick5 {a b c d e : Int} {i : Int} (h0 : 0 ≤ i) (h1 : i < 5) : ∃ x, ixX [.int a, .int b, .int c, .int d, .int e] i = some (.sh (.int x)) ∧ (x = a ∨ x = b ∨ x = c ∨ x = d ∨ x = e) := by
  have : i = 0 ∨ i = 1 ∨ i = 2 ∨ i = 3 ∨ i = 4 := by omega
  rcases this with rfl | rfl | rfl | rfl | rfl <;> exact ⟨_, by simp; rfl, by simp⟩
theorem pick6 {a b c d e f : Int} {i : Int} (h0 : 0 ≤ i) (h1 : i < 6) : ∃ x, ixX [.int a, .int b, .int c, .int d, .int e, .int f] i = some (.sh (.int x)) ∧ (x = a ∨ x = b ∨ x = c ∨ x = d ∨ x = e ∨ x = f) := by
  have : i = 0 ∨ i = 1 ∨ i = 2 ∨ i = 3 ∨ i = 4 ∨ i = 5 := by omega
  rcases this with rfl | rfl | rfl | rfl | rfl | rfl <;> exact ⟨_, by simp; rfl, by simp⟩
end PF
set_option Elab.async false
set_option linter.all false
set_option maxRecDepth 100000
namespace PF
open PySem L2 DL DX
end PF
set_option Elab.async false
set_option linter.all false
set_option maxRecDepth 100000
namespace PF
open PySem L2 DL DX
end PF
set_option Elab.async false
set_option linter.all false
set_option maxRecDepth 100000
namespace PF
open PySem L2 DL DX
end PF
set_option Elab.async false
set_option linter.all false
set_option maxRecDepth 100000
set_option maxHeartbeats 1000000
namespace PF
open PySem L2 DL DX
theorem cut_to {cs : List Card} {i : Int} (h0 : 0 ≤ i) (h1 : i ≤ cs.length) : cutD (cs.map Card.d) none (some i) = (cs.take i.toNat).map Card.d := by
  rw [cutD_to h0 (by rw [List.length_map]; exact h1), List.map_take]
theorem cut_from {cs : List Card} {i : Int} (h0 : 0 ≤ i) (h1 : i ≤ cs.length) : cutD (cs.map Card.d) (some i) none = (cs.drop i.toNat).map Card.d := by
  rw [cutD_from h0 (by rw [List.length_map]; exact h1), List.map_drop]
theorem take_cons_drop {cs : List Card} {i : Nat} {c : Card} (h : cs[i]? = some c) : cs.take i ++ c :: cs.drop (i + 1) = cs := by
  obtain ⟨h1, h2⟩ := List.getElem?_eq_some_iff.mp h
  rw [← h2, ← List.drop_eq_getElem_cons h1, List.take_append_drop]
end PF
set_option Elab.async false
set_option linter.all false
set_option maxRecDepth 100000
namespace PF
open PySem L2 DL DX
def U_law_pot_v2 : XS :=
  (xSeq (xAsg (xC (.int 0)) (xN 2))
    (xSeq (xIf (xB (xBin vLt (xVar 1) (xLenU 0))) (xAsg (xBin vMod (xBlt vAbs (xCons (xIxU 0 (xVar 1)) xNil)) (xBin vPow (xBin vPow (xC (.int 10)) (xC (.int 60))) (xC (.int 6)))) (xN 2)) xNext)
    (xRet (xLst (xCons (xBin vMulB (xVar 2) (xBlt vInt (xCons (xBin vGe (xVar 2) (xBin vPow (xC (.int 10)) (xC (.int 18)))) xNil))) (xCons (xBin vMod (xBin vPow (xBin vAdd (xBin vAdd (xBin vMod (xVar 2) (xC (.int 2147483629))) (xBin vMulB (xC (.int 7919)) (xVar 1))) (xC (.int 1))) (xC (.int 5))) (xC (.int 2147483647))) xNil))))))
def F_law_pot_v2 : Fn := runD 2 3 U_law_pot_v2
theorem F_law_pot_v2_eq (a0 a1 : PyData) : F_law_pot_v2 [a0, a1] = (U_law_pot_v2 [some (.sh a0), some (.sh a1), none]).fin := runD_eq (m := 2) (n := 3) U_law_pot_v2 [a0, a1] _ rfl rfl
end PF
set_option Elab.async false
set_option linter.all false
set_option maxRecDepth 100000
namespace PF
open PySem L2 DL DX
def U_law_great_v2 : XS :=
  (xRet (xBin vAdd (xBin vMulB (xBin vAdd (xBin vMulB (xCallO F_law_take 0 (xCons (xBin vPow (xC (.int 10)) (xC (.int 6))) xNil)) (xBin vPow (xC (.int 10)) (xC (.int 6)))) (xCallO F_law_take 0 (xCons (xBin vPow (xC (.int 10)) (xC (.int 6))) xNil))) (xBin vPow (xC (.int 10)) (xC (.int 6)))) (xCallO F_law_take 0 (xCons (xBin vPow (xC (.int 10)) (xC (.int 6))) xNil))))
def F_law_great_v2 : Fp := runP 1 1 U_law_great_v2
theorem F_law_great_v2_eq (a0 : OO)  : F_law_great_v2 a0 [] = (U_law_great_v2 [some (.io a0)]).finP := runP_eq (m := 1) (n := 1) U_law_great_v2 a0 [] _ rfl rfl
end PF
set_option Elab.async false
set_option linter.all false
set_option maxRecDepth 100000
namespace PF
open PySem L2 DL DX
def U_law_keys_1 : XE :=
  (xBin vAdd (xBin vSub (xBin vPow (xC (.int 10)) (xC (.int 18))) (xIxU 4 (xSh vNeg (xC (.int 1))))) (xVar 6))
def U_law_keys_2 : XS :=
  (xSeq (xExp (xMeth vAppend 4 (xCons (xVar 3) xNil)))
    (xAsg (xBin vAdd (xBin vAdd (xVar 3) (xC (.int 1))) (xBin vMulB (xCallO F_law_take 0 (xCons (xBin vIx (xTup (xCons (xC (.int 1)) (xCons (xC (.int 3)) (xCons (xBin vPow (xC (.int 10)) (xC (.int 6))) (xCons (xC (.int 3)) xNil))))) (xVar 2)) xNil)) (xBin vIx (xTup (xCons (xC (.int 1)) (xCons (xC (.int 1)) (xCons (xBin vPow (xC (.int 10)) (xC (.int 10))) (xCons (xC (.int 1)) xNil))))) (xVar 2)))) (xN 3)))
def U_law_keys : XS :=
  (xSeq (xAsg (xCallO F_law_take 0 (xCons (xC (.int 4)) xNil)) (xN 2))
    (xSeq (xAsg (xBin vIx (xTup (xCons (xC (.int 0)) (xCons (xC (.int 5)) (xCons (xC (.int 7)) (xCons (xC (.int 0)) xNil))))) (xVar 2)) (xN 3))
    (xSeq (xAsg (xLst xNil) (xN 4))
    (xSeq (xFor (xiOf rng1 (xCons (xVar 1) xNil)) (xN 5) U_law_keys_2)
    (xSeq (xIf (xB (xBin (vEq false) (xVar 2) (xC (.int 3)))) (xAsg (xLc (xiSeq (xVar 4)) [6] (xN 6) xYes U_law_keys_1) (xN 4)) xNext)
    (xRet (xVar 4)))))))
def F_law_keys : Fp := runP 2 7 U_law_keys
theorem F_law_keys_eq (a0 : OO) (a1 : PyData) : F_law_keys a0 [a1] = (U_law_keys [some (.io a0), some (.sh a1), none, none, none, none, none]).finP := runP_eq (m := 2) (n := 7) U_law_keys a0 [a1] _ rfl rfl
end PF
set_option Elab.async false
set_option linter.all false
set_option maxRecDepth 100000
namespace PF
open PySem L2 DL DX
def U_law_rank : XS :=
  (xSeq (xIf (xB (xBin vLt (xVar 1) (xC (.int 3)))) (xRet (xBin vIx (xTup (xCons (xC (.int 7)) (xCons (xBin vAdd (xC (.int 7)) (xCallO F_law_take 0 (xCons (xC (.int 3)) xNil))) (xCons (xBin vMulB (xBin vPow (xC (.int 10)) (xC (.int 18))) (xCallO F_law_take 0 (xCons (xC (.int 2)) xNil))) xNil)))) (xVar 1))) xNext)
    (xRet (xCallO F_law_great_v2 0 xNil)))
def F_law_rank : Fp := runP 2 2 U_law_rank
theorem F_law_rank_eq (a0 : OO) (a1 : PyData) : F_law_rank a0 [a1] = (U_law_rank [some (.io a0), some (.sh a1)]).finP := runP_eq (m := 2) (n := 2) U_law_rank a0 [a1] _ rfl rfl
end PF
set_option Elab.async false
set_option linter.all false
set_option maxRecDepth 100000
namespace PF
open PySem L2 DL DX
def U_law_cards_1 : XS :=
  (xSeq (xAsg (xBin vAdd (xC (.int 7)) (xLenU 4)) (xN 6))
    (xSeq (xIf (xB (xBin vLt (xVar 2) (xC (.int 4)))) (xAsg (xCallO F_law_rank 0 (xCons (xVar 2) xNil)) (xN 6)) xNext)
    (xExp (xMeth vAppend 4 (xCons (xTup (xCons (xVar 5) (xCons (xVar 6) (xCons (xIxU 3 (xCallO F_law_take 0 (xCons (xC (.int 6)) xNil))) xNil)))) xNil)))))
def U_law_cards : XS :=
  (xSeq (xAsg (xCallO F_law_take 0 (xCons (xC (.int 5)) xNil)) (xN 2))
    (xSeq (xAsg (xTup (xCons (xC (.int 0)) (xCons (xC (.int 1)) (xCons (xSh vNeg (xC (.int 1))) (xCons (xBin vPow (xC (.int 10)) (xC (.int 18))) (xCons (xSh vNeg (xBin vPow (xC (.int 10)) (xC (.int 18)))) (xCons (xBin vMulB (xC (.int 3)) (xBin vPow (xC (.int 10)) (xC (.int 18)))) xNil))))))) (xN 3))
    (xSeq (xAsg (xLst xNil) (xN 4))
    (xSeq (xFor (xiSeq (xCallO F_law_keys 0 (xCons (xVar 1) xNil))) (xN 5) U_law_cards_1)
    (xRet (xVar 4))))))
def F_law_cards : Fp := runP 2 7 U_law_cards
theorem F_law_cards_eq (a0 : OO) (a1 : PyData) : F_law_cards a0 [a1] = (U_law_cards [some (.io a0), some (.sh a1), none, none, none, none, none]).finP := runP_eq (m := 2) (n := 7) U_law_cards a0 [a1] _ rfl rfl
end PF
set_option Elab.async false
set_option linter.all false
set_option maxRecDepth 100000
namespace PF
open PySem L2 DL DX
def U_law_many : XS :=
  (xSeq (xAsg (xCallO F_law_take 0 (xCons (xC (.int 8)) xNil)) (xN 2))
    (xRet (xBin vIx (xTup (xCons (xC (.int 0)) (xCons (xC (.int 1)) (xCons (xVar 1) (xCons (xBin vAdd (xC (.int 2)) (xCallO F_law_take 0 (xCons (xBin vSub (xVar 1) (xC (.int 2))) xNil))) xNil))))) (xBlt vMin2 (xCons (xVar 2) (xCons (xC (.int 3)) xNil))))))
def F_law_many : Fp := runP 2 3 U_law_many
theorem F_law_many_eq (a0 : OO) (a1 : PyData) : F_law_many a0 [a1] = (U_law_many [some (.io a0), some (.sh a1), none]).finP := runP_eq (m := 2) (n := 3) U_law_many a0 [a1] _ rfl rfl
end PF
set_option Elab.async false
set_option linter.all false
set_option maxRecDepth 100000
namespace PF
open PySem L2 DL DX
def U_law_branching (self : Fp) : XS :=
  (xSeq (xIf (xB (xBin (vEq false) (xLenU 1) (xC (.int 0)))) (xRet (xTup xNil)) xNext)
    (xSeq (xAsg (xBin vDiv (xLenU 1) (xC (.int 2))) (xN 3))
    (xSeq (xIf (xB (xBin vLt (xVar 2) (xC (.int 3)))) (xAsg (xBin vIx (xTup (xCons (xCallO F_law_take 0 (xCons (xLenU 1) xNil)) (xCons (xC (.int 0)) (xCons (xBin vSub (xLenU 1) (xC (.int 1))) xNil)))) (xVar 2)) (xN 3)) xNext)
    (xRet (xTup (xCons (xCallO self 0 (xCons (xSl (xVar 1) xoN (xoS (xVar 3))) (xCons (xVar 2) xNil))) (xCons (xIxU 1 (xVar 3)) (xCons (xCallO self 0 (xCons (xSl (xVar 1) (xoS (xBin vAdd (xVar 3) (xC (.int 1)))) xoN) (xCons (xVar 2) xNil))) xNil))))))))
def F_law_branching : Nat → Fp
  | 0 => fun _ _ => .bad
  | n + 1 => runP 3 4 (U_law_branching (F_law_branching n))
theorem F_law_branching_eq (n : Nat) (a0 : OO) (a1 a2 : PyData) : (F_law_branching (n + 1)) a0 [a1, a2] = ((U_law_branching (F_law_branching n)) [some (.io a0), some (.sh a1), some (.sh a2), none]).finP := runP_eq (m := 3) (n := 4) (U_law_branching (F_law_branching n)) a0 [a1, a2] _ rfl rfl
end PF
set_option Elab.async false
set_option linter.all false
set_option maxRecDepth 100000
namespace PF
open PySem L2 DL DX
def U_law_tree : XS :=
  (xRet (xCallO (F_law_branching 70) 0 (xCons (xVar 1) (xCons (xBin vIx (xTup (xCons (xC (.int 0)) (xCons (xC (.int 0)) (xCons (xC (.int 0)) (xCons (xC (.int 0)) (xCons (xC (.int 1)) (xCons (xC (.int 2)) (xCons (xC (.int 3)) xNil)))))))) (xCallO F_law_take 0 (xCons (xC (.int 7)) xNil))) xNil))))
def F_law_tree : Fp := runP 2 2 U_law_tree
theorem F_law_tree_eq (a0 : OO) (a1 : PyData) : F_law_tree a0 [a1] = (U_law_tree [some (.io a0), some (.sh a1)]).finP := runP_eq (m := 2) (n := 2) U_law_tree a0 [a1] _ rfl rfl
end PF
set_option Elab.async false
set_option linter.all false
set_option maxRecDepth 100000
set_option maxHeartbeats 1000000
namespace PF
open PySem L2 DL DX
theorem pot_v2_ex {ns : List Int} {k : Int} (h63 : ns.length ≤ 63) (h0 : 0 ≤ k) (h1 : k < 100) : ∃ p : Pot, F_law_pot_v2 [.list (ns.map .int), .int k] = .ok (.own p.o) () ∧ p.Ok := by
  have fin : ∀ cell : Int, 0 ≤ cell → ∃ p : Pot, p.Ok ∧ p.o = .lst [.int (cell * (if decide (1000000000000000000 ≤ cell) = true then 1 else 0)), .int ((cell % 2147483629 + 7919 * k + 1) ^ 5 % 2147483647)] := fun cell hc => by
    refine ⟨⟨_, _⟩, ⟨?_, Int.emod_nonneg _ (by decide), ?_⟩, rfl⟩
    · show 0 ≤ cell * (if decide (1000000000000000000 ≤ cell) = true then 1 else 0)
      split <;> omega
    · have := Int.emod_lt_of_pos ((cell % 2147483629 + 7919 * k + 1) ^ 5) (show (0 : Int) < 2147483647 by decide)
      show (cell % 2147483629 + 7919 * k + 1) ^ 5 % 2147483647 < 2147483648
      omega
  have m1 : ∀ cell : Int, IntMulOk cell (if 1000000000000000000 ≤ cell then 1 else 0) := fun cell => by split <;> exact mulOk_r (by decide) (by decide)
  have m2 : IntMulOk 7919 k := mulOk_l (by decide) (by decide)
  have e2 : ∃ L : Int, 0 < L ∧ vPow (.int T60) (.int 6) = some (.sh (.int L)) := ⟨_, by decide +kernel, pow_ok ⟨by decide, by decide +kernel⟩⟩
  obtain ⟨L, hL, e2⟩ := e2
  have e4 := fun cell => pow_ok (cell_bits (cell := cell) h0 h1)
  have e5 : (5 : Int).toNat = 5 := rfl
  rw [e5] at e4
  rw [F_law_pot_v2_eq]
  by_cases h : k < (ns.length : Int)
  · obtain ⟨x, hx⟩ : ∃ x, ns[k.toNat]? = some x := ⟨ns[k.toNat]'(by omega), by simp⟩
    have ix := ixX_map (f := PyData.int) h0 hx
    obtain ⟨p, ok, e⟩ := fin ((if x < 0 then -x else x) % L) (Int.emod_nonneg _ (by omega))
    refine ⟨p, ?_, ok⟩
    rw [e]
    simp (disch := first | assumption | omega) [U_law_pot_v2, h, ix, gd_ok, gr_ok, e2, e4, m1]
  · obtain ⟨p, ok, e⟩ := fin 0 (Int.le_refl _)
    refine ⟨p, ?_, ok⟩
    have e40 : vPow (.int (7919 * k + 1)) (.int 5) = some (.sh (.int ((7919 * k + 1) ^ 5))) := by simpa using e4 0
    have m0 : IntMulOk 0 0 := mulOk_l (by decide) (by decide)
    rw [e]
    simp (disch := first | assumption | omega) [U_law_pot_v2, h, gd_ok, gr_ok, e40, m0]
theorem great_v2_ex {p : Pot} (hp : p.Ok) : ∃ i q, F_law_great_v2 p.o [] = .ok (.sh (.int i)) (Pot.o q) ∧ 0 ≤ i ∧ i < 1000000000000000000 ∧ q.Ok := by
  obtain ⟨a, p1, e1, a1, a2, o1⟩ := take_ex hp (m := 1000000) (by decide) (by decide)
  obtain ⟨b, p2, e2, b1, b2, o2⟩ := take_ex o1 (m := 1000000) (by decide) (by decide)
  obtain ⟨c, p3, e3, c1, c2, o3⟩ := take_ex o2 (m := 1000000) (by decide) (by decide)
  have m1 : ∀ i : Int, IntMulOk i 1000000 := fun i => mulOk_r (by decide) (by decide)
  refine ⟨(a * 1000000 + b) * 1000000 + c, p3, ?_, by omega, by omega, o3⟩
  rw [F_law_great_v2_eq]
  simp (disch := first | assumption | omega) [U_law_great_v2, e1, e2, e3, gd_ok, gr_ok, m1]
theorem rank_ex {p : Pot} (hp : p.Ok) {w : Int} (h0 : 0 ≤ w) (h1 : w < 4) : ∃ i q, F_law_rank p.o [.int w] = .ok (.sh (.int i)) (Pot.o q) ∧ 0 ≤ i ∧ i ≤ 1000000000000000000 ∧ q.Ok := by
  rw [F_law_rank_eq]
  by_cases h : w < 3
  · obtain ⟨a, p1, e1, a1, a2, o1⟩ := take_ex hp (m := 3) (by decide) (by decide)
    obtain ⟨b, p2, e2, b1, b2, o2⟩ := take_ex o1 (m := 2) (by decide) (by decide)
    have m1 : IntMulOk 1000000000000000000 b := mulOk_l (by decide) (by decide)
    have : w = 0 ∨ w = 1 ∨ w = 2 := by omega
    rcases this with rfl | rfl | rfl
    · exact ⟨7, p2, by simp (disch := first | assumption | omega) [U_law_rank, e1, e2, gd_ok, gr_ok], by omega, by omega, o2⟩
    · exact ⟨7 + a, p2, by simp (disch := first | assumption | omega) [U_law_rank, e1, e2, gd_ok, gr_ok], by omega, by omega, o2⟩
    · exact ⟨1000000000000000000 * b, p2, by simp (disch := first | assumption | omega) [U_law_rank, e1, e2, gd_ok, gr_ok], by omega, by omega, o2⟩
  · obtain ⟨i, q, e, a, b, o⟩ := great_v2_ex hp
    exact ⟨i, q, by simp (disch := first | assumption | omega) [U_law_rank, e, h, gd_ok, gr_ok], a, by omega, o⟩
theorem many_ex {p : Pot} (hp : p.Ok) {m : Int} (h0 : 3 ≤ m) (h1 : m < 1000) : ∃ i q, F_law_many p.o [.int m] = .ok (.sh (.int i)) (Pot.o q) ∧ 0 ≤ i ∧ i ≤ m ∧ q.Ok := by
  obtain ⟨w, p1, e1, a1, a2, o1⟩ := take_ex hp (m := 8) (by decide) (by decide)
  obtain ⟨b, p2, e2, b1, b2, o2⟩ := take_ex o1 (m := m - 2) (by omega) (by omega)
  obtain ⟨x, hx, hx2⟩ := pick4 (a := 0) (b := 1) (c := m) (d := 2 + b) (i := if 3 < w then 3 else w) (by split <;> omega) (by split <;> omega)
  refine ⟨x, p2, ?_, by omega, by omega, o2⟩
  rw [F_law_many_eq]
  simp (disch := first | assumption | omega) [U_law_many, e1, e2, gd_ok, gr_ok, hx]
def Rising (ms : List Int) : Prop := ms.Pairwise (· < ·)
theorem keys_loop {n : PyData} {w : Int} (hw0 : 0 ≤ w) (hw1 : w < 4) (N : Nat) (hn : N ≤ 100) (p : Pot) (hp : p.Ok) (k0 : Int) (hk0 : 0 ≤ k0) (hk1 : k0 ≤ 7) :
    ∃ (q : Pot) (acc : List Int) (k2 : Int) (s5 : Option R), forX (xN 5) U_law_keys_2 (rangeD 0 N) [some (.io p.o), some (.sh n), some (.sh (.int w)), some (.sh (.int k0)), some (.own (.lst [])), none, none] =
      .nx [some (.io (Pot.o q)), some (.sh n), some (.sh (.int w)), some (.sh (.int k2)), some (.own (.lst (acc.map .int))), s5, none] ∧ q.Ok ∧ acc.length = N ∧ Rising acc ∧ ∀ a ∈ acc, 0 ≤ a ∧ a ≤ 10000000000000000000 := by
  rw [rangeD_map0]
  obtain ⟨ρ', e, q, acc, k2, s5, rfl, hq, hl, _, rs, hb, _⟩ := forX_inv (g := xN 5) (b := U_law_keys_2) (enc := fun (i : Nat) => PyData.int i) (fun xs ρ => ∃ (q : Pot) (acc : List Int) (k2 : Int) (s5 : Option R), ρ = [some (.io (Pot.o q)), some (.sh n), some (.sh (.int w)), some (.sh (.int k2)), some (.own (.lst (acc.map .int))), s5, none] ∧ q.Ok ∧ acc.length + xs.length = N ∧ NIo s5 ∧ Rising acc ∧ (∀ a ∈ acc, 0 ≤ a ∧ a < k2) ∧ 0 ≤ k2 ∧ k2 ≤ 7 + (acc.length : Int) * 20000000000000000)
    (by
      rintro k ks _ ⟨q, acc, k2, s5, rfl, hq, hl, hs, rs, hb, hk2, hk3⟩
      simp only [List.length_cons] at hl
      obtain ⟨x, hx, hx2⟩ := pick4 (a := 1) (b := 3) (c := 1000000) (d := 3) hw0 hw1
      obtain ⟨y, hy, hy2⟩ := pick4 (a := 1) (b := 1) (c := 10000000000) (d := 1) hw0 hw1
      obtain ⟨i, p1, e1, a1, a2, o1⟩ := take_ex hq (m := x) (by omega) (by omega)
      have hy3 : 0 ≤ y ∧ y ≤ 10000000000 := by clear hx2; omega
      have hx3 : x ≤ 1000000 := by clear hy2; omega
      have mk : IntMulOk i y := mulOk_r (by omega) (by omega)
      have iy : 0 ≤ i * y := Int.mul_nonneg a1 hy3.1
      have iz : i * y ≤ 1000000 * 10000000000 := Int.le_trans (Int.mul_le_mul_of_nonneg_left hy3.2 a1) (Int.mul_le_mul_of_nonneg_right (by omega) (by decide))
      refine ⟨[some (.io q.o), some (.sh n), some (.sh (.int w)), some (.sh (.int k2)), some (.own (.lst (acc.map .int))), some (.sh (.int k)), none], _, by simp [hs _], .inl ?_, p1, acc ++ [k2], k2 + 1 + i * y, some (.sh (.int k)), rfl, o1, by simp; omega, .sh _, ?_, ?_, by omega, ?_⟩
      · simp (disch := first | assumption | omega | (simp only [List.length_map]; omega)) [U_law_keys_2, gd_ok, gr_ok, hx, hy, e1]
      · refine List.pairwise_append.mpr ⟨rs, List.pairwise_singleton _ _, fun a ha b hb' => ?_⟩
        rw [List.mem_singleton.mp hb']
        exact (hb a ha).2
      · intro a ha
        rcases List.mem_append.mp ha with ha | ha
        · have := hb a ha; omega
        · rw [List.mem_singleton.mp ha]; omega
      · rw [List.length_append, List.length_singleton]
        have : ((acc.length + 1 : Nat) : Int) * 20000000000000000 = (acc.length : Int) * 20000000000000000 + 20000000000000000 := by omega
        omega)
    (List.range N) _ ⟨p, [], k0, none, rfl, hp, by simp, .none, .nil, (fun a ha => by cases ha), hk0, by simpa using hk1⟩
  rename_i hk3
  have hl' : acc.length = N := by simpa using hl
  refine ⟨q, acc, k2, s5, e, hq, hl', rs, fun a ha => ?_⟩
  have := hb a ha
  have hk4 := hk3.2
  omega
theorem keys_ex {p : Pot} (hp : p.Ok) {n : Int} (h0 : 0 ≤ n) (h1 : n ≤ 100) : ∃ (ms : List Int) (q : Pot) (r : R), F_law_keys p.o [.int n] = .ok r q.o ∧ r = .sh (.list (ms.map .int)) ∧ (ms.length : Int) = n ∧ q.Ok ∧ Rising ms ∧ ∀ a ∈ ms, -100000000000000000000 ≤ a ∧ a ≤ 100000000000000000000 := by
  obtain ⟨w, p1, e1, a1, a2, o1⟩ := take_ex hp (m := 4) (by decide) (by decide)
  obtain ⟨x, hx, hx2⟩ := pick4 (a := 0) (b := 5) (c := 7) (d := 0) a1 a2
  obtain ⟨q, acc, k2, s5, e, hq, hl, rs, hb⟩ := keys_loop (n := .int n) a1 a2 n.toNat (by omega) p1 o1 x (by omega) (by omega)
  rw [F_law_keys_eq]
  by_cases hw : w = 3
  · subst hw
    have lc := lcX_all (vs := [6]) (g := xN 6) (T := xYes) (e := U_law_keys_1) (enc := PyData.int) (f := fun m => PyData.int (1000000000000000000 - acc.getLastD 0 + m)) (ρ := [some (.io q.o), some (.sh (.int n)), some (.sh (.int 3)), some (.sh (.int k2)), some (.sh (.list (acc.map .int))), s5, none]) acc [] (fun y hy => by
        have ne : acc ≠ [] := fun z => by rw [z] at hy; cases hy
        have ix : ixX (acc.map PyData.int) (-1) = some (.sh (.int (acc.getLastD 0))) := by
          refine ixX_last ?_
          rw [List.getLast?_map, List.getLast?_eq_some_getLast ne]
          simp [List.getLastD_eq_getLast?, List.getLast?_eq_some_getLast ne]
        simp [turnX, U_law_keys_1, calmX, wipeR, ix]) (by simp; omega)
    refine ⟨acc.map fun m => 1000000000000000000 - acc.getLastD 0 + m, q, _, ?_, rfl, by simp; omega, hq, ?_, ?_⟩
    · simp (disch := first | assumption | omega) [U_law_keys, e1, hx, gd_ok, gr_ok, e, calmX, wipeR, lc, restR]
    · exact List.pairwise_map.mpr (rs.imp fun h => by omega)
    · intro a ha
      obtain ⟨m, hm, rfl⟩ := List.mem_map.mp ha
      have := hb m hm
      have : 0 ≤ acc.getLastD 0 ∧ acc.getLastD 0 ≤ 10000000000000000000 := by
        cases e : acc.getLast? with
        | none => rw [List.getLastD_eq_getLast?, e]; decide
        | some z => rw [List.getLastD_eq_getLast?, e]; exact hb z (List.mem_of_getLast? e)
      omega
  · refine ⟨acc, q, _, ?_, rfl, by omega, hq, rs, fun a ha => by have := hb a ha; omega⟩
    simp (disch := first | assumption | omega) [U_law_keys, e1, hx, gd_ok, gr_ok, e, hw]
def Few (i : Int) : Prop := i.natAbs < 10 ^ 100
theorem few_of {i : Int} (h : -1000000000000000000000 ≤ i) (k : i ≤ 1000000000000000000000) : Few i := by
  unfold Few
  have : i.natAbs ≤ 1000000000000000000000 := by omega
  exact Nat.lt_of_le_of_lt this (by decide +kernel)
structure Card.Few (c : Card) : Prop where
  k : PF.Few c.k
  r : PF.Few c.r
  w : PF.Few c.w
theorem cards_loop {n : PyData} {w : Int} (hw0 : 0 ≤ w) (hw1 : w < 5) (ms : List Int) (hn : ms.length ≤ 100) (hms : ∀ a ∈ ms, -100000000000000000000 ≤ a ∧ a ≤ 100000000000000000000) (p : Pot) (hp : p.Ok) :
    ∃ (q : Pot) (cs : List Card) (s5 s6 : Option R), forX (xN 5) U_law_cards_1 (ms.map .int) [some (.io p.o), some (.sh n), some (.sh (.int w)), some (.sh (.tuple [.int 0, .int 1, .int (-1), .int 1000000000000000000, .int (-1000000000000000000), .int 3000000000000000000])), some (.own (.lst [])), none, none] =
      .nx [some (.io (Pot.o q)), some (.sh n), some (.sh (.int w)), some (.sh (.tuple [.int 0, .int 1, .int (-1), .int 1000000000000000000, .int (-1000000000000000000), .int 3000000000000000000])), some (.own (.lst (cs.map Card.d))), s5, s6] ∧ q.Ok ∧ cs.map Card.k = ms ∧ ∀ c ∈ cs, c.Few := by
  obtain ⟨ρ', e, q, cs, s5, s6, rfl, hq, hl, _, _, hf⟩ := forX_inv (g := xN 5) (b := U_law_cards_1) (enc := PyData.int) (fun xs ρ => ∃ (q : Pot) (cs : List Card) (s5 s6 : Option R), ρ = [some (.io (Pot.o q)), some (.sh n), some (.sh (.int w)), some (.sh (.tuple [.int 0, .int 1, .int (-1), .int 1000000000000000000, .int (-1000000000000000000), .int 3000000000000000000])), some (.own (.lst (cs.map Card.d))), s5, s6] ∧ q.Ok ∧ cs.map Card.k ++ xs = ms ∧ NIo s5 ∧ NIo s6 ∧ ∀ c ∈ cs, c.Few)
    (by
      rintro k ks _ ⟨q, cs, s5, s6, rfl, hq, hl, h5, h6, hf⟩
      have hk : k ∈ ms := by rw [← hl]; simp
      have hlen : cs.length < 100 := by
        have := congrArg List.length hl
        simp at this
        omega
      have hk2 := hms k hk
      have rk : ∃ (r : Int) (q1 : Pot), xIf (xB (xBin vLt (xVar 2) (xC (.int 4)))) (xAsg (xCallO F_law_rank 0 (xCons (xVar 2) xNil)) (xN 6)) xNext [some (.io (Pot.o q)), some (.sh n), some (.sh (.int w)), some (.sh (.tuple [.int 0, .int 1, .int (-1), .int 1000000000000000000, .int (-1000000000000000000), .int 3000000000000000000])), some (.own (.lst (cs.map Card.d))), some (.sh (.int k)), some (.sh (.int (7 + (cs.length : Int))))] =
          .nx [some (.io (Pot.o q1)), some (.sh n), some (.sh (.int w)), some (.sh (.tuple [.int 0, .int 1, .int (-1), .int 1000000000000000000, .int (-1000000000000000000), .int 3000000000000000000])), some (.own (.lst (cs.map Card.d))), some (.sh (.int k)), some (.sh (.int r))] ∧ q1.Ok ∧ 0 ≤ r ∧ r ≤ 1000000000000000000 := by
        by_cases h4 : w < 4
        · obtain ⟨r, q1, e1, a1, a2, o1⟩ := rank_ex hq hw0 h4
          exact ⟨r, q1, by simp (disch := first | assumption | omega) [h4, e1, gd_ok, gr_ok], o1, a1, a2⟩
        · exact ⟨7 + (cs.length : Int), q, by simp (disch := first | assumption | omega) [h4, gd_ok, gr_ok], hq, by omega, by omega⟩
      obtain ⟨r, q1, er, o1, r0, r1⟩ := rk
      obtain ⟨i, p1, e1, a1, a2, o2⟩ := take_ex o1 (m := 6) (by decide) (by decide)
      obtain ⟨x, hx, hx2⟩ := pick6 (a := 0) (b := 1) (c := -1) (d := 1000000000000000000) (e := -1000000000000000000) (f := 3000000000000000000) a1 a2
      refine ⟨[some (.io q.o), some (.sh n), some (.sh (.int w)), some (.sh (.tuple [.int 0, .int 1, .int (-1), .int 1000000000000000000, .int (-1000000000000000000), .int 3000000000000000000])), some (.own (.lst (cs.map Card.d))), some (.sh (.int k)), s6], _, by simp [h5 _], .inl ?_, p1, cs ++ [⟨k, r, x⟩], some (.sh (.int k)), some (.sh (.int r)), rfl, o2, by simp [← hl], .sh _, .sh _, ?_⟩
      · have a0 : xAsg (xBin vAdd (xC (.int 7)) (xLenU 4)) (xN 6) [some (.io (Pot.o q)), some (.sh n), some (.sh (.int w)), some (.sh (.tuple [.int 0, .int 1, .int (-1), .int 1000000000000000000, .int (-1000000000000000000), .int 3000000000000000000])), some (.own (.lst (cs.map Card.d))), some (.sh (.int k)), s6] =
            .nx [some (.io (Pot.o q)), some (.sh n), some (.sh (.int w)), some (.sh (.tuple [.int 0, .int 1, .int (-1), .int 1000000000000000000, .int (-1000000000000000000), .int 3000000000000000000])), some (.own (.lst (cs.map Card.d))), some (.sh (.int k)), some (.sh (.int (7 + (cs.length : Int))))] := by
          simp (disch := first | assumption | omega) [gd_ok, gr_ok, h6 _]
        rw [U_law_cards_1, xSeq_at, a0, Ou.seq_nx, xSeq_at, er, Ou.seq_nx]
        simp (disch := first | assumption | omega | (simp only [List.length_map]; omega)) [gd_ok, gr_ok, e1, hx, Card.d]
      · intro c hc
        rcases List.mem_append.mp hc with hc | hc
        · exact hf c hc
        · rw [List.mem_singleton.mp hc]
          exact ⟨few_of (i := k) (by omega) (by omega), few_of (i := r) (by omega) (by omega), few_of (i := x) (by omega) (by omega)⟩)
    ms _ ⟨p, [], none, none, rfl, hp, rfl, .none, .none, fun c hc => by cases hc⟩
  exact ⟨q, cs, s5, s6, e, hq, by simpa using hl, hf⟩
theorem cards2_ex {p : Pot} (hp : p.Ok) {n : Int} (h0 : 0 ≤ n) (h1 : n ≤ 100) : ∃ (cs : List Card) (q : Pot), F_law_cards p.o [.int n] = .ok (.sh (csd cs)) q.o ∧ (cs.length : Int) = n ∧ q.Ok ∧ Rising (cs.map Card.k) ∧ ∀ c ∈ cs, c.Few := by
  obtain ⟨w, p1, e1, a1, a2, o1⟩ := take_ex hp (m := 5) (by decide) (by decide)
  obtain ⟨ms, p2, r, e2, rfl, hl, o2, rs, hb⟩ := keys_ex o1 h0 h1
  obtain ⟨q, cs, s5, s6, e, hq, hk, hf⟩ := cards_loop (n := .int n) a1 a2 ms (by omega) hb p2 o2
  refine ⟨cs, q, ?_, ?_, hq, by rw [hk]; exact rs, hf⟩
  · rw [F_law_cards_eq]
    have m3 : IntMulOk 3 1000000000000000000 := mulOk_l (by decide) (by decide)
    simp (disch := first | assumption | omega) [U_law_cards, e1, e2, gr_ok, gd_ok, e]
  · rw [← hl, ← hk, List.length_map]
theorem branching_ex {w : Int} (hw0 : 0 ≤ w) (hw1 : w < 4) : ∀ (n : Nat) (cs : List Card) (p : Pot), p.Ok → cs.length < n → cs.length ≤ 100 → ∃ (t : T) (q : Pot), F_law_branching n p.o [csd cs, .int w] = .ok (.sh t.d) q.o ∧ t.cards = cs ∧ q.Ok
  | 0, _, _, _, h, _ => by omega
  | n + 1, cs, p, hp, h, hl => by
    rw [F_law_branching_eq]
    by_cases h0 : cs = []
    · subst h0
      refine ⟨.nil, p, ?_, rfl, hp⟩
      simp [U_law_branching, gr_ok, T.d]
    · have hpos : 0 < cs.length := List.length_pos_iff.mpr h0
      have hne : ¬ (cs.length : Int) = 0 := by omega
      -- the place of the top
      have top : ∃ (i : Int) (p1 : Pot), 0 ≤ i ∧ i < cs.length ∧ p1.Ok ∧ xIf (xB (xBin vLt (xVar 2) (xC (.int 3)))) (xAsg (xBin vIx (xTup (xCons (xCallO F_law_take 0 (xCons (xLenU 1) xNil)) (xCons (xC (.int 0)) (xCons (xBin vSub (xLenU 1) (xC (.int 1))) xNil)))) (xVar 2)) (xN 3)) xNext [some (.io p.o), some (.sh (csd cs)), some (.sh (.int w)), some (.sh (.int ((cs.length : Int) / 2)))] =
          .nx [some (.io p1.o), some (.sh (csd cs)), some (.sh (.int w)), some (.sh (.int i))] := by
        by_cases h3 : w < 3
        · obtain ⟨i, p1, e1, a1, a2, o1⟩ := take_ex hp (m := cs.length) (by omega) (by omega)
          obtain ⟨x, hx, hx2⟩ : ∃ x, ixX [PyData.int i, .int 0, .int ((cs.length : Int) - 1)] w = some (.sh (.int x)) ∧ (x = i ∨ x = 0 ∨ x = (cs.length : Int) - 1) := by
            have : w = 0 ∨ w = 1 ∨ w = 2 := by omega
            rcases this with rfl | rfl | rfl
            · exact ⟨i, by simp, by simp⟩
            · exact ⟨0, by simp, by simp⟩
            · exact ⟨_, by simp; rfl, by simp⟩
          exact ⟨x, p1, by omega, by omega, o1, by simp (disch := first | assumption | omega) [h3, e1, hx, gd_ok, gr_ok, csd]⟩
        · exact ⟨(cs.length : Int) / 2, p, by omega, by omega, hp, by simp (disch := first | assumption | omega) [h3, gd_ok, gr_ok, csd]⟩
      obtain ⟨i, p1, a1, a2, o1, et⟩ := top
      obtain ⟨c, hc⟩ : ∃ c, cs[i.toNat]? = some c := ⟨cs[i.toNat]'(by omega), by simp⟩
      have ix := ixX_map (f := Card.d) a1 hc
      obtain ⟨l, p2, e2, cl, o2⟩ := branching_ex hw0 hw1 n (cs.take i.toNat) p1 o1 (by rw [List.length_take]; omega) (by rw [List.length_take]; omega)
      obtain ⟨r, p3, e3, cr, o3⟩ := branching_ex hw0 hw1 n (cs.drop (i.toNat + 1)) p2 o2 (by rw [List.length_drop]; omega) (by rw [List.length_drop]; omega)
      refine ⟨.node l c r, p3, ?_, ?_, o3⟩
      · have c1 := cut_to (cs := cs) (i := i) a1 (by omega)
        have c2 := cut_from (cs := cs) (i := i + 1) (by omega) (by omega)
        have t1 : (i + 1).toNat = i.toNat + 1 := by omega
        rw [t1] at c2
        have g1 : xIf (xB (xBin (vEq false) (xLenU 1) (xC (.int 0)))) (xRet (xTup xNil)) xNext [some (.io p.o), some (.sh (csd cs)), some (.sh (.int w)), none] = .nx [some (.io p.o), some (.sh (csd cs)), some (.sh (.int w)), none] := by
          simp (disch := first | assumption | omega) [csd, gd_ok, gr_ok, hne, h0]
        have d2 : CDiv (cs.length : Int) 2 := by unfold CDiv; decide
        have g2 : xAsg (xBin vDiv (xLenU 1) (xC (.int 2))) (xN 3) [some (.io p.o), some (.sh (csd cs)), some (.sh (.int w)), none] = .nx [some (.io p.o), some (.sh (csd cs)), some (.sh (.int w)), some (.sh (.int ((cs.length : Int) / 2)))] := by
          simp (disch := first | assumption | omega) [csd, gd_ok, gr_ok]
        rw [U_law_branching, xSeq_at, g1, Ou.seq_nx, xSeq_at, g2, Ou.seq_nx, xSeq_at, et, Ou.seq_nx]
        simp only [csd, List.map_take, List.map_drop] at e2 e3 c1 c2
        simp (disch := first | assumption | omega) [csd, ix, c1, c2, e2, e3, gr_ok, gd_ok, T.d]
      · rw [T.cards, cl, cr]
        exact take_cons_drop hc
theorem tree2_ex {p : Pot} (hp : p.Ok) {cs : List Card} (hl : cs.length < 70) : ∃ (t : T) (q : Pot), F_law_tree p.o [csd cs] = .ok (.sh t.d) q.o ∧ t.cards = cs ∧ q.Ok := by
  obtain ⟨w, p1, e1, a1, a2, o1⟩ := take_ex hp (m := 7) (by decide) (by decide)
  obtain ⟨x, hx, hx2⟩ : ∃ x, ixX [PyData.int 0, .int 0, .int 0, .int 0, .int 1, .int 2, .int 3] w = some (.sh (.int x)) ∧ (0 ≤ x ∧ x < 4) := by
    have : w = 0 ∨ w = 1 ∨ w = 2 ∨ w = 3 ∨ w = 4 ∨ w = 5 ∨ w = 6 := by omega
    rcases this with rfl | rfl | rfl | rfl | rfl | rfl | rfl <;> exact ⟨_, rfl, by decide⟩
  obtain ⟨t, q, e, hc, hq⟩ := branching_ex hx2.1 hx2.2 70 cs p1 o1 hl (by omega)
  refine ⟨t, q, ?_, hc, hq⟩
  rw [F_law_tree_eq]
  simp only [csd] at e
  simp (disch := first | assumption | omega) [U_law_tree, csd, e1, hx, e, gd_ok, gr_ok]
end PF
set_option Elab.async false
set_option linter.all false
set_option maxRecDepth 100000
namespace PF
open PySem L2 DL DX
end PF
set_option Elab.async false
set_option linter.all false
set_option maxRecDepth 100000
namespace PF
open PySem L2 DL DX
end PF
set_option Elab.async false
set_option linter.all false
set_option maxRecDepth 100000
namespace PF
open PySem L2 DL DX
end PF
set_option Elab.async false
set_option linter.all false
set_option maxRecDepth 100000
set_option maxHeartbeats 1000000
namespace PF
open PySem L2 DL DX
def T.isN : T → Bool
  | .nil => false
  | .node _ _ _ => true
def T.top : T → Int
  | .nil => 0
  | .node _ c _ => c.k
def own (k : Int) (l r : T) : List (List Int) := ([l, r].filter T.isN).map fun t => [k, t.top]
theorem vNe_t (t : T) : vEq true t.d (.tuple []) = some (.sh (.bool t.isN)) := by
  rw [vEq_lay' (T.lay _) Lay.tup0]
  cases t <;> simp [T.d, T.isN, PyData.eqv, PyData.eqvAll]
end PF
set_option Elab.async false
set_option linter.all false
set_option maxRecDepth 100000
namespace PF
open PySem L2 DL DX
def U_law_alike : XS :=
  (xRet (xAndV (xBin (vEq false) (xVar 0) (xVar 1)) (xBin vEqT (xBlt vStrB (xCons (xVar 0) xNil)) (xBlt vStrB (xCons (xVar 1) xNil)))))
def F_law_alike : Fn := runD 2 2 U_law_alike
theorem F_law_alike_eq (a0 a1 : PyData) : F_law_alike [a0, a1] = (U_law_alike [some (.sh a0), some (.sh a1)]).fin := runD_eq (m := 2) (n := 2) U_law_alike [a0, a1] _ rfl rfl
end PF
set_option Elab.async false
set_option linter.all false
set_option maxRecDepth 100000
set_option maxHeartbeats 1000000
namespace PF
open PySem L2 DL DX
structure Fit (B D : Nat) (d : PyData) : Prop where
  lay : d.canLay0 = true
  dep : d.depth ≤ D
  shw : d.showable = true
  nod : d.hasDict = false
  len : d.shown.length ≤ B
theorem fit_int {i : Int} (h : Few i) : Fit 101 1 (.int i) := by
  refine ⟨rfl, by simp [PyData.depth], ?_, rfl, ?_⟩
  · simp only [PyData.showable, decide_eq_true_eq]
    unfold Few at h
    by_cases h0 : i.natAbs = 0
    · rw [h0]; decide
    · exact (Nat.log2_lt h0).mpr (Nat.lt_of_lt_of_le h (by decide +kernel))
  · show (Str.ofString (toString i)).length ≤ 101
    have := int_text_length_le10 (by decide : 0 < 100) h
    rw [ofString_length]
    exact this
theorem Fit.up {B D B' D' : Nat} {d : PyData} (h : Fit B D d) (hb : B ≤ B') (hd : D ≤ D') : Fit B' D' d := ⟨h.lay, Nat.le_trans h.dep hd, h.shw, h.nod, Nat.le_trans h.len hb⟩
section
variable {B D : Nat}
theorem fit_all : ∀ xs : List PyData, (∀ x ∈ xs, Fit B D x) → PyData.canLayAll0 xs = true ∧ PyData.depthAll xs ≤ D ∧ PyData.showableAll xs = true ∧ PyData.hasDictAll xs = false ∧ ((PyData.shownAll xs).map (·.length)).sum ≤ B * xs.length ∧ (PyData.shownAll xs).length = xs.length
  | [], _ => ⟨rfl, by simp [PyData.depthAll], rfl, rfl, by simp [PyData.shownAll], rfl⟩
  | x :: xs, h => by
    obtain ⟨a, b, c, d, e, f⟩ := fit_all xs fun y hy => h y (.tail _ hy)
    have k := h x (.head _)
    refine ⟨by simp [PyData.canLayAll0, k.lay, a], ?_, by simp [PyData.showableAll, k.shw, c], by simp [PyData.hasDictAll, k.nod, d], ?_, by simp [PyData.shownAll, f]⟩
    · simp only [PyData.depthAll]
      have := k.dep
      omega
    · simp only [PyData.shownAll, List.map_cons, List.sum_cons, List.length_cons]
      have := k.len
      rw [Nat.mul_add]
      omega
theorem fit_list {xs : List PyData} (h : ∀ x ∈ xs, Fit B D x) : Fit ((B + 2) * xs.length + 3) (D + 1) (.list xs) := by
  obtain ⟨a, b, c, d, e, f⟩ := fit_all xs h
  refine ⟨by simp [PyData.canLay0, a], by simp only [PyData.depth]; omega, by simp [PyData.showable, c], by simp [PyData.hasDict, d], ?_⟩
  have := listText_len_le (PyData.shownAll xs)
  show (listText (PyData.shownAll xs)).length ≤ _
  rw [Nat.add_mul]
  omega
end
theorem alike_list {B D : Nat} {ds : List PyData} (h : Fit B D (.list ds)) (hB : B ≤ 1000000) (hD : D < 190) : F_law_alike [.list ds, .list ds] = .ok (.sh (.bool true)) () := by
  have rf : PyData.eqv (.list ds) (.list ds) = true := SeqAt.eqv_refl _ h.lay
  have v : vEq false (.list ds) (.list ds) = some (.sh (.bool true)) := by
    rw [vEq_lay ⟨h.lay, Nat.lt_of_le_of_lt h.dep (by omega)⟩ h.lay, rf]; rfl
  have s : strX (.list ds) = some (.sh (.str (PyData.list ds).shown)) := by
    unfold strX
    rw [gd_ok ⟨h.shw, h.nod, Nat.lt_of_le_of_lt h.dep hD, Nat.le_trans h.len hB⟩]
  rw [F_law_alike_eq]
  simp [U_law_alike, v, s]
theorem alike_tup {B D : Nat} {ds : List PyData} (h : Fit B D (.tuple ds)) (hB : B ≤ 1000000) (hD : D < 190) : F_law_alike [.tuple ds, .tuple ds] = .ok (.sh (.bool true)) () := by
  have rf : PyData.eqv (.tuple ds) (.tuple ds) = true := SeqAt.eqv_refl _ h.lay
  have v : vEq false (.tuple ds) (.tuple ds) = some (.sh (.bool true)) := by
    rw [vEq_lay ⟨h.lay, Nat.lt_of_le_of_lt h.dep (by omega)⟩ h.lay, rf]; rfl
  have s : strX (.tuple ds) = some (.sh (.str (PyData.tuple ds).shown)) := by
    unfold strX
    rw [gd_ok ⟨h.shw, h.nod, Nat.lt_of_le_of_lt h.dep hD, Nat.le_trans h.len hB⟩]
  rw [F_law_alike_eq]
  simp [U_law_alike, v, s]
end PF
set_option Elab.async false
set_option linter.all false
set_option maxRecDepth 100000
namespace PF
open PySem L2 DL DX
end PF
set_option Elab.async false
set_option linter.all false
set_option maxRecDepth 100000
namespace PF
open PySem L2 DL DX
end PF
set_option Elab.async false
set_option linter.all false
set_option maxRecDepth 100000
set_option maxHeartbeats 1000000
namespace PF
open PySem L2 DL DX
def upL (c : Card) (r : T) : T → T
  | .nil => .nil
  | .node a x b => .node a x (.node b c r)
def upR (l : T) (c : Card) : T → T
  | .nil => .nil
  | .node a x b => .node (.node l c a) x b
def T.turn (key : Int) : T → Option T
  | .nil => none
  | .node l c r =>
    if c.k = key then none
    else if key < c.k then (if l.isN = true ∧ l.top = key then some (upL c r l) else (l.turn key).map fun l' => .node l' c r)
    else (if r.isN = true ∧ r.top = key then some (upR l c r) else (r.turn key).map fun r' => .node l c r')
end PF
set_option Elab.async false
set_option linter.all false
set_option maxRecDepth 100000
set_option maxHeartbeats 1000000
namespace PF
open PySem L2 DL DX
theorem turn_cards {key : Int} : ∀ (t t' : T), t.turn key = some t' → t'.cards = t.cards
  | .nil, _, h => by simp [T.turn] at h
  | .node l c r, t', h => by
    rw [T.turn] at h
    split at h
    · cases h
    · split at h
      · split at h
        · next h3 =>
          cases h
          cases l with
          | nil => simp [T.isN] at h3
          | node a x b => simp [upL, T.cards]
        · cases e : l.turn key with
          | none => rw [e] at h; cases h
          | some l' => rw [e] at h; cases h; simp [T.cards, turn_cards l l' e]
      · split at h
        · next h3 =>
          cases h
          cases r with
          | nil => simp [T.isN] at h3
          | node a x b => simp [upR, T.cards]
        · cases e : r.turn key with
          | none => rw [e] at h; cases h
          | some l' => rw [e] at h; cases h; simp [T.cards, turn_cards r l' e]
def one (k : Int) (t : T) : List (List Int) := if t.isN then [[k, t.top]] else []
def new (S L : List (List Int)) : Nat := L.countP fun x => !S.contains x
theorem top_mem : ∀ t : T, t.isN = true → ∃ c ∈ t.cards, t.top = c.k
  | .node l c r, _ => ⟨c, by simp [T.cards], rfl⟩
end PF
set_option Elab.async false
set_option linter.all false
set_option maxRecDepth 100000
set_option maxHeartbeats 1000000
namespace PF
open PySem L2 DL DX
def ovr (a b : Card) : Bool := if a.r = b.r then decide (a.k < b.k) else decide (b.r < a.r)
def T.Heap : T → Prop
  | .nil => True
  | .node l c r => l.Heap ∧ r.Heap ∧ (∀ x ∈ l.cards, ovr x c = false) ∧ ∀ x ∈ r.cards, ovr x c = false
def T.split (key : Int) : T → T × T
  | .nil => (.nil, .nil)
  | .node l c r => if c.k < key then (.node l c (r.split key).1, (r.split key).2) else ((l.split key).1, .node (l.split key).2 c r)
def Rise (cs : List Card) : Prop := cs.Pairwise fun a b => a.k < b.k
theorem rise_of {cs : List Card} (h : Rising (cs.map Card.k)) : Rise cs := List.pairwise_map.mp h
theorem split_hi (key : Int) : ∀ t : T, (t.split key).1.hi ≤ t.hi ∧ (t.split key).2.hi ≤ t.hi
  | .nil => ⟨Nat.le_refl _, Nat.le_refl _⟩
  | .node l c r => by
    have h1 := split_hi key l
    have h2 := split_hi key r
    unfold T.split
    split <;> simp only [T.hi] <;> omega
theorem split_sub (key : Int) : ∀ t : T, (∀ x ∈ (t.split key).1.cards, x ∈ t.cards) ∧ ∀ x ∈ (t.split key).2.cards, x ∈ t.cards
  | .nil => ⟨fun x h => h, fun x h => h⟩
  | .node l c r => by
    obtain ⟨a1, a2⟩ := split_sub key l
    obtain ⟨b1, b2⟩ := split_sub key r
    unfold T.split
    split
    · refine ⟨fun x hx => ?_, fun x hx => ?_⟩
      · simp only [T.cards, List.mem_append, List.mem_cons] at hx ⊢
        rcases hx with hx | hx | hx
        · exact .inl hx
        · exact .inr (.inl hx)
        · exact .inr (.inr (b1 x hx))
      · simp only [T.cards, List.mem_append, List.mem_cons]
        exact .inr (.inr (b2 x hx))
    · refine ⟨fun x hx => ?_, fun x hx => ?_⟩
      · simp only [T.cards, List.mem_append, List.mem_cons]
        exact .inl (a1 x hx)
      · simp only [T.cards, List.mem_append, List.mem_cons] at hx ⊢
        rcases hx with hx | hx | hx
        · exact .inl (a2 x hx)
        · exact .inr (.inl hx)
        · exact .inr (.inr hx)
def T.sroad (key : Int) : T → List (Int × Bool)
  | .nil => []
  | .node l c r => if c.k < key then (c.k, true) :: r.sroad key else (c.k, false) :: l.sroad key
def chg : List (Int × Bool) → Nat
  | a :: b :: l => (if a.2 = b.2 then 0 else 1) + chg (b :: l)
  | _ => 0
def HasK (t : T) (k : Int) : Prop := ∃ c ∈ t.cards, c.k = k
theorem has_node {l r : T} {c : Card} {k : Int} : HasK (.node l c r) k ↔ HasK l k ∨ c.k = k ∨ HasK r k := by
  unfold HasK
  simp only [T.cards, List.mem_append, List.mem_cons]
  constructor
  · rintro ⟨x, (h | rfl | h), e⟩
    · exact .inl ⟨x, h, e⟩
    · exact .inr (.inl e)
    · exact .inr (.inr ⟨x, h, e⟩)
  · rintro (⟨x, h, e⟩ | e | ⟨x, h, e⟩)
    · exact ⟨x, .inl h, e⟩
    · exact ⟨c, .inr (.inl rfl), e⟩
    · exact ⟨x, .inr (.inr h), e⟩
structure Bst (l : T) (c : Card) (r : T) : Prop where
  rl : Rise l.cards
  rr : Rise r.cards
  lc : ∀ k, HasK l k → k < c.k
  cr : ∀ k, HasK r k → c.k < k
theorem bst_of {l r : T} {c : Card} (h : Rise (T.node l c r).cards) : Bst l c r := by
  simp only [T.cards] at h
  obtain ⟨n1, n2, n3⟩ := List.pairwise_append.mp h
  obtain ⟨n4, n5⟩ := List.pairwise_cons.mp n2
  exact ⟨n1, n5, fun k ⟨x, hx, e⟩ => by rw [← e]; exact n3 x hx c (by simp), fun k ⟨x, hx, e⟩ => by rw [← e]; exact n4 x hx⟩
end PF
set_option Elab.async false
set_option linter.all false
set_option maxRecDepth 100000
set_option maxHeartbeats 1000000
namespace PF
open PySem L2 DL DX
end PF
set_option Elab.async false
set_option linter.all false
set_option maxRecDepth 100000
set_option maxHeartbeats 1000000
namespace PF
open PySem L2 DL DX
def T.leafN (N : Card) : T → T
  | .nil => .node .nil N .nil
  | .node l c r => if N.k < c.k then .node (l.leafN N) c r else .node l c (r.leafN N)
abbrev T.n (key : Int) (t : T) : Nat := (t.sroad key).length
def T.up (N : Card) (m : Nat) : T → T
  | .nil => .node .nil N .nil
  | .node l c r => if c.k < N.k then (if m ≤ r.n N.k then .node l c (r.up N m) else upR l c (r.up N (r.n N.k))) else (if m ≤ l.n N.k then .node (l.up N m) c r else upL c r (l.up N (l.n N.k)))
def Out (N : Card) (t : T) : Prop := ∀ c ∈ t.cards, c.k ≠ N.k
theorem out_node {N : Card} {l r : T} {c : Card} (h : Out N (.node l c r)) : Out N l ∧ c.k ≠ N.k ∧ Out N r :=
  ⟨fun x hx => h x (by simp [T.cards, hx]), h c (by simp [T.cards]), fun x hx => h x (by simp [T.cards, hx])⟩
theorem n_node {key : Int} {l r : T} {c : Card} : (T.node l c r).n key = if c.k < key then r.n key + 1 else l.n key + 1 := by
  unfold T.n
  rw [T.sroad]
  split <;> simp
section
variable {N : Card}
theorem up_full : ∀ t : T, t.up N (t.n N.k) = .node (t.split N.k).1 N (t.split N.k).2
  | .nil => rfl
  | .node l c r => by
    have hl := up_full l
    have hr := up_full r
    rw [T.up, n_node, T.split]
    by_cases z : c.k < N.k
    · rw [if_pos z, if_pos z, if_pos z, if_neg (by omega), hr, upR]
    · rw [if_neg z, if_neg z, if_neg z, if_neg (by omega), hl, upL]
theorem up_zero : ∀ t : T, Out N t → t.up N 0 = t.leafN N
  | .nil, _ => rfl
  | .node l c r, h => by
    obtain ⟨h1, h2, h3⟩ := out_node h
    rw [T.up, T.leafN]
    by_cases z : c.k < N.k
    · rw [if_pos z, if_pos (Nat.zero_le _), if_neg (by omega), up_zero r h3]
    · rw [if_neg z, if_pos (Nat.zero_le _), if_pos (by omega), up_zero l h1]
theorem up_top : ∀ (t : T) (m : Nat), m ≤ t.n N.k → (t.up N m).isN = true ∧ (m < t.n N.k → (t.up N m).top = t.top) ∧ (m = t.n N.k → (t.up N m).top = N.k)
  | .nil, m, h => ⟨rfl, fun q => by simp [T.n, T.sroad] at q, fun _ => rfl⟩
  | .node l c r, m, h => by
    rw [n_node] at h ⊢
    refine ⟨?_, fun q => ?_, fun q => ?_⟩
    · rw [T.up]
      by_cases z : c.k < N.k
      · rw [if_pos z]
        split
        · rfl
        · rw [up_full, upR]; rfl
      · rw [if_neg z]
        split
        · rfl
        · rw [up_full, upL]; rfl
    · rw [T.up]
      by_cases z : c.k < N.k
      · rw [if_pos z] at q ⊢
        rw [if_pos (by omega)]; rfl
      · rw [if_neg z] at q ⊢
        rw [if_pos (by omega)]; rfl
    · rw [T.up]
      by_cases z : c.k < N.k
      · rw [if_pos z] at q ⊢
        rw [if_neg (by omega), up_full, upR]; rfl
      · rw [if_neg z] at q ⊢
        rw [if_neg (by omega), up_full, upL]; rfl
theorem up_turn : ∀ (t : T) (m : Nat), Out N t → m < t.n N.k → (t.up N m).turn N.k = some (t.up N (m + 1))
  | .nil, m, _, h => by simp [T.n, T.sroad] at h
  | .node l c r, m, ho, h => by
    obtain ⟨h1, h2, h3⟩ := out_node ho
    rw [n_node] at h
    rw [T.up, T.up]
    by_cases z : c.k < N.k
    · rw [if_pos z] at h
      rw [if_pos z, if_pos z, if_pos (by omega), T.turn, if_neg h2, if_neg (by omega)]
      obtain ⟨q1, q2, q3⟩ := up_top (N := N) r m (by omega)
      by_cases y : m = r.n N.k
      · rw [if_pos ⟨q1, q3 y⟩, if_neg (by omega), y]
      · have ne : ¬ ((r.up N m).isN = true ∧ (r.up N m).top = N.k) := fun w => by
          rw [q2 (by omega)] at w
          have rn : r.isN = true := by
            cases r with
            | nil => have e0 : T.nil.n N.k = 0 := rfl
                     rw [e0] at h y; omega
            | node _ _ _ => rfl
          obtain ⟨x, hx, e⟩ := top_mem r rn
          exact h3 x hx (by rw [← e]; exact w.2)
        rw [if_neg ne, up_turn r m h3 (by omega), if_pos (by omega)]
        rfl
    · rw [if_neg z] at h
      rw [if_neg z, if_neg z, if_pos (by omega), T.turn, if_neg h2, if_pos (by omega)]
      obtain ⟨q1, q2, q3⟩ := up_top (N := N) l m (by omega)
      by_cases y : m = l.n N.k
      · rw [if_pos ⟨q1, q3 y⟩, if_neg (by omega), y]
      · have ne : ¬ ((l.up N m).isN = true ∧ (l.up N m).top = N.k) := fun w => by
          rw [q2 (by omega)] at w
          have rn : l.isN = true := by
            cases l with
            | nil => have e0 : T.nil.n N.k = 0 := rfl
                     rw [e0] at h y; omega
            | node _ _ _ => rfl
          obtain ⟨x, hx, e⟩ := top_mem l rn
          exact h1 x hx (by rw [← e]; exact w.2)
        rw [if_neg ne, up_turn l m h1 (by omega), if_pos (by omega)]
        rfl
def T.nb (key : Int) (m : Nat) : T → Int
  | .nil => 0
  | .node l c r => if m = (T.node l c r).n key then c.k else if c.k < key then r.nb key m else l.nb key m
def T.part (key : Int) : T → T
  | .nil => .nil
  | .node l c r => if c.k = key then .node l c r else if key < c.k then l.part key else r.part key
theorem leaf_mem : ∀ (t : T) (x : Card), x ∈ (t.leafN N).cards ↔ x = N ∨ x ∈ t.cards
  | .nil, x => by simp [T.leafN, T.cards]
  | .node l c r, x => by
    rw [T.leafN]
    split
    · simp only [T.cards, List.mem_append, List.mem_cons, leaf_mem l x]
      constructor
      · rintro ((h | h) | h | h)
        · exact .inl h
        · exact .inr (.inl h)
        · exact .inr (.inr (.inl h))
        · exact .inr (.inr (.inr h))
      · rintro (h | h | h | h)
        · exact .inl (.inl h)
        · exact .inl (.inr h)
        · exact .inr (.inl h)
        · exact .inr (.inr h)
    · simp only [T.cards, List.mem_append, List.mem_cons, leaf_mem r x]
      constructor
      · rintro (h | h | h | h)
        · exact .inr (.inl h)
        · exact .inr (.inr (.inl h))
        · exact .inl h
        · exact .inr (.inr (.inr h))
      · rintro (h | h | h | h)
        · exact .inr (.inr (.inl h))
        · exact .inl h
        · exact .inr (.inl h)
        · exact .inr (.inr (.inr h))
theorem leaf_rise : ∀ t : T, Rise t.cards → Out N t → Rise (t.leafN N).cards
  | .nil, _, _ => by simp [T.leafN, T.cards, Rise]
  | .node l c r, h, ho => by
    obtain ⟨g1, g2, g3⟩ := out_node ho
    have b := bst_of h
    have hl := leaf_rise l b.rl g1
    have hr := leaf_rise r b.rr g3
    simp only [T.cards] at h
    obtain ⟨n1, n2, n3⟩ := List.pairwise_append.mp h
    obtain ⟨n4, n5⟩ := List.pairwise_cons.mp n2
    rw [T.leafN]
    by_cases z : N.k < c.k
    · rw [if_pos z]
      simp only [T.cards]
      refine List.pairwise_append.mpr ⟨hl, n2, fun x hx y hy => ?_⟩
      rcases (leaf_mem l x).mp hx with rfl | hx
      · rcases List.mem_cons.mp hy with rfl | hy
        · exact z
        · have := n4 y hy; omega
      · exact n3 x hx y hy
    · rw [if_neg z]
      simp only [T.cards]
      refine List.pairwise_append.mpr ⟨n1, List.pairwise_cons.mpr ⟨fun y hy => ?_, hr⟩, fun x hx y hy => ?_⟩
      · rcases (leaf_mem r y).mp hy with rfl | hy
        · omega
        · exact n4 y hy
      · rcases List.mem_cons.mp hy with rfl | hy
        · exact n3 x hx y (by simp)
        · have h1 := n3 x hx c (by simp)
          rcases (leaf_mem r y).mp hy with rfl | hy
          · omega
          · exact n3 x hx y (by simp [hy])
theorem up_cards {t : T} (ho : Out N t) : ∀ m, m ≤ t.n N.k → (t.up N m).cards = (t.leafN N).cards
  | 0, _ => by rw [up_zero t ho]
  | m + 1, h => by rw [turn_cards _ _ (up_turn t m ho (by omega)), up_cards ho m (by omega)]
end
end PF
set_option Elab.async false
set_option linter.all false
set_option maxRecDepth 100000
namespace PF
open PySem L2 DL DX
end PF
set_option Elab.async false
set_option linter.all false
set_option maxRecDepth 100000
namespace PF
open PySem L2 DL DX
end PF
set_option Elab.async false
set_option linter.all false
set_option maxRecDepth 100000
namespace PF
open PySem L2 DL DX
end PF
set_option Elab.async false
set_option linter.all false
set_option maxRecDepth 100000
namespace PF
open PySem L2 DL DX
end PF
set_option Elab.async false
set_option linter.all false
set_option maxRecDepth 100000
namespace PF
open PySem L2 DL DX
end PF
set_option Elab.async false
set_option linter.all false
set_option maxRecDepth 100000
namespace PF
open PySem L2 DL DX
end PF
set_option Elab.async false
set_option linter.all false
set_option maxRecDepth 100000
namespace PF
open PySem L2 DL DX
end PF
set_option Elab.async false
set_option linter.all false
set_option maxRecDepth 100000
namespace PF
open PySem L2 DL DX
end PF
set_option Elab.async false
set_option linter.all false
set_option maxRecDepth 100000
namespace PF
open PySem L2 DL DX
def U_road_1 : XT :=
  (xB (xBin (vEq true) (xVar 3) (xTup xNil)))
def U_road_2 : XS :=
  (xSeq (xAsg (xVar 3) (xT2 3 (xsCons (xN 4) (xsCons (xN 5) (xsCons (xN 6) xsNil)))))
    (xSeq (xExp (xMeth vAppend 2 (xCons (xIxU 5 (xC (.int 0))) xNil)))
    (xSeq (xIf (xB (xBin (vEq false) (xIxU 5 (xC (.int 0))) (xVar 1))) (xRet (xVar 2)) xNext)
    (xAsg (xIfE (xB (xBin vLt (xVar 1) (xIxU 5 (xC (.int 0))))) (xVar 4) (xVar 6)) (xN 3)))))
def U_road : XS :=
  (xSeq (xAsg (xLst xNil) (xN 2))
    (xSeq (xAsg (xVar 0) (xN 3))
    (xSeq (xWhile U_road_1 U_road_2)
    (xRet (xVar 2)))))
def F_road : Fn := runD 2 7 U_road
end PF
set_option Elab.async false
set_option linter.all false
set_option maxRecDepth 100000
namespace PF
open PySem L2 DL DX
end PF
set_option Elab.async false
set_option linter.all false
set_option maxRecDepth 100000
namespace PF
open PySem L2 DL DX
def U_holds : XS :=
  (xSeq (xAsg (xCall F_road (xCons (xVar 0) (xCons (xVar 1) xNil))) (xN 2))
    (xRet (xAndV (xBin vGt (xLenU 2) (xC (.int 0))) (xBin (vEq false) (xIxU 2 (xSh vNeg (xC (.int 1)))) (xVar 1)))))
def F_holds : Fn := runD 2 3 U_holds
end PF
set_option Elab.async false
set_option linter.all false
set_option maxRecDepth 100000
namespace PF
open PySem L2 DL DX
end PF
set_option Elab.async false
set_option linter.all false
set_option maxRecDepth 100000
namespace PF
open PySem L2 DL DX
end PF
set_option Elab.async false
set_option linter.all false
set_option maxRecDepth 100000
namespace PF
open PySem L2 DL DX
end PF
set_option Elab.async false
set_option linter.all false
set_option maxRecDepth 100000
namespace PF
open PySem L2 DL DX
end PF
set_option Elab.async false
set_option linter.all false
set_option maxRecDepth 100000
namespace PF
open PySem L2 DL DX
end PF
set_option Elab.async false
set_option linter.all false
set_option maxRecDepth 100000
namespace PF
open PySem L2 DL DX
end PF
set_option Elab.async false
set_option linter.all false
set_option maxRecDepth 100000
namespace PF
open PySem L2 DL DX
end PF
set_option Elab.async false
set_option linter.all false
set_option maxRecDepth 100000
namespace PF
open PySem L2 DL DX
end PF
set_option Elab.async false
set_option linter.all false
set_option maxRecDepth 100000
namespace PF
open PySem L2 DL DX
end PF
set_option Elab.async false
set_option linter.all false
set_option maxRecDepth 100000
namespace PF
open PySem L2 DL DX
def U_always_left_1 : XT :=
  (xB (xBin (vEq true) (xVar 0) (xTup xNil)))
def U_always_left_2 : XS :=
  (xSeq (xExp (xMeth vAppend 1 (xCons (xBin vIx (xIxU 0 (xC (.int 1))) (xC (.int 0))) xNil)))
    (xAsg (xIxU 0 (xC (.int 0))) (xN 0)))
end PF
set_option Elab.async false
set_option linter.all false
set_option maxRecDepth 100000
namespace PF
open PySem L2 DL DX
def U_always_right_1 : XT :=
  (xB (xBin (vEq true) (xVar 0) (xTup xNil)))
def U_always_right_2 : XS :=
  (xSeq (xExp (xMeth vAppend 1 (xCons (xBin vIx (xIxU 0 (xC (.int 1))) (xC (.int 0))) xNil)))
    (xAsg (xIxU 0 (xC (.int 2))) (xN 0)))
end PF
set_option Elab.async false
set_option linter.all false
set_option maxRecDepth 100000
namespace PF
open PySem L2 DL DX
end PF
set_option Elab.async false
set_option linter.all false
set_option maxRecDepth 100000
set_option maxHeartbeats 1000000
namespace PF
open PySem L2 DL DX
end PF
set_option Elab.async false
set_option linter.all false
set_option maxRecDepth 100000
set_option maxHeartbeats 1000000
namespace PF
open PySem L2 DL DX
end PF
set_option Elab.async false
set_option linter.all false
set_option maxRecDepth 100000
set_option maxHeartbeats 1000000
namespace PF
open PySem L2 DL DX
def T.road (key : Int) : T → List Int
  | .nil => []
  | .node l c r => if c.k = key then [c.k] else c.k :: (if key < c.k then l.road key else r.road key)
theorem has_side {key : Int} {l r : T} {c : Card} (b : Bst l c r) (h : HasK (.node l c r) key) (ne : c.k ≠ key) : (key < c.k → HasK l key) ∧ (¬ key < c.k → HasK r key) := by
  rcases has_node.mp h with h | h | h
  · exact ⟨fun _ => h, fun q => absurd (b.lc _ h) q⟩
  · exact absurd h ne
  · exact ⟨fun q => by have := b.cr _ h; omega, fun _ => h⟩
def SPt (t0 : PyData) (key : Int) (t : T) (s3 s4 s5 : Option R) : Rho := [some (.sh t0), some (.sh (.int key)), some (.sh t.d), s3, s4, s5]
end PF
set_option Elab.async false
set_option linter.all false
set_option maxRecDepth 100000
set_option maxHeartbeats 1000000
namespace PF
open PySem L2 DL DX
def T.rowL : T → List Int
  | .nil => []
  | .node l c _ => c.k :: l.rowL
def T.rowR : T → List Int
  | .nil => []
  | .node _ c r => c.k :: r.rowR
theorem al_loop : ∀ (f : Nat) (t : T) (acc : List Int), t.hi ≤ f → acc.length + f ≤ 1000 → whileX U_always_left_1 U_always_left_2 (f + 1) [some (.sh t.d), some (.own (.lst (acc.map .int)))] = .nx [some (.sh T.nil.d), some (.own (.lst ((acc ++ t.rowL).map .int)))] := by
  intro f
  induction f with
  | zero =>
    intro t acc hf hl
    cases t with
    | node l c r => simp [T.hi] at hf
    | nil =>
      have ne := vNe_t .nil
      rw [whileX_succ]
      simp [U_always_left_1, ne, T.isN, gr_ok, T.rowL]
  | succ f ih =>
    intro t acc hf hl
    cases t with
    | nil =>
      have ne := vNe_t .nil
      rw [whileX_succ]
      simp [U_always_left_1, ne, T.isN, gr_ok, T.rowL]
    | node l c r =>
      simp only [T.hi] at hf
      have ne := vNe_t (.node l c r)
      have test : U_always_left_1 [some (.sh (T.node l c r).d), some (.own (.lst (acc.map .int)))] = .ok true [some (.sh (T.node l c r).d), some (.own (.lst (acc.map .int)))] := by
        simp [U_always_left_1, ne, T.isN, gr_ok]
      have body : U_always_left_2 [some (.sh (T.node l c r).d), some (.own (.lst (acc.map .int)))] = .nx [some (.sh l.d), some (.own (.lst ((acc ++ [c.k]).map .int)))] := by
        simp (disch := first | assumption | omega | (simp only [List.length_map]; omega)) [U_always_left_2, T.d, Card.d, gd_ok]
      rw [whileX_succ, test]
      simp only [Re.to_ok, iteX_true]
      rw [body, Ou.loop_nx, ih l (acc ++ [c.k]) (by omega) (by simp; omega), T.rowL]
      simp
theorem ar_loop : ∀ (f : Nat) (t : T) (acc : List Int), t.hi ≤ f → acc.length + f ≤ 1000 → whileX U_always_right_1 U_always_right_2 (f + 1) [some (.sh t.d), some (.own (.lst (acc.map .int)))] = .nx [some (.sh T.nil.d), some (.own (.lst ((acc ++ t.rowR).map .int)))] := by
  intro f
  induction f with
  | zero =>
    intro t acc hf hl
    cases t with
    | node l c r => simp [T.hi] at hf
    | nil =>
      have ne := vNe_t .nil
      rw [whileX_succ]
      simp [U_always_right_1, ne, T.isN, gr_ok, T.rowR]
  | succ f ih =>
    intro t acc hf hl
    cases t with
    | nil =>
      have ne := vNe_t .nil
      rw [whileX_succ]
      simp [U_always_right_1, ne, T.isN, gr_ok, T.rowR]
    | node l c r =>
      simp only [T.hi] at hf
      have ne := vNe_t (.node l c r)
      have test : U_always_right_1 [some (.sh (T.node l c r).d), some (.own (.lst (acc.map .int)))] = .ok true [some (.sh (T.node l c r).d), some (.own (.lst (acc.map .int)))] := by
        simp [U_always_right_1, ne, T.isN, gr_ok]
      have body : U_always_right_2 [some (.sh (T.node l c r).d), some (.own (.lst (acc.map .int)))] = .nx [some (.sh r.d), some (.own (.lst ((acc ++ [c.k]).map .int)))] := by
        simp (disch := first | assumption | omega | (simp only [List.length_map]; omega)) [U_always_right_2, T.d, Card.d, gd_ok]
      rw [whileX_succ, test]
      simp only [Re.to_ok, iteX_true]
      rw [body, Ou.loop_nx, ih r (acc ++ [c.k]) (by omega) (by simp; omega), T.rowR]
      simp
theorem part_hi {key : Int} : ∀ t : T, (t.part key).hi ≤ t.hi
  | .nil => Nat.le_refl _
  | .node l c r => by
    have h1 := part_hi (key := key) l
    have h2 := part_hi (key := key) r
    rw [T.part]
    split
    · exact Nat.le_refl _
    · split
      · rw [T.hi]; omega
      · rw [T.hi]; omega
end PF
set_option Elab.async false
set_option linter.all false
set_option maxRecDepth 100000
set_option maxHeartbeats 1000000
namespace PF
open PySem L2 DL DX
section
variable {N : Card}
structure PutOk (N : Card) (t : T) : Prop where
  len : t.cards.length ≤ 63
  rise : Rise t.cards
  out : Out N t
  rank : ∀ c ∈ t.cards, c.r < N.r
theorem PutOk.up {t : T} (p : PutOk N t) {m : Nat} (hm : m ≤ t.n N.k) : (t.up N m).hi < 70 ∧ Rise (t.up N m).cards ∧ HasK (t.up N m) N.k ∧ (∀ c ∈ (t.up N m).cards, c.k ≠ N.k → c.r < N.r) ∧ ∀ k, HasK t k → HasK (t.up N m) k := by
  have ec := up_cards p.out m hm
  have ll : (t.leafN N).cards.length = t.cards.length + 1 := by
    have : ∀ t : T, (t.leafN N).cards.length = t.cards.length + 1 := fun t => by
      induction t with
      | nil => rfl
      | node l c r ih1 ih2 =>
        rw [T.leafN]
        split
        · simp [T.cards, ih1]; omega
        · simp [T.cards, ih2]; omega
    exact this t
  have hh := T.hi_len (t.up N m)
  have pl := p.len
  rw [ec] at hh
  refine ⟨by omega, by rw [ec]; exact leaf_rise t p.rise p.out, ?_, fun c hc hn => ?_, fun k ⟨c, hc, e⟩ => ?_⟩
  · exact ⟨N, by rw [ec]; exact (leaf_mem t N).mpr (.inl rfl), rfl⟩
  · rw [ec] at hc
    rcases (leaf_mem t c).mp hc with rfl | hc
    · exact absurd rfl hn
    · exact p.rank c hc
  · exact ⟨c, by rw [ec]; exact (leaf_mem t c).mpr (.inr hc), e⟩
end
end PF
set_option Elab.async false
set_option linter.all false
set_option maxRecDepth 100000
set_option maxHeartbeats 1000000
namespace PF
open PySem L2 DL DX
section
variable {N : Card}
end
end PF
set_option Elab.async false
set_option linter.all false
set_option maxRecDepth 100000
set_option maxHeartbeats 1000000
namespace PF
open PySem L2 DL DX
theorem part_len {key : Int} : ∀ t : T, (t.part key).cards.length ≤ t.cards.length
  | .nil => Nat.le_refl _
  | .node l c r => by
    have h1 := part_len (key := key) l
    have h2 := part_len (key := key) r
    rw [T.part]
    split
    · exact Nat.le_refl _
    · split <;> simp only [T.cards, List.length_append, List.length_cons] <;> omega
section
variable {N : Card}
theorem leaf_len : ∀ t : T, (t.leafN N).cards.length = t.cards.length + 1
  | .nil => rfl
  | .node l c r => by
    rw [T.leafN]
    split
    · simp [T.cards, leaf_len l]; omega
    · simp [T.cards, leaf_len r]; omega
end
end PF
set_option Elab.async false
set_option linter.all false
set_option maxRecDepth 100000
set_option maxHeartbeats 1000000
namespace PF
open PySem L2 DL DX
def T.pot (t : T) : Nat := 2 * t.cards.length - t.rowR.length
end PF
set_option Elab.async false
set_option linter.all false
set_option maxRecDepth 100000
namespace PF
open PySem L2 DL DX
end PF
set_option Elab.async false
set_option linter.all false
set_option maxRecDepth 100000
namespace PF
open PySem L2 DL DX
end PF
set_option Elab.async false
set_option linter.all false
set_option maxRecDepth 100000
namespace PF
open PySem L2 DL DX
end PF
set_option Elab.async false
set_option linter.all false
set_option maxRecDepth 100000
namespace PF
open PySem L2 DL DX
end PF
set_option Elab.async false
set_option linter.all false
set_option maxRecDepth 100000
namespace PF
open PySem L2 DL DX
end PF
set_option Elab.async false
set_option linter.all false
set_option maxRecDepth 100000
namespace PF
open PySem L2 DL DX
end PF
set_option Elab.async false
set_option linter.all false
set_option maxRecDepth 100000
namespace PF
open PySem L2 DL DX
end PF
set_option Elab.async false
set_option linter.all false
set_option maxRecDepth 100000
namespace PF
open PySem L2 DL DX
end PF
set_option Elab.async false
set_option linter.all false
set_option maxRecDepth 100000
namespace PF
open PySem L2 DL DX
end PF
set_option Elab.async false
set_option linter.all false
set_option maxRecDepth 100000
namespace PF
open PySem L2 DL DX
end PF
set_option Elab.async false
set_option linter.all false
set_option maxRecDepth 100000
namespace PF
open PySem L2 DL DX
end PF
set_option Elab.async false
set_option linter.all false
set_option maxRecDepth 100000
set_option maxHeartbeats 1000000
namespace PF
open PySem L2 DL DX
end PF
set_option Elab.async false
set_option linter.all false
set_option maxRecDepth 100000
namespace PF
open PySem L2 DL DX
def U_part_at_v2_1 : XT :=
  (xB (xBin (vEq true) (xVar 2) (xTup xNil)))
def U_part_at_v2_2 : XS :=
  (xSeq (xAsg (xVar 2) (xT2 3 (xsCons (xN 3) (xsCons (xN 4) (xsCons (xN 5) xsNil)))))
    (xSeq (xIf (xB (xBin (vEq false) (xIxU 4 (xC (.int 0))) (xVar 1))) (xRet (xVar 2)) xNext)
    (xAsg (xIfE (xB (xBin vLt (xVar 1) (xIxU 4 (xC (.int 0))))) (xVar 3) (xVar 5)) (xN 2))))
def U_part_at_v2 : XS :=
  (xSeq (xCl (xAsg (xVar 0) (xN 2)))
    (xSeq (xCl (xWhile U_part_at_v2_1 U_part_at_v2_2))
    (xRaise "NoKey" "key" (xVar 1))))
def F_part_at_v2 : Fn := runD 2 6 U_part_at_v2
theorem F_part_at_v2_eq (a0 a1 : PyData) : F_part_at_v2 [a0, a1] = (U_part_at_v2 [some (.sh a0), some (.sh a1), none, none, none, none]).fin := runD_eq (m := 2) (n := 6) U_part_at_v2 [a0, a1] _ rfl rfl
end PF
set_option Elab.async false
set_option linter.all false
set_option maxRecDepth 100000
namespace PF
open PySem L2 DL DX
end PF
set_option Elab.async false
set_option linter.all false
set_option maxRecDepth 100000
namespace PF
open PySem L2 DL DX
end PF
set_option Elab.async false
set_option linter.all false
set_option maxRecDepth 100000
namespace PF
open PySem L2 DL DX
end PF
set_option Elab.async false
set_option linter.all false
set_option maxRecDepth 100000
namespace PF
open PySem L2 DL DX
end PF
set_option Elab.async false
set_option linter.all false
set_option maxRecDepth 100000
namespace PF
open PySem L2 DL DX
end PF
set_option Elab.async false
set_option linter.all false
set_option maxRecDepth 100000
namespace PF
open PySem L2 DL DX
end PF
set_option Elab.async false
set_option linter.all false
set_option maxRecDepth 100000
namespace PF
open PySem L2 DL DX
end PF
set_option Elab.async false
set_option linter.all false
set_option maxRecDepth 100000
set_option maxHeartbeats 1000000
namespace PF
open PySem L2 DL DX
theorem part2_loop {t0 : PyData} {key : Int} : ∀ (f : Nat) (t : T) (s3 s4 s5 : Option R), t.hi ≤ f → NIo s3 → NIo s4 → NIo s5 →
    ((t.part key).isN = true → ∃ ρ, whileX U_part_at_v2_1 U_part_at_v2_2 (f + 1) (SPt t0 key t s3 s4 s5) = .rt (.sh (t.part key).d) ρ) ∧ ((t.part key).isN = false → ∃ t3 t4 t5, whileX U_part_at_v2_1 U_part_at_v2_2 (f + 1) (SPt t0 key t s3 s4 s5) = .nx (SPt t0 key .nil t3 t4 t5)) := by
  intro f
  induction f with
  | zero =>
    intro t s3 s4 s5 hf h3 h4 h5
    cases t with
    | node l c r => simp [T.hi] at hf
    | nil =>
      refine ⟨fun hp => (by cases hp), fun _ => ⟨s3, s4, s5, ?_⟩⟩
      have ne := vNe_t .nil
      rw [whileX_succ]
      simp [SPt, U_part_at_v2_1, ne, T.isN, gr_ok]
  | succ f ih =>
    intro t s3 s4 s5 hf h3 h4 h5
    cases t with
    | nil =>
      refine ⟨fun hp => (by cases hp), fun _ => ⟨s3, s4, s5, ?_⟩⟩
      have ne := vNe_t .nil
      rw [whileX_succ]
      simp [SPt, U_part_at_v2_1, ne, T.isN, gr_ok]
    | node l c r =>
      simp only [T.hi] at hf
      have ne := vNe_t (.node l c r)
      have test : U_part_at_v2_1 (SPt t0 key (.node l c r) s3 s4 s5) = .ok true (SPt t0 key (.node l c r) s3 s4 s5) := by
        simp [SPt, U_part_at_v2_1, ne, T.isN, gr_ok]
      rw [whileX_succ, test]
      simp only [Re.to_ok, iteX_true]
      rw [T.part]
      by_cases e : c.k = key
      · have body : ∃ ρ, U_part_at_v2_2 (SPt t0 key (.node l c r) s3 s4 s5) = .rt (.sh (T.node l c r).d) ρ := by
          subst e
          exact ⟨_, by simp [SPt, U_part_at_v2_2, T.d, Card.d, h3 _, h4 _, h5 _]; rfl⟩
        obtain ⟨ρ, body⟩ := body
        rw [if_pos e, body, Ou.loop_rt]
        exact ⟨fun _ => ⟨ρ, rfl⟩, fun hp => by cases hp⟩
      · rw [if_neg e]
        by_cases z : key < c.k
        · have body : U_part_at_v2_2 (SPt t0 key (.node l c r) s3 s4 s5) = .nx (SPt t0 key l (some (.sh l.d)) (some (.sh c.d)) (some (.sh r.d))) := by
            simp [SPt, U_part_at_v2_2, T.d, Card.d, h3 _, h4 _, h5 _, e, z]
          rw [if_pos z, body, Ou.loop_nx]
          exact ih l _ _ _ (by omega) (.sh _) (.sh _) (.sh _)
        · have body : U_part_at_v2_2 (SPt t0 key (.node l c r) s3 s4 s5) = .nx (SPt t0 key r (some (.sh l.d)) (some (.sh c.d)) (some (.sh r.d))) := by
            simp [SPt, U_part_at_v2_2, T.d, Card.d, h3 _, h4 _, h5 _, e, z]
          rw [if_neg z, body, Ou.loop_nx]
          exact ih r _ _ _ (by omega) (.sh _) (.sh _) (.sh _)
theorem part2_eq {t : T} {key : Int} (h : t.hi ≤ 100) (hp : (t.part key).isN = true) : F_part_at_v2 [t.d, .int key] = .ok (.sh (t.part key).d) () := by
  rw [F_part_at_v2_eq]
  obtain ⟨ρ, e⟩ := (part2_loop (t0 := t.d) (key := key) 100 t none none none h .none .none .none).1 hp
  have w := xWhile_eq (t := U_part_at_v2_1) (b := U_part_at_v2_2) 101 (by decide) e (by intro z; cases z)
  simp only [SPt] at w
  simp [U_part_at_v2, w]
theorem part2_ex {t : T} {key : Int} (h : t.hi ≤ 100) (hp : (t.part key).isN = false) : F_part_at_v2 [t.d, .int key] = .ex ⟨"NoKey", [.str "key", .int key]⟩ () := by
  rw [F_part_at_v2_eq]
  obtain ⟨t3, t4, t5, e⟩ := (part2_loop (t0 := t.d) (key := key) 100 t none none none h .none .none .none).2 hp
  have w := xWhile_eq (t := U_part_at_v2_1) (b := U_part_at_v2_2) 101 (by decide) e (by intro z; cases z)
  simp only [SPt] at w
  simp [U_part_at_v2, w, xRaise, R.dat]
structure Put (N : Card) (u : T) : Prop where
  len : u.cards.length ≤ 63
  rise : Rise u.cards
  out : Out N u
  heap : u.Heap
section
variable {N : Card} {u : T}
theorem Put.hi (p : Put N u) {m : Nat} (hm : m ≤ u.n N.k) : (u.up N m).hi ≤ 64 := by
  have h := T.hi_len (u.up N m)
  have l := p.len
  rw [up_cards p.out m hm, leaf_len] at h
  omega
def dns (N : Card) (u : T) (s : Nat) : Nat → List Int
  | 0 => []
  | m + 1 => if s ≤ m then u.nb N.k (m + 1) :: dns N u s m else []
def way (N : Card) (u : T) (m s : Nat) : List Int := List.replicate (s - m) N.k ++ dns N u s m
end
end PF
set_option Elab.async false
set_option linter.all false
set_option maxRecDepth 100000
namespace PF
open PySem L2 DL DX
end PF
set_option Elab.async false
set_option linter.all false
set_option maxRecDepth 100000
namespace PF
open PySem L2 DL DX
end PF
set_option Elab.async false
set_option linter.all false
set_option maxRecDepth 100000
namespace PF
open PySem L2 DL DX
def U_law_strange_1 : XT :=
  (xAnd (xB (xBin (vIn false) (xVar 3) (xVar 1))) (xB (xBin vLt (xVar 4) (xC (.int 65)))))
def U_law_strange_2 : XS :=
  (xSeq (xAsg (xBin vAdd (xVar 3) (xC (.int 1))) (xN 3))
    (xAsg (xBin vAdd (xVar 4) (xC (.int 1))) (xN 4)))
def U_law_strange : XS :=
  (xSeq (xAsg (xCallO F_law_take 0 (xCons (xC (.int 5)) xNil)) (xN 2))
    (xSeq (xAsg (xBin vIx (xTup (xCons (xSh vNeg (xC (.int 1))) (xCons (xBin vAdd (xBin vPow (xC (.int 10)) (xC (.int 18))) (xC (.int 1))) (xCons (xBin vSub (xBin vPow (xC (.int 10)) (xC (.int 60))) (xC (.int 1))) (xCons (xBin vSub (xC (.int 1)) (xBin vPow (xC (.int 10)) (xC (.int 60)))) (xCons (xC (.int 3)) xNil)))))) (xVar 2)) (xN 3))
    (xSeq (xIf (xAnd (xB (xBin (vEq false) (xVar 2) (xC (.int 4)))) (xB (xBin (vEq true) (xVar 1) (xLst xNil)))) (xAsg (xBin vAdd (xIxU 1 (xCallO F_law_take 0 (xCons (xLenU 1) xNil))) (xC (.int 1))) (xN 3)) xNext)
    (xSeq (xAsg (xC (.int 0)) (xN 4))
    (xSeq (xWhile U_law_strange_1 U_law_strange_2)
    (xRet (xVar 3)))))))
def F_law_strange : Fp := runP 2 5 U_law_strange
theorem F_law_strange_eq (a0 : OO) (a1 : PyData) : F_law_strange a0 [a1] = (U_law_strange [some (.io a0), some (.sh a1), none, none, none]).finP := runP_eq (m := 2) (n := 5) U_law_strange a0 [a1] _ rfl rfl
end PF
set_option Elab.async false
set_option linter.all false
set_option maxRecDepth 100000
namespace PF
open PySem L2 DL DX
end PF
set_option Elab.async false
set_option linter.all false
set_option maxRecDepth 100000
set_option maxHeartbeats 1000000
namespace PF
open PySem L2 DL DX
theorem in_ints (neg : Bool) (ks : List Int) (k : Int) : DX.inV neg (.int k) (ks.map .int) = some (.sh (.bool (if neg then !decide (k ∈ ks) else decide (k ∈ ks)))) := by
  unfold DX.inV
  have h1 : PyData.canLayAll0 (ks.map PyData.int) = true := canLayAll_map (fun _ => rfl) ks
  rw [gd_ok ⟨rfl, h1, by simp [PyData.depth]⟩]
  have : ((ks.map PyData.int).any fun y => PyData.eqv y (.int k)) = decide (k ∈ ks) := by
    induction ks with
    | nil => rfl
    | cons a ks ih =>
      rw [List.map_cons, List.any_cons, ih (canLayAll_map (fun _ => rfl) ks)]
      by_cases e : a = k
      · subst e; simp [PyData.eqv]
      · have e' : ¬ k = a := fun q => e q.symm
        simp [PyData.eqv, e, e']
  rw [this]
theorem ne_ints {ks : List Int} : vEq true (.list (ks.map .int)) (.list []) = some (.sh (.bool (!decide (ks = [])))) := by
  rw [vEq_lay (Lay.ints ks) rfl]
  cases ks <;> simp [PyData.eqv, PyData.eqvAll]
end PF
set_option Elab.async false
set_option linter.all false
set_option maxRecDepth 100000
set_option maxHeartbeats 1000000
namespace PF
open PySem L2 DL DX
end PF
set_option Elab.async false
set_option linter.all false
set_option maxRecDepth 100000
namespace PF
open PySem L2 DL DX
end PF
set_option Elab.async false
set_option linter.all false
set_option maxRecDepth 100000
namespace PF
open PySem L2 DL DX
end PF
set_option Elab.async false
set_option linter.all false
set_option maxRecDepth 100000
namespace PF
open PySem L2 DL DX
end PF
set_option Elab.async false
set_option linter.all false
set_option maxRecDepth 100000
namespace PF
open PySem L2 DL DX
end PF
set_option Elab.async false
set_option linter.all false
set_option maxRecDepth 100000
namespace PF
open PySem L2 DL DX
end PF
set_option Elab.async false
set_option linter.all false
set_option maxRecDepth 100000
namespace PF
open PySem L2 DL DX
end PF
set_option Elab.async false
set_option linter.all false
set_option maxRecDepth 100000
namespace PF
open PySem L2 DL DX
end PF
set_option Elab.async false
set_option linter.all false
set_option maxRecDepth 100000
namespace PF
open PySem L2 DL DX
end PF
set_option Elab.async false
set_option linter.all false
set_option maxRecDepth 100000
namespace PF
open PySem L2 DL DX
end PF
set_option Elab.async false
set_option linter.all false
set_option maxRecDepth 100000
namespace PF
open PySem L2 DL DX
end PF
set_option Elab.async false
set_option linter.all false
set_option maxRecDepth 100000
set_option maxHeartbeats 1000000
namespace PF
open PySem L2 DL DX
section
variable {N : Card} {u : T}
end
end PF
set_option Elab.async false
set_option linter.all false
set_option maxRecDepth 100000
set_option maxHeartbeats 1000000
namespace PF
open PySem L2 DL DX
section
variable {N : Card} {u : T}
end
end PF
set_option Elab.async false
set_option linter.all false
set_option maxRecDepth 100000
set_option maxHeartbeats 1000000
namespace PF
open PySem L2 DL DX
end PF
set_option Elab.async false
set_option linter.all false
set_option maxRecDepth 100000
namespace PF
open PySem L2 DL DX
end PF
set_option Elab.async false
set_option linter.all false
set_option maxRecDepth 100000
namespace PF
open PySem L2 DL DX
end PF
set_option Elab.async false
set_option linter.all false
set_option maxRecDepth 100000
namespace PF
open PySem L2 DL DX
end PF
set_option Elab.async false
set_option linter.all false
set_option maxRecDepth 100000
namespace PF
open PySem L2 DL DX
end PF
set_option Elab.async false
set_option linter.all false
set_option maxRecDepth 100000
set_option maxHeartbeats 1000000
namespace PF
open PySem L2 DL DX
def isR (ns : List Int) : Prop := ns.Nodup ∧ ∀ i ∈ ns, 0 ≤ i ∧ i < ns.length
instance (ns : List Int) : Decidable (isR ns) := inferInstanceAs (Decidable (_ ∧ _))
end PF
set_option Elab.async false
set_option linter.all false
set_option maxRecDepth 100000
namespace PF
open PySem L2 DL DX
def U_law_down_1 : XT :=
  (xB (xBin (vEq true) (xVar 0) (xTup xNil)))
def U_law_down_2 : XS :=
  (xSeq (xExp (xMeth vAppend 2 (xCons (xBin vIx (xIxU 0 (xC (.int 1))) (xC (.int 0))) xNil)))
    (xAsg (xIxU 0 (xVar 1)) (xN 0)))
def U_law_down : XS :=
  (xSeq (xAsg (xLst xNil) (xN 2))
    (xSeq (xWhile U_law_down_1 U_law_down_2)
    (xRet (xVar 2))))
def F_law_down : Fn := runD 2 3 U_law_down
theorem F_law_down_eq (a0 a1 : PyData) : F_law_down [a0, a1] = (U_law_down [some (.sh a0), some (.sh a1), none]).fin := runD_eq (m := 2) (n := 3) U_law_down [a0, a1] _ rfl rfl
end PF
set_option Elab.async false
set_option linter.all false
set_option maxRecDepth 100000
namespace PF
open PySem L2 DL DX
def U_law_part_v2_1 : XT :=
  (xB (xBin (vEq true) (xBin vIx (xIxU 0 (xC (.int 1))) (xC (.int 0))) (xVar 1)))
def U_law_part_v2_2 : XS :=
  (xAsg (xIxU 0 (xBin vIx (xTup (xCons (xC (.int 0)) (xCons (xC (.int 2)) xNil))) (xBlt vInt (xCons (xBin vGt (xVar 1) (xBin vIx (xIxU 0 (xC (.int 1))) (xC (.int 0)))) xNil)))) (xN 0))
def U_law_part_v2 : XS :=
  (xSeq (xWhile U_law_part_v2_1 U_law_part_v2_2)
    (xRet (xVar 0)))
def F_law_part_v2 : Fn := runD 2 2 U_law_part_v2
theorem F_law_part_v2_eq (a0 a1 : PyData) : F_law_part_v2 [a0, a1] = (U_law_part_v2 [some (.sh a0), some (.sh a1)]).fin := runD_eq (m := 2) (n := 2) U_law_part_v2 [a0, a1] _ rfl rfl
end PF
set_option Elab.async false
set_option linter.all false
set_option maxRecDepth 100000
namespace PF
open PySem L2 DL DX
def U_law_row (self : Fn) : XS :=
  (xSeq (xIf (xB (xBin (vEq false) (xVar 0) (xTup xNil))) (xRet (xLst xNil)) xNext)
    (xRet (xBin vAdd (xBin vAdd (xCall self (xCons (xIxU 0 (xC (.int 0))) xNil)) (xLst (xCons (xIxU 0 (xC (.int 1))) xNil))) (xCall self (xCons (xIxU 0 (xC (.int 2))) xNil)))))
def F_law_row : Nat → Fn
  | 0 => fun _ => .bad
  | n + 1 => runD 1 1 (U_law_row (F_law_row n))
theorem F_law_row_eq (n : Nat) (a0 : PyData) : (F_law_row (n + 1)) [a0] = ((U_law_row (F_law_row n)) [some (.sh a0)]).fin := runD_eq (m := 1) (n := 1) (U_law_row (F_law_row n)) [a0] _ rfl rfl
end PF
set_option Elab.async false
set_option linter.all false
set_option maxRecDepth 100000
namespace PF
open PySem L2 DL DX
end PF
set_option Elab.async false
set_option linter.all false
set_option maxRecDepth 100000
namespace PF
open PySem L2 DL DX
end PF
set_option Elab.async false
set_option linter.all false
set_option maxRecDepth 100000
set_option maxHeartbeats 1000000
namespace PF
open PySem L2 DL DX
theorem row18_eq : ∀ (n : Nat) (t : T), t.hi < n → t.cards.length ≤ 1000 → F_law_row n [t.d] = .ok (.own (.lst (t.cards.map Card.d))) ()
  | 0, _, h, _ => by omega
  | n + 1, .nil, h, hl => by
    rw [F_law_row_eq]
    have e := vEq_nil
    simp only [T.d] at e
    simp [U_law_row, T.d, e, T.cards, gr_ok]
  | n + 1, .node l c r, h, hl => by
    rw [F_law_row_eq]
    simp only [T.hi] at h
    simp only [T.cards, List.length_append, List.length_cons] at hl
    have i1 := row18_eq n l (by omega) (by omega)
    have i2 := row18_eq n r (by omega) (by omega)
    have e := vEq_node l c r
    simp only [T.d] at e
    simp (disch := first | assumption | omega | (simp only [List.length_append, List.length_map, List.length_cons, List.length_nil]; omega)) [U_law_row, T.d, e, T.cards, gr_ok, gd_ok, i1, i2]
theorem down0_loop : ∀ (f : Nat) (t : T) (acc : List Int), t.hi ≤ f → acc.length + f ≤ 1000 → whileX U_law_down_1 U_law_down_2 (f + 1) [some (.sh t.d), some (.sh (.int 0)), some (.own (.lst (acc.map .int)))] = .nx [some (.sh T.nil.d), some (.sh (.int 0)), some (.own (.lst ((acc ++ t.rowL).map .int)))]
  | f, .nil, acc, hf, hl => by
    have ne := vNe_t .nil
    rw [whileX_succ]
    simp [U_law_down_1, ne, T.isN, gr_ok, T.rowL]
  | 0, .node l c r, acc, hf, hl => by simp [T.hi] at hf
  | f + 1, .node l c r, acc, hf, hl => by
    simp only [T.hi] at hf
    have ne := vNe_t (.node l c r)
    have test : U_law_down_1 [some (.sh (T.node l c r).d), some (.sh (.int 0)), some (.own (.lst (acc.map .int)))] = .ok true [some (.sh (T.node l c r).d), some (.sh (.int 0)), some (.own (.lst (acc.map .int)))] := by
      simp [U_law_down_1, ne, T.isN, gr_ok]
    have body : U_law_down_2 [some (.sh (T.node l c r).d), some (.sh (.int 0)), some (.own (.lst (acc.map .int)))] = .nx [some (.sh l.d), some (.sh (.int 0)), some (.own (.lst ((acc ++ [c.k]).map .int)))] := by
      rw [List.map_append]
      simp (disch := first | assumption | omega | (simp only [List.length_map]; omega)) [U_law_down_2, T.d, Card.d, gr_ok, gd_ok]
    rw [whileX_succ, test]
    simp only [Re.to_ok, iteX_true]
    rw [body, Ou.loop_nx, down0_loop f l (acc ++ [c.k]) (by omega) (by simp; omega), T.rowL]
    simp
theorem down2_loop18 : ∀ (f : Nat) (t : T) (acc : List Int), t.hi ≤ f → acc.length + f ≤ 1000 → whileX U_law_down_1 U_law_down_2 (f + 1) [some (.sh t.d), some (.sh (.int 2)), some (.own (.lst (acc.map .int)))] = .nx [some (.sh T.nil.d), some (.sh (.int 2)), some (.own (.lst ((acc ++ t.rowR).map .int)))]
  | f, .nil, acc, hf, hl => by
    have ne := vNe_t .nil
    rw [whileX_succ]
    simp [U_law_down_1, ne, T.isN, gr_ok, T.rowR]
  | 0, .node l c r, acc, hf, hl => by simp [T.hi] at hf
  | f + 1, .node l c r, acc, hf, hl => by
    simp only [T.hi] at hf
    have ne := vNe_t (.node l c r)
    have test : U_law_down_1 [some (.sh (T.node l c r).d), some (.sh (.int 2)), some (.own (.lst (acc.map .int)))] = .ok true [some (.sh (T.node l c r).d), some (.sh (.int 2)), some (.own (.lst (acc.map .int)))] := by
      simp [U_law_down_1, ne, T.isN, gr_ok]
    have body : U_law_down_2 [some (.sh (T.node l c r).d), some (.sh (.int 2)), some (.own (.lst (acc.map .int)))] = .nx [some (.sh r.d), some (.sh (.int 2)), some (.own (.lst ((acc ++ [c.k]).map .int)))] := by
      rw [List.map_append]
      simp (disch := first | assumption | omega | (simp only [List.length_map]; omega)) [U_law_down_2, T.d, Card.d, gr_ok, gd_ok]
    rw [whileX_succ, test]
    simp only [Re.to_ok, iteX_true]
    rw [body, Ou.loop_nx, down2_loop18 f r (acc ++ [c.k]) (by omega) (by simp; omega), T.rowR]
    simp
theorem down0_eq {t : T} (h : t.hi ≤ 100) : F_law_down [t.d, .int 0] = .ok (.sh (.list (t.rowL.map .int))) () := by
  rw [F_law_down_eq]
  have w := xWhile_eq (t := U_law_down_1) (b := U_law_down_2) 101 (by decide) (down0_loop 100 t [] h (by simp)) (by intro z; cases z)
  simp only [List.map_nil, List.nil_append] at w
  simp [U_law_down, gr_ok, w]
theorem down2_eq {t : T} (h : t.hi ≤ 100) : F_law_down [t.d, .int 2] = .ok (.sh (.list (t.rowR.map .int))) () := by
  rw [F_law_down_eq]
  have w := xWhile_eq (t := U_law_down_1) (b := U_law_down_2) 101 (by decide) (down2_loop18 100 t [] h (by simp)) (by intro z; cases z)
  simp only [List.map_nil, List.nil_append] at w
  simp [U_law_down, gr_ok, w]
theorem lpart_loop {key : Int} : ∀ (f : Nat) (t : T), t.hi ≤ f → (t.part key).isN = true →
    whileX U_law_part_v2_1 U_law_part_v2_2 (f + 1) [some (.sh t.d), some (.sh (.int key))] = .nx [some (.sh (t.part key).d), some (.sh (.int key))]
  | 0, .nil, hf, hp => by cases hp
  | 0, .node l c r, hf, hp => by simp [T.hi] at hf
  | f + 1, .nil, hf, hp => by cases hp
  | f + 1, .node l c r, hf, hp => by
    simp only [T.hi] at hf
    rw [T.part]
    rw [T.part] at hp
    rw [whileX_succ]
    by_cases e : c.k = key
    · rw [if_pos e]
      subst e
      simp [U_law_part_v2_1, T.d, Card.d]
    · rw [if_neg e] at hp
      rw [if_neg e]
      have test : U_law_part_v2_1 [some (.sh (T.node l c r).d), some (.sh (.int key))] = .ok true [some (.sh (T.node l c r).d), some (.sh (.int key))] := by
        simp [U_law_part_v2_1, T.d, Card.d, e]
      rw [test]
      simp only [Re.to_ok, iteX_true]
      by_cases z : key < c.k
      · rw [if_pos z] at hp
        rw [if_pos z]
        have z2 : ¬ c.k < key := by omega
        have body : U_law_part_v2_2 [some (.sh (T.node l c r).d), some (.sh (.int key))] = .nx [some (.sh l.d), some (.sh (.int key))] := by
          simp [U_law_part_v2_2, T.d, Card.d, z2, gr_ok]
        rw [body, Ou.loop_nx]
        exact lpart_loop f l (by omega) hp
      · rw [if_neg z] at hp
        rw [if_neg z]
        have z2 : c.k < key := by omega
        have body : U_law_part_v2_2 [some (.sh (T.node l c r).d), some (.sh (.int key))] = .nx [some (.sh r.d), some (.sh (.int key))] := by
          simp [U_law_part_v2_2, T.d, Card.d, z2, gr_ok]
        rw [body, Ou.loop_nx]
        exact lpart_loop f r (by omega) hp
theorem lpart_eq {t : T} {key : Int} (h : t.hi ≤ 100) (hp : (t.part key).isN = true) : F_law_part_v2 [t.d, .int key] = .ok (.sh (t.part key).d) () := by
  rw [F_law_part_v2_eq]
  have w := xWhile_eq (t := U_law_part_v2_1) (b := U_law_part_v2_2) 101 (by decide) (lpart_loop 100 t h hp) (by intro z; cases z)
  simp [U_law_part_v2, gr_ok, w]
end PF
set_option Elab.async false
set_option linter.all false
set_option maxRecDepth 100000
namespace PF
open PySem L2 DL DX
end PF
set_option Elab.async false
set_option linter.all false
set_option maxRecDepth 100000
set_option maxHeartbeats 1000000
namespace PF
open PySem L2 DL DX
theorem sroad_right {key : Int} : ∀ t : T, (∀ k, HasK t k → k < key) → (t.sroad key).map (·.1) = t.rowR
  | .nil, _ => rfl
  | .node l c r, h => by
    have hc := h c.k (has_node.mpr (.inr (.inl rfl)))
    rw [T.sroad, if_pos hc, T.rowR, List.map_cons, sroad_right r fun k hk => h k (has_node.mpr (.inr (.inr hk)))]
theorem sroad_seam {key : Int} : ∀ t : T, Rise t.cards → HasK t key → ∃ l c r, t.part key = .node l c r ∧ (t.sroad key).map (·.1) = t.road key ++ l.rowR
  | .nil, _, ⟨_, h, _⟩ => by cases h
  | .node l c r, hr, hk => by
    have b := bst_of hr
    rw [T.part, T.road, T.sroad]
    by_cases e : c.k = key
    · rw [if_pos e, if_pos e, if_neg (by omega)]
      refine ⟨l, c, r, rfl, ?_⟩
      rw [List.map_cons, sroad_right l fun k h => by have := b.lc k h; omega]
      rfl
    · obtain ⟨s1, s2⟩ := has_side b hk e
      rw [if_neg e, if_neg e]
      by_cases z : key < c.k
      · rw [if_pos z, if_pos z, if_neg (by omega)]
        obtain ⟨l', c', r', e1, e2⟩ := sroad_seam l b.rl (s1 z)
        exact ⟨l', c', r', e1, by rw [List.map_cons, e2]; rfl⟩
      · rw [if_neg z, if_neg z, if_pos (by omega)]
        obtain ⟨l', c', r', e1, e2⟩ := sroad_seam r b.rr (s2 z)
        exact ⟨l', c', r', e1, by rw [List.map_cons, e2]; rfl⟩
end PF
set_option Elab.async false
set_option linter.all false
set_option maxRecDepth 100000
set_option maxHeartbeats 1000000
namespace PF
open PySem L2 DL DX
theorem fit_2 {A B D : Nat} {a b : PyData} (ha : Fit A D a) (hb : Fit B D b) : Fit (A + B + 9) (D + 1) (.tuple [a, b]) := by
  refine ⟨by simp [PyData.canLay0, PyData.canLayAll0, ha.lay, hb.lay], ?_, by simp [PyData.showable, PyData.showableAll, ha.shw, hb.shw], by simp [PyData.hasDict, PyData.hasDictAll, ha.nod, hb.nod], ?_⟩
  · have h1 := ha.dep
    have h2 := hb.dep
    simp only [PyData.depth, PyData.depthAll]
    omega
  · have := tupleText_len_le (PyData.shownAll [a, b])
    show (tupleText (PyData.shownAll [a, b])).length ≤ _
    have h1 := ha.len
    have h2 := hb.len
    simp only [PyData.shownAll, List.map_cons, List.map_nil, List.sum_cons, List.sum_nil, List.length_cons, List.length_nil] at this ⊢
    omega
end PF
set_option Elab.async false
set_option linter.all false
set_option maxRecDepth 100000
namespace PF
open PySem L2 DL DX
end PF
set_option Elab.async false
set_option linter.all false
set_option maxRecDepth 100000
namespace PF
open PySem L2 DL DX
end PF
set_option Elab.async false
set_option linter.all false
set_option maxRecDepth 100000
namespace PF
open PySem L2 DL DX
end PF
set_option Elab.async false
set_option linter.all false
set_option maxRecDepth 100000
namespace PF
open PySem L2 DL DX
end PF
set_option Elab.async false
set_option linter.all false
set_option maxRecDepth 100000
namespace PF
open PySem L2 DL DX
end PF
set_option Elab.async false
set_option linter.all false
set_option maxRecDepth 100000
set_option maxHeartbeats 1000000
namespace PF
open PySem L2 DL DX
end PF
set_option Elab.async false
set_option linter.all false
set_option maxRecDepth 100000
set_option maxHeartbeats 1000000
namespace PF
open PySem L2 DL DX
theorem isx {tab : List (Str × Bool)} {c : Str} {as : List PyData} {b : Bool} (h : tab.lookup c = some b) : isX tab ⟨c, as⟩ = some (.sh (.bool b)) := by rw [isX_at, h]; rfl
end PF
set_option Elab.async false
set_option linter.all false
set_option maxRecDepth 100000
namespace DX
open PySem PySem.Spec PyProof.Rows L2 DL
section
variable {X : Cx} {a e : Expr} {xa : XE} {pos : Pos}
end
end DX
set_option Elab.async false
set_option linter.all false
set_option maxRecDepth 100000
namespace DL
open PySem L2
section
variable {X : Cx} {e : Expr} {es : List Expr} {Ga : GE} {pos : Pos}
def gVarO (i : Nat) : GE := fun ρ Q => match ρ[i]? with
  | some (some (.own (.lst ds))) => Q (.own (.lst ds)) (ρ.set i none)
  | _ => False
theorem gVarO_mono (i : Nat) : MonoE (gVarO i) := fun ρ Q Q' h q => by
  unfold gVarO at *
  split <;> simp_all
theorem de_varO {i : Nat} {x : Str} (h : PE X (.Name x pos) (tVar i)) : DE X (.Name x pos) (gVarO i) := ⟨gVarO_mono i, peI h fun σ H Q ⟨c, F, ρ, j, q⟩ => by
  unfold gVarO at q
  split at q
  · next ds e =>
    obtain ⟨a, ho, h1, h2, h3, h4, h5⟩ := j.ow i _ (.inl e)
    have hi : ∀ o, ρ[i]? ≠ some (some (R.io o)) := fun o z => by rw [e] at z; cases z
    have ap : Apart σ (ρ.set i none) a := fun k o h z => by
      rcases ow_set h with ⟨_, w | w⟩ | ⟨ne, w⟩
      · cases w
      · cases w
      · exact ne (j.nd i k _ o a (.inl e) w h1 z)
    exact ⟨.ref a, h1, q F H (.ref a) (j.drop hi) ⟨a, ho, rfl, h2, h3, h4, h5, ap⟩⟩
  · exact q.elim⟩
def NewF (F : Hp) (vs : List V) (ps : List (PyData × Bool)) : Prop := ∀ (k : Nat) (e : PyData) (b : Addr), ps[k]? = some (e, true) → vs[k]? = some (V.ref b) → F b = none
abbrev GN := Rho → (List (PyData × Bool) → Rho → Prop) → Prop
def tDN (K : PySem.W.Frag) (G : GN) : TA := fun σ H Q => ∃ c F ρ, J K c F H σ ρ ∧ G ρ fun ps ρ' => ∀ F' H' vs, J K c F' H' σ ρ' → NewP K c.Z F' vs ps → NewF F vs ps → Q vs H'
structure DN (X : Cx) (es : List Expr) (G : GN) : Prop where
  mono : ∀ ρ (Q Q' : List (PyData × Bool) → Rho → Prop), (∀ ps ρ', Q ps ρ' → Q' ps ρ') → G ρ Q → G ρ Q'
  pa : PA X es (tDN X.K G)
def gNilN : GN := fun ρ Q => Q [] ρ
def newW (r : R) (k : PyData × Bool → Prop) : Prop := match r with
  | .sh d => k (d, false)
  | .own (.lst ds) => k (.list ds, true)
  | _ => False
theorem newW_mono {r : R} {k k' : PyData × Bool → Prop} (h : ∀ d, k d → k' d) (q : newW r k) : newW r k' := by
  unfold newW at *
  split <;> simp_all
def gConsN (a : GE) (t : GN) : GN := fun ρ Q => a ρ fun r ρ1 => newW r fun p => t ρ1 fun ps ρ2 => Q (p :: ps) ρ2
theorem dn_nil : DN X [] gNilN := ⟨fun _ _ _ h q => h _ _ q, paI pa_nil fun σ H Q ⟨c, F, ρ, j, q⟩ => q F H [] j .nil fun k e b h => by cases h⟩
theorem dn_cons {t : GN} (ha : DE X e Ga) (ht : DN X es t) (hs : starEach (e :: es) X.env = (false, eval e X.env) :: starEach es X.env := by rfl) : DN X (e :: es) (gConsN Ga t) := ⟨fun _ _ _ h q => ha.mono _ _ _ (fun _ _ z => newW_mono (fun _ z => ht.mono _ _ _ (fun _ _ z => h _ _ z) z) z) q, paI (pa_cons ha.pe ht.pa hs) fun σ H Q ⟨c, F, ρ, j, q⟩ => by
  refine ⟨⟨F, c.Z, c.io⟩, F, ρ, j.anew, ha.mono _ _ _ (fun r1 ρ1 q1 F1 H1 v1 j1 v1r => ?_) q⟩
  unfold newW at q1
  split at q1
  · next d =>
    refine ⟨⟨F1, c.Z, c.io⟩, F1, ρ1, j1.anew, ht.mono _ _ _ (fun ds ρ2 q2 F3 H3 vs j3 n3 f3 => ?_) q1⟩
    have j4 : J X.K ⟨F, c.Z, c.io⟩ F3 H3 σ ρ2 := J.back (c := ⟨F, c.Z, c.io⟩) j1 j3
    refine q2 F3 H3 (v1 :: vs) (J.back j j4) (.dat (dpM j3.ff v1r) n3) fun k e b h1 h2 => ?_
    cases k with
    | zero => cases h1
    | succ k => exact j1.ff.free (f3 k e b h1 h2)
  · next ds =>
    obtain ⟨a, ho, rfl, h2, ⟨ws, rfl, h3⟩, h4, h5, ap⟩ := v1r
    have j2 := j1.frz h2 h4 h5 ap
    refine ⟨⟨upd F1 a (.lst ws), c.Z, c.io⟩, _, ρ1, j2.anew, ht.mono _ _ _ (fun ds ρ2 q2 F3 H3 vs j3 n3 f3 => ?_) q1⟩
    have j4 : J X.K ⟨F, c.Z, c.io⟩ F3 H3 σ ρ2 := J.back (c := ⟨F, c.Z, c.io⟩) j2 j3
    have fa : F3 a = some (.lst ws) := j3.ff _ _ upd_same
    refine q2 F3 H3 (.ref a :: vs) (J.back j j4) (.own fa h5 (dpAllM (fun b o z => j3.ff b o (same_new h4 _ b o z)) h3) (fun k e h1 h2 => ?_) n3) fun k e b h1 h2 => ?_
    · have := f3 k e a h1 h2
      rw [upd_same] at this
      cases this
    · cases k with
      | zero =>
        cases h2
        exact j1.ff.free h4
      | succ k =>
        have g := f3 k e b h1 h2
        have ne : b ≠ a := fun z => by rw [z, upd_same] at g; cases g
        rw [upd_ne ne] at g
        exact j1.ff.free g
  · exact q1.elim⟩
def gTupN (t : GN) : GE := fun ρ Q => t ρ fun ps ρ' => ps.length ≤ 1000 ∧ Q (.new ps) ρ'
theorem NewP.length {K : PySem.W.Frag} {Z F : Hp} : ∀ {vs : List V} {ps : List (PyData × Bool)}, NewP K Z F vs ps → vs.length = ps.length
  | _, _, .nil => rfl
  | _, _, .dat _ t => by simp [NewP.length t]
  | _, _, .own _ _ _ _ t => by simp [NewP.length t]
theorem de_tupN {t : GN} {k : Nat} (h : DN X es t) : DE X (.Tuple es k pos) (gTupN t) := ⟨fun _ _ _ hq q => h.mono _ _ _ (fun _ _ z => ⟨z.1, hq _ _ z.2⟩) q, peI (pe_tup h.pa) fun σ H Q ⟨c, F, ρ, j, q⟩ =>
  ⟨c, F, ρ, j, h.mono _ _ _ (fun ds ρ1 q1 F1 H1 vs j1 n1 _ => ⟨Nat.le_of_lt (small1000 (by rw [NewP.length n1]; exact q1.1)), fun p hp =>
    q1.2 _ _ _ ((j1.alloc hp _).frz upd_same (j1.ffree hp) (j1.zfree hp) (j1.apart hp)) ⟨p, vs, rfl, upd_same, n1.mono (same_new (j1.ffree hp) _)⟩⟩) q⟩⟩
end
end DL
namespace DX
open PySem PyProof.Rows L2 DL
section
variable {X : Cx} {e : Expr} {es : List Expr} {xa : XE} {pos : Pos}
def xVarO (i : Nat) : XE := fun ρ => match ρ[i]? with
  | some (some (.own (.lst ds))) => .ok (.own (.lst ds)) (ρ.set i none)
  | _ => .bad
@[simp ↓] theorem xVarO_at (i : Nat) (ρ : Rho) : xVarO i ρ = (match ρ[i]? with
  | some (some (.own (.lst ds))) => .ok (.own (.lst ds)) (ρ.set i none)
  | _ => .bad) := Eq.trans rfl rfl
theorem xe_varO {i : Nat} {x : Str} (h : PE X (.Name x pos) (tVar i)) : EX X (.Name x pos) (xVarO i) := exI (de_varO h) fun ρ Q r ρ' e q => by
  unfold xVarO at e
  unfold gVarO
  split at e
  · next ds h => cases e; first | exact q | (rw [h]; exact q) | (simp only [h]; exact q)
  · cases e
abbrev XNs := Rho → Re (List (PyData × Bool)) Rho
def toN (x : XNs) : GN := fun ρ Q => ∃ ps ρ', x ρ = .ok ps ρ' ∧ Q ps ρ'
abbrev NX (X : Cx) (es : List Expr) (x : XNs) : Prop := DN X es (toN x)
def xNilN : XNs := fun ρ => .ok [] ρ
def newX (r : R) (k : PyData × Bool → Re (List (PyData × Bool)) Rho) : Re (List (PyData × Bool)) Rho := match r with
  | .sh d => k (d, false)
  | .own (.lst ds) => k (.list ds, true)
  | _ => .bad
@[simp ↓] theorem newX_own (ds : List PyData) (k : PyData × Bool → Re (List (PyData × Bool)) Rho) : newX (.own (.lst ds)) k = k (.list ds, true) := Eq.trans rfl rfl
def xConsN (a : XE) (t : XNs) : XNs := fun ρ => (a ρ).bind fun r ρ1 => newX r fun p => (t ρ1).bind fun ps ρ2 => .ok (p :: ps) ρ2
@[simp ↓] theorem xNilN_at (ρ : Rho) : xNilN ρ = .ok [] ρ := Eq.trans rfl rfl
@[simp ↓] theorem xConsN_at (a : XE) (t : XNs) (ρ : Rho) : xConsN a t ρ = (a ρ).bind fun r ρ1 => newX r fun p => (t ρ1).bind fun ps ρ2 => .ok (p :: ps) ρ2 := Eq.trans rfl rfl
theorem nx_nil : NX X [] xNilN := ⟨fun _ _ _ h ⟨a, b, e, q⟩ => ⟨a, b, e, h _ _ q⟩, paI dn_nil.pa fun σ H Q ⟨c, F, ρ, j, ps, ρ', e, q⟩ => by
  cases e
  exact ⟨c, F, ρ, j, q⟩⟩
theorem nx_cons {t : XNs} (ha : EX X e xa) (ht : NX X es t) (hs : starEach (e :: es) X.env = (false, eval e X.env) :: starEach es X.env := by rfl) : NX X (e :: es) (xConsN xa t) := ⟨fun _ _ _ h ⟨a, b, e, q⟩ => ⟨a, b, e, h _ _ q⟩, paI (dn_cons ha ht hs).pa fun σ H Q ⟨c, F, ρ, j, ps, ρ', e, q⟩ => by
  refine ⟨c, F, ρ, j, ?_⟩
  obtain ⟨r, ρ1, e1, e2⟩ := Re.bind_inv e
  unfold newX at e2
  split at e2
  · obtain ⟨ps1, ρ2, e3, e4⟩ := Re.bind_inv e2
    cases e4
    exact ⟨_, _, e1, _, _, e3, q⟩
  · obtain ⟨ps1, ρ2, e3, e4⟩ := Re.bind_inv e2
    cases e4
    exact ⟨_, _, e1, _, _, e3, q⟩
  · cases e2⟩
def xTupN (t : XNs) : XE := fun ρ => (t ρ).bind fun ps ρ' => gr (ps.length ≤ 1000) (.ok (.new ps) ρ')
@[simp ↓] theorem xTupN_at (t : XNs) (ρ : Rho) : xTupN t ρ = (t ρ).bind fun ps ρ' => gr (ps.length ≤ 1000) (.ok (.new ps) ρ') := Eq.trans rfl rfl
theorem xe_tupN {t : XNs} {k : Nat} (h : NX X es t) : EX X (.Tuple es k pos) (xTupN t) := exI (de_tupN h) fun ρ Q r ρ' e q => by
  obtain ⟨ps, ρ1, e1, e2⟩ := Re.bind_inv e
  obtain ⟨g, e3⟩ := gr_inv e2
  cases e3
  exact ⟨ps, _, e1, g, q⟩
end
end DX
set_option Elab.async false
set_option linter.all false
set_option maxRecDepth 100000
namespace DL
open PySem L2
section
variable {K : PySem.W.Frag} {c : En} {F F' H H' : Hp} {σ : L2.St} {ρ : Rho}
theorem J.same (j : J K c F H σ ρ) (s : Same H H') : J K c F H' σ ρ := j.called (Same.refl _) (j.fh.trans s) (fun b o h => .inl h) s
theorem J.any (j : J K c F H σ ρ) {i : Nat} (hi : ∀ o, ρ[i]? ≠ some (some (R.io o))) (v : Option V) : J K c F H (σ.set i v) (ρ.set i none) where
  len := by rw [List.length_set, List.length_set]; exact j.len
  ff := j.ff
  fh := j.fh
  zh := j.zh
  fz := j.fz
  sh := fun k d h => by
    rw [get_set] at h
    by_cases e : i = k
    · rw [if_pos e] at h
      split at h <;> cases h
    · rw [if_neg e] at h
      rw [get_set, if_neg e]
      exact j.sh k d h
  ow := fun k o h => by
    rcases ow_set h with ⟨e, h | h⟩ | ⟨e, h⟩
    · cases h
    · cases h
    · rw [get_set, if_neg e]
      exact j.ow k o h
  nd := fun k l o o' a h h' e e' => by
    rcases ow_set h with ⟨_, w | w⟩ | ⟨z, w⟩
    · cases w
    · cases w
    rcases ow_set h' with ⟨_, w' | w'⟩ | ⟨z', w'⟩
    · cases w'
    · cases w'
    rw [get_set, if_neg z] at e
    rw [get_set, if_neg z'] at e'
    exact j.nd k l o o' a w w' e e'
  ios := fun p hp => by
    obtain ⟨o, h1, h2⟩ := j.ios p hp
    have ne : i ≠ p.1 := fun e => hi o (by rw [e]; exact h1)
    exact ⟨o, by rw [get_set, if_neg ne]; exact h1, by rw [get_set, if_neg ne]; exact h2⟩
theorem NewP.dp {Z : Hp} : ∀ {vs : List V} {ps : List (PyData × Bool)}, NewP K Z F vs ps → DpAll K F vs (ps.map (·.1))
  | _, _, .nil => .nil
  | _, _, .dat h t => .cons h t.dp
  | _, _, .own h _ hd _ t => .cons (.lst (SqL.of h) hd) t.dp
theorem NewP.at {Z : Hp} : ∀ {vs : List V} {ps : List (PyData × Bool)} {k : Nat} {d : PyData}, NewP K Z F vs ps → ps[k]? = some (d, true) → ∃ b ws ds, vs[k]? = some (V.ref b) ∧ F b = some (.lst ws) ∧ Z b = none ∧ d = .list ds ∧ DpAll K F ws ds
  | _, _, _, _, .nil, h => by cases h
  | _, _, 0, _, .dat _ _, h => by cases h
  | _, _, 0, _, .own h hz hd _ _, e => by cases e; exact ⟨_, _, _, rfl, h, hz, rfl, hd⟩
  | _, _, k + 1, _, .dat _ t, h => t.at (k := k) h
  | _, _, k + 1, _, .own _ _ _ _ t, h => t.at (k := k) h
theorem NewP.apart {Z : Hp} : ∀ {vs : List V} {ps : List (PyData × Bool)} {k k' : Nat} {d d' : PyData} {b : Addr}, NewP K Z F vs ps → ps[k]? = some (d, true) → ps[k']? = some (d', true) → vs[k]? = some (V.ref b) → vs[k']? = some (V.ref b) → k = k'
  | _, _, _, _, _, _, _, .nil, h, _, _, _ => by cases h
  | _, _, 0, _, _, _, _, .dat _ _, h, _, _, _ => by cases h
  | _, _, _, 0, _, _, _, .dat _ _, _, h, _, _ => by cases h
  | _, _, k + 1, k' + 1, _, _, _, .dat _ t, h, h', e, e' => by rw [t.apart (k := k) (k' := k') h h' e e']
  | _, _, 0, 0, _, _, _, .own _ _ _ _ _, _, _, _, _ => rfl
  | _, _, 0, k' + 1, _, d', _, .own _ _ _ ap _, _, h', e, e' => by
    cases e
    exact absurd e' (ap k' d' h')
  | _, _, k + 1, 0, d, _, _, .own _ _ _ ap _, h, _, e, e' => by
    cases e'
    exact absurd e (ap k d h)
  | _, _, k + 1, k' + 1, _, _, _, .own _ _ _ _ t, h, h', e, e' => by rw [t.apart (k := k) (k' := k') h h' e e']
end
def shN (ps : List (PyData × Bool)) : Option R := some (.sh (.tuple (ps.map (·.1))))
def LM (K : PySem.W.Frag) (c : En) (F H : Hp) (σ : L2.St) (ρ ρl : Rho) (i : Nat) (ps : List (PyData × Bool)) : Prop :=
  ∃ (H0 F0 F1 : Hp) (vs : List V) (t : Addr), J K c F H0 σ (ρ.set i none) ∧ J K ⟨F0, H0, []⟩ F1 H σ ρl ∧ σ[i]? = some (some (V.ref t)) ∧ F1 t = some (.tup vs) ∧ NewP K H0 F1 vs ps
abbrev GB := List (PyData × Bool) → Rho → Ek → Prop
abbrev GL := List (PyData × Bool) → Rho → Rho → Ek → Prop
def tLB (K : PySem.W.Frag) (i : Nat) (G : GL) : TS := fun D σ H => ∃ c F ρ ρl ps, LM K c F H σ ρ ρl i ps ∧ G ps ρ ρl (Ek.of K c D)
structure LB (X : Cx) (i : Nat) (ss : List Stmt) (G : GL) : Prop where
  mono : ∀ ps ρ ρl E E', Ek.Le E E' → G ps ρ ρl E → G ps ρ ρl E'
  ps : PSs X ss (tLB X.K i G)
section
variable {X : Cx} {e a : Expr} {ss : List Stmt} {Ga : GE} {GT : GT} {G : GL} {pos : Pos}
def gNew (i : Nat) (a : GE) (G : GL) : GS := fun ρ E => freeSlot ρ i ∧ a (frzR ρ) fun r ρ1 => freeSlot ρ1 i ∧ match r with
  | .new ps => G ps ρ (ρ1.set i (shN ps)) E
  | _ => False
theorem dss_new {i : Nat} {x : Str} {pos' : Pos} (hN : X.N.Nodup) (hi : X.N[i]? = some x) (hx : Loc X.env.scope x) (he : DE X e Ga) (h : LB X i ss G) (hs : swapsWith e (some (.Name x pos')) pos.line X.env = pure false := by rfl) (hf : X.fn x = true ∨ X.env.scope.names.lookup x = some .local := by first | exact .inl rfl | exact .inr rfl | assumption) :
    DSs X (.Assign [.Name x pos'] e pos :: ss) (gNew i Ga G) := ⟨fun _ _ _ le q => ⟨q.1, he.mono _ _ _ (fun r _ z => ⟨z.1, by
      have z := z.2
      cases r <;> first | exact h.mono _ _ _ _ _ le z | exact z⟩) q.2⟩, pssI (pss_cons (ps_set hN hi hx he.pe hs hf) h.ps) fun D σ H ⟨c, F, ρ, j, fs, q⟩ => by
  obtain ⟨hl, hio⟩ := freeSlot_use fs
  refine ⟨_, _, _, j.lent, he.mono _ _ _ (fun r ρ1 z F' H' v j' vr => ?_) q⟩
  obtain ⟨f1, z⟩ := z
  obtain ⟨hl', hio'⟩ := freeSlot_use f1
  cases r with
  | sh _ => exact z.elim
  | own _ => exact z.elim
  | io _ => exact z.elim
  | new ps =>
    obtain ⟨t, vs, rfl, ft, np⟩ := vr
    refine ⟨c, F, ρ, _, ps, ⟨H, _, F', vs, t, j.any hio _, j'.assign (r := .sh _) hl' hio' (.tup (SqT.of ft) np.dp), ?_, ft, np⟩, z⟩
    rw [get_set, if_pos rfl, if_pos (by rw [j.len]; exact hl)]⟩
def gLbIf (i : Nat) (T : DL.GT) (G : GL) : GL := fun ps ρ ρl E => T ρl fun b ρ1 => if b = true then E.rt (.sh (.bool false)) (ρ.set i none) else G ps ρ ρ1 E
theorem lb_if {i k : Nat} {p1 p2 : Pos} (ht : DT X a GT) (h : LB X i ss G) : LB X i (.If a [.Return (some (.Constant (.bool false) k p1)) p2] [] pos :: ss) (gLbIf i GT G) := ⟨fun ps ρ ρl E E' le q => ht.mono _ _ _ (fun b _ z => by
    cases b
    · exact h.mono _ _ _ _ _ le z
    · exact le.rt _ _ z) q, pssI (pss_cons (ps_if ht.pt (pss_one (ps_ret pe_bl)) pss_nil) h.ps) fun D σ H ⟨c, F, ρ, ρl, ps, ⟨H0, F0, F1, vs, t, jb, jl, hσ, ft, np⟩, q⟩ => by
  refine ⟨_, F1, _, jl.anew, ht.mono _ _ _ (fun b ρ1 z F2 H2 j2 => ?_) q⟩
  have s2 : Same H0 H2 := j2.zh
  cases b with
  | false => exact iteF ⟨c, F, ρ, ρ1, ps, ⟨H0, F1, F2, vs, t, jb, j2, hσ, j2.ff _ _ ft, np.mono j2.ff⟩, z⟩
  | true => exact iteT (z F H2 σ _ (jb.same s2) (.bl false))⟩
end
end DL
set_option Elab.async false
set_option linter.all false
set_option maxRecDepth 100000
namespace DL
open PySem L2
def MM (K : PySem.W.Frag) (m : Nat) (c : En) (F H : Hp) (σ : L2.St) (ρ : Rho) (i : Nat) (ps : List (PyData × Bool)) : Prop :=
  ∃ (vs : List V) (t : Addr), J K c F H σ (ρ.set i none) ∧ σ[i]? = some (some (V.ref t)) ∧ H t = some (.tup vs) ∧
    (∀ (k : Nat) (d : PyData), ps[k]? = some (d, true) → ∃ b ws, vs[k]? = some (V.ref b) ∧ H b = some (.lst ws) ∧ ws.length + m ≤ 100000 ∧ F b = none ∧ c.Z b = none ∧ Apart σ (ρ.set i none) b) ∧
    (∀ (k k' : Nat) (d d' : PyData) (b : Addr), ps[k]? = some (d, true) → ps[k']? = some (d', true) → vs[k]? = some (V.ref b) → vs[k']? = some (V.ref b) → k = k')
def tMB (K : PySem.W.Frag) (m : Nat) (i : Nat) (G : GB) : TS := fun D σ H => ∃ c F ρ ps, MM K m c F H σ ρ i ps ∧ G ps ρ (Ek.of K c D)
structure MB (X : Cx) (m : Nat) (i : Nat) (ss : List Stmt) (G : GB) : Prop where
  mono : ∀ ps, MonoS (G ps)
  ps : PSs X ss (tMB X.K m i G)
section
variable {X : Cx} {e a : Expr} {ss : List Stmt} {G : GB} {pos py p1 p2 apos cpos : Pos} {i m : Nat}
def gLbEnd (G : GB) : GL := fun ps ρ _ E => (∀ d, (PyData.list d, true) ∈ ps → d.length ≤ 1000) ∧ G ps ρ E
theorem lb_end (hm : m ≤ 1000) (h : MB X m i ss G) : LB X i ss (gLbEnd G) := ⟨fun ps ρ ρl E E' le q => ⟨q.1, h.mono _ _ _ _ le q.2⟩, pssI h.ps fun D σ H ⟨c, F, ρ, ρl, ps, ⟨H0, F0, F1, vs, t, jb, jl, hσ, ft, np⟩, q⟩ => by
  have s : Same H0 H := jl.zh
  refine ⟨c, F, ρ, ps, ⟨vs, t, jb.same s, hσ, jl.fh _ _ ft, fun k d hk => ?_, fun k k' d d' b h h' e e' => np.apart h h' e e'⟩, q.2⟩
  obtain ⟨b, ws, ds, e1, e2, e3, rfl, e5⟩ := np.at hk
  have := q.1 ds (List.mem_of_getElem? hk)
  have ln := DpAll.length e5
  exact ⟨b, ws, e1, jl.fh _ _ e2, by omega, jb.ffree e3, jb.zfree e3, jb.apart e3⟩⟩
def gMbNil (i : Nat) : GB := fun ps ρ E => E.nx (ρ.set i none)
theorem mb_nil : MB X m i [] (gMbNil i) := ⟨fun ps ρ E E' le q => le.nx _ q, pssI pss_nil fun D σ H ⟨c, F, ρ, ps, ⟨vs, t, j, _⟩, q⟩ => q F H σ j⟩
def gMbThen (i : Nat) (G : GS) : GB := fun ps ρ E => G (ρ.set i none) E
theorem mb_then {G : GS} (h : DSs X ss G) : MB X m i ss (gMbThen i G) := ⟨fun ps ρ E E' le q => h.mono _ _ _ le q, pssI h.ps fun D σ H ⟨c, F, ρ, ps, ⟨vs, t, j, _⟩, q⟩ => ⟨c, F, _, j, q⟩⟩
def Shut (X : Cx) (es : List Expr) (t : TA) : Prop := PA X es t ∧ ∀ σ H Q, (∀ vs H', Same H H' → vs.length = es.length → Q vs H') → t σ H Q
theorem shut_int {k : Nat} {z : Int} (hs : starEach [.Constant (.int z) k p1] X.env = [(false, eval (.Constant (.int z) k p1) X.env)] := by rfl) : ∃ t, Shut X [.Constant (.int z) k p1] t := ⟨_, pa_cons pe_int pa_nil hs, fun σ H Q h => h [.int z] H (Same.refl _) rfl⟩
def gMbAt (k : Nat) (G : GB) : GB := fun ps ρ E => (∃ d, ps[k]? = some (d, true)) ∧ G ps ρ E
theorem MM.chg {K : PySem.W.Frag} {c : En} {F H H' : Hp} {σ : L2.St} {ρ : Rho} {ps : List (PyData × Bool)} {vs : List V} {t b : Addr} {ws us : List V} {k : Nat} {d : PyData} (j : J K c F H σ (ρ.set i none)) (hσ : σ[i]? = some (some (V.ref t))) (ht : H t = some (.tup vs))
    (al : ∀ (k : Nat) (d : PyData), ps[k]? = some (d, true) → ∃ b ws, vs[k]? = some (V.ref b) ∧ H b = some (.lst ws) ∧ ws.length + (m + 1) ≤ 100000 ∧ F b = none ∧ c.Z b = none ∧ Apart σ (ρ.set i none) b)
    (di : ∀ (k k' : Nat) (d d' : PyData) (b : Addr), ps[k]? = some (d, true) → ps[k']? = some (d', true) → vs[k]? = some (V.ref b) → vs[k']? = some (V.ref b) → k = k')
    (s : Same H H') (hk : ps[k]? = some (d, true)) (hv : vs[k]? = some (V.ref b)) (hb : H b = some (.lst ws)) (hu : us.length + m ≤ 100000) (fb : F b = none) (zb : c.Z b = none) (ap : Apart σ (ρ.set i none) b) : MM K m c F (upd H' b (.lst us)) σ ρ i ps := by
  refine ⟨vs, t, (j.same s).chg fb zb ap _, hσ, ?_, fun k' d' hk' => ?_, di⟩
  · rw [upd_ne (fun e => by rw [e, hb] at ht; cases ht)]
    exact s _ _ ht
  · obtain ⟨b', ws', e1, e2, e3, e4, e5, e6⟩ := al k' d' hk'
    by_cases z : b' = b
    · subst z
      exact ⟨b', us, e1, upd_same, hu, e4, e5, e6⟩
    · exact ⟨b', ws', e1, by rw [upd_ne z]; exact s _ _ e2, by omega, e4, e5, e6⟩
theorem mb_append {k kk : Nat} {y : Str} {t : TA} (hy : PE X (.Name y py) (tVar i)) (ha : Shut X [a] t) (h : MB X m i ss G)
    (hbase : attributeBase (.Subscript (.Name y py) (.Constant (.int (k : Int)) kk p1) p2) "append" X.env (eval (.Subscript (.Name y py) (.Constant (.int (k : Int)) kk p1) p2) X.env) = eval (.Subscript (.Name y py) (.Constant (.int (k : Int)) kk p1) p2) X.env := by rfl)
    (hfew : ((backTo cpos (starEach [a] X.env)).all (fun x => !x.1) && (backToKw cpos (keywordEach [] X.env)).all (fun x => x.1.isSome) && decide ([a].length + ([] : List Keyword).length + (if ([] : List Keyword).isEmpty then 0 else 1) < 30)) = true := by rfl)
    (hline : (apos.endLine == cpos.line) = true := by rfl) (hs : starEach [a] X.env = [(false, eval a X.env)] := by rfl) (hplain : (backTo cpos (starEach [] X.env)).any (·.1) = false := by rfl) (hx : PlainIx (.Constant (.int (k : Int)) kk p1) := by exact fun _ _ => rfl)
    (hsw : swapsWith (.Call (.Attribute (.Subscript (.Name y py) (.Constant (.int (k : Int)) kk p1) p2) "append" apos) [a] [] cpos) none pos.line X.env = pure false := by rfl) :
    MB X (m + 1) i (.Expr (.Call (.Attribute (.Subscript (.Name y py) (.Constant (.int (k : Int)) kk p1) p2) "append" apos) [a] [] cpos) pos :: ss) (gMbAt k G) :=
  ⟨fun ps ρ E E' le q => ⟨q.1, h.mono _ _ _ _ le q.2⟩, pssI (pss_cons (ps_expr (pe_bm PySem.F.plainAttrs_list PySem.F.slot_list_append PySem.F.type_list_append mt_append (pe_ix ix_tup hy pe_int hx) ha.1 hbase hfew hline hs hplain) hsw) h.ps) fun D σ H ⟨c, F, ρ, ps, ⟨vs, tt, j, hσ, ht, al, di⟩, ⟨d, hk⟩, q⟩ => by
    obtain ⟨b, ws, e1, e2, e3, e4, e5, e6⟩ := al k d hk
    have hm := million
    refine ⟨.ref tt, hσ, tt, vs, (k : Int), .ref b, rfl, rfl, SqT.of ht, atI_nat e1, .inl ⟨rfl, ws, SqL.of e2⟩, ha.2 _ _ _ fun xs H' s hl => ?_⟩
    obtain ⟨v, rfl⟩ : ∃ v, xs = [v] := by
      match xs, hl with
      | [v], _ => exact ⟨v, rfl⟩
    refine ⟨b, ws, v, rfl, rfl, s _ _ e2, by omega, c, F, ρ, ps, ?_, q⟩
    exact MM.chg j hσ ht al di s hk e1 e2 (by simp; omega) e4 e5 e6⟩
theorem mb_clear {k kk : Nat} {y : Str} (hy : PE X (.Name y py) (tVar i)) (h : MB X m i ss G)
    (hbase : attributeBase (.Subscript (.Name y py) (.Constant (.int (k : Int)) kk p1) p2) "clear" X.env (eval (.Subscript (.Name y py) (.Constant (.int (k : Int)) kk p1) p2) X.env) = eval (.Subscript (.Name y py) (.Constant (.int (k : Int)) kk p1) p2) X.env := by rfl)
    (hline : (apos.endLine == cpos.line) = true := by rfl) (hx : PlainIx (.Constant (.int (k : Int)) kk p1) := by exact fun _ _ => rfl)
    (hsw : swapsWith (.Call (.Attribute (.Subscript (.Name y py) (.Constant (.int (k : Int)) kk p1) p2) "clear" apos) [] [] cpos) none pos.line X.env = pure false := by rfl) :
    MB X (m + 1) i (.Expr (.Call (.Attribute (.Subscript (.Name y py) (.Constant (.int (k : Int)) kk p1) p2) "clear" apos) [] [] cpos) pos :: ss) (gMbAt k G) :=
  ⟨fun ps ρ E E' le q => ⟨q.1, h.mono _ _ _ _ le q.2⟩, pssI (pss_cons (ps_expr (pe_bm0 PySem.F.plainAttrs_list PySem.F.slot_list_clear PySem.F.type_list_clear mt_clear (pe_ix ix_tup hy pe_int hx) hbase hline) hsw) h.ps) fun D σ H ⟨c, F, ρ, ps, ⟨vs, tt, j, hσ, ht, al, di⟩, ⟨d, hk⟩, q⟩ => by
    obtain ⟨b, ws, e1, e2, e3, e4, e5, e6⟩ := al k d hk
    refine ⟨.ref tt, hσ, tt, vs, (k : Int), .ref b, rfl, rfl, SqT.of ht, atI_nat e1, .inl ⟨rfl, ws, SqL.of e2⟩, b, ws, rfl, rfl, e2, c, F, ρ, ps, ?_, q⟩
    exact MM.chg j hσ ht al di (Same.refl _) hk e1 e2 (by simp; omega) e4 e5 e6⟩
def gMbOther (l i : Nat) (G : GB) : GB := fun ps ρ E => match ρ[l]? with
  | some (some (.own (.lst _))) => l ≠ i ∧ G ps (ρ.set l (some (.own (.lst [])))) E
  | _ => False
end
end DL
namespace DX
open PySem PyProof.Rows L2 DL
section
variable {X : Cx} {e a : Expr} {ss : List Stmt} {xa : XE} {pos py p1 p2 apos cpos : Pos} {i m : Nat}
abbrev XL := List (PyData × Bool) → Rho → Rho → Ou
abbrev XM := List (PyData × Bool) → Rho → Ou
def toL (x : XL) : GL := fun ps ρ ρl E => toS (fun _ => x ps ρ ρl) ρ E
def toM (x : XM) : GB := fun ps ρ E => toS (x ps) ρ E
theorem toS_le {x : XS} {ρ : Rho} {E E' : Ek} (le : E.Le E') (q : toS x ρ E) : toS x ρ E' := toS_mono x ρ E E' le q
abbrev LX (X : Cx) (i : Nat) (ss : List Stmt) (x : XL) : Prop := LB X i ss (toL x)
abbrev MX (X : Cx) (m i : Nat) (ss : List Stmt) (x : XM) : Prop := MB X m i ss (toM x)
theorem lxI {G : GL} {x : XL} (h : LB X i ss G) (f : ∀ ps ρ ρl E, toL x ps ρ ρl E → G ps ρ ρl E) : LX X i ss x := ⟨fun ps ρ ρl E E' le q => toS_le le q, pssI h.ps fun D σ H ⟨c, F, ρ, ρl, ps, l, q⟩ => ⟨c, F, ρ, ρl, ps, l, f _ _ _ _ q⟩⟩
theorem mxI {G : GB} {x : XM} (h : MB X m i ss G) (f : ∀ ps ρ E, toM x ps ρ E → G ps ρ E) : MX X m i ss x := ⟨fun ps ρ E E' le q => toS_le le q, pssI h.ps fun D σ H ⟨c, F, ρ, ps, l, q⟩ => ⟨c, F, ρ, ps, l, f _ _ _ q⟩⟩
def newB (i : Nat) (ρ : Rho) (x : XL) (r : R) (ρ1 : Rho) : Ou := match r with
  | .new ps => opX (freeX ρ1[i]? (some (ρ1.set i (shN ps)))) fun ρl => x ps ρ ρl
  | _ => .bad
@[simp ↓] theorem newB_new (i : Nat) (ρ : Rho) (x : XL) (ps : List (PyData × Bool)) (ρ1 : Rho) : newB i ρ x (.new ps) ρ1 = opX (freeX ρ1[i]? (some (ρ1.set i (shN ps)))) fun ρl => x ps ρ ρl := Eq.trans rfl rfl
def xNewB (i : Nat) (xa : XE) (x : XL) : XS := fun ρ => opX (freeX ρ[i]? (some ρ)) fun _ => (xa (frzR ρ)).to (newB i ρ x)
@[simp ↓] theorem xNewB_at (i : Nat) (xa : XE) (x : XL) (ρ : Rho) : xNewB i xa x ρ = opX (freeX ρ[i]? (some ρ)) fun _ => (xa (frzR ρ)).to (newB i ρ x) := Eq.trans rfl rfl
theorem sxs_new {x : XL} {y : Str} {pos' : Pos} (hN : X.N.Nodup) (hi : X.N[i]? = some y) (hx : Loc X.env.scope y) (he : EX X e xa) (h : LX X i ss x) (hs : swapsWith e (some (.Name y pos')) pos.line X.env = pure false := by rfl) (hf : X.fn y = true ∨ X.env.scope.names.lookup y = some .local := by first | exact .inl rfl | exact .inr rfl | assumption) :
    SXs X (.Assign [.Name y pos'] e pos :: ss) (xNewB i xa x) := dssI (dss_new hN hi hx he h hs hf) fun ρ E q => by
  obtain ⟨ρ0, e0, q⟩ := opX_toS' (o := freeX ρ[i]? (some ρ)) (k := fun _ => (xa (frzR ρ)).to (newB i ρ x)) (ρ := ρ) (E := E) q
  obtain ⟨f0, e0⟩ := freeX_inv e0
  obtain ⟨r, ρ1, e1, q⟩ := to_toS (x := xa) (k := newB i ρ x) (ρ := frzR ρ) (E := E) q
  refine ⟨f0, r, ρ1, e1, ?_⟩
  cases r with
  | sh _ => exact q.elim
  | own _ => exact q.elim
  | io _ => exact q.elim
  | new ps =>
    obtain ⟨ρl, e2, q⟩ := opX_toS' (o := freeX ρ1[i]? (some (ρ1.set i (shN ps)))) (k := fun ρl => x ps ρ ρl) (ρ := ρ1) (E := E) q
    obtain ⟨f1, e2⟩ := freeX_inv e2
    cases e2
    exact ⟨f1, q⟩
def xLbIf (i : Nat) (t : XT) (x : XL) : XL := fun ps ρ ρl => (t ρl).to fun b ρ1 => iteX b (.rt (.sh (.bool false)) (ρ.set i none)) (x ps ρ ρ1)
@[simp ↓] theorem xLbIf_at (i : Nat) (t : XT) (x : XL) (ps : List (PyData × Bool)) (ρ ρl : Rho) : xLbIf i t x ps ρ ρl = (t ρl).to fun b ρ1 => iteX b (.rt (.sh (.bool false)) (ρ.set i none)) (x ps ρ ρ1) := Eq.trans rfl rfl
theorem lx_if {T : XT} {x : XL} {k : Nat} (ht : TX X a T) (h : LX X i ss x) : LX X i (.If a [.Return (some (.Constant (.bool false) k p1)) p2] [] pos :: ss) (xLbIf i T x) := lxI (lb_if ht h) fun ps ρ ρl E q => by
  obtain ⟨b, ρ1, e1, q⟩ := to_toS (x := T) (k := fun b ρ1 => iteX b (.rt (.sh (.bool false)) (ρ.set i none)) (x ps ρ ρ1)) (ρ := ρl) (E := E) q
  refine ⟨b, ρ1, e1, ?_⟩
  cases b <;> exact q
def newsOk (ps : List (PyData × Bool)) : Bool := ps.all fun p => match p with | (.list d, true) => decide (d.length ≤ 1000) | _ => true
def xLbEnd (x : XM) : XL := fun ps ρ _ => if newsOk ps then x ps ρ else .bad
theorem xLbEnd_ok {x : XM} {ps : List (PyData × Bool)} {ρ ρl : Rho} (h : newsOk ps = true) : xLbEnd x ps ρ ρl = x ps ρ := if_pos h
theorem lx_end {x : XM} (hm : m ≤ 1000) (h : MX X m i ss x) : LX X i ss (xLbEnd x) := lxI (lb_end hm h) fun ps ρ ρl E q => by
  by_cases c : newsOk ps = true
  · have q : toS (fun _ => xLbEnd x ps ρ ρl) ρ E := q
    rw [xLbEnd_ok c] at q
    refine ⟨fun d hd => ?_, q⟩
    have := List.all_eq_true.mp c _ hd
    simpa using this
  · have q : toS (fun _ => xLbEnd x ps ρ ρl) ρ E := q
    have e : xLbEnd x ps ρ ρl = .bad := if_neg c
    rw [e] at q
    exact q.elim
def xMbNil (i : Nat) : XM := fun _ ρ => .nx (ρ.set i none)
@[simp ↓] theorem xMbNil_at (i : Nat) (ps : List (PyData × Bool)) (ρ : Rho) : xMbNil i ps ρ = .nx (ρ.set i none) := Eq.trans rfl rfl
theorem mx_nil : MX X m i [] (xMbNil i) := mxI mb_nil fun ps ρ E q => q
def xMbThen (i : Nat) (x : XS) : XM := fun _ ρ => x (ρ.set i none)
@[simp ↓] theorem xMbThen_at (i : Nat) (x : XS) (ps : List (PyData × Bool)) (ρ : Rho) : xMbThen i x ps ρ = x (ρ.set i none) := Eq.trans rfl rfl
theorem mx_then {x : XS} (h : SXs X ss x) : MX X m i ss (xMbThen i x) := mxI (mb_then h) fun ps ρ E q => q
def isNew (ps : List (PyData × Bool)) (k : Nat) : Bool := match ps[k]? with | some (_, true) => true | _ => false
def xMbAt (k : Nat) (x : XM) : XM := fun ps ρ => if isNew ps k then x ps ρ else .bad
theorem xMbAt_ok {x : XM} {k : Nat} {ps : List (PyData × Bool)} {ρ : Rho} (h : isNew ps k = true) : xMbAt k x ps ρ = x ps ρ := if_pos h
theorem mbAt_of {x : XM} {k : Nat} (ps : List (PyData × Bool)) (ρ : Rho) (E : Ek) (q : toM (xMbAt k x) ps ρ E) : gMbAt k (toM x) ps ρ E := by
  by_cases c : isNew ps k = true
  · have q : toS (xMbAt k x ps) ρ E := q
    unfold toS at q
    rw [xMbAt_ok c] at q
    refine ⟨?_, q⟩
    unfold isNew at c
    split at c
    · next d h => exact ⟨d, h⟩
    · cases c
  · have q : toS (xMbAt k x ps) ρ E := q
    have e : xMbAt k x ps ρ = .bad := if_neg c
    unfold toS at q
    rw [e] at q
    exact q.elim
theorem mx_append {k kk : Nat} {y : Str} {x : XM} (hy : PE X (.Name y py) (tVar i)) (ha : ∃ t, Shut X [a] t) (h : MX X m i ss x)
    (hbase : attributeBase (.Subscript (.Name y py) (.Constant (.int (k : Int)) kk p1) p2) "append" X.env (eval (.Subscript (.Name y py) (.Constant (.int (k : Int)) kk p1) p2) X.env) = eval (.Subscript (.Name y py) (.Constant (.int (k : Int)) kk p1) p2) X.env := by rfl)
    (hfew : ((backTo cpos (starEach [a] X.env)).all (fun x => !x.1) && (backToKw cpos (keywordEach [] X.env)).all (fun x => x.1.isSome) && decide ([a].length + ([] : List Keyword).length + (if ([] : List Keyword).isEmpty then 0 else 1) < 30)) = true := by rfl)
    (hline : (apos.endLine == cpos.line) = true := by rfl) (hs : starEach [a] X.env = [(false, eval a X.env)] := by rfl) (hplain : (backTo cpos (starEach [] X.env)).any (·.1) = false := by rfl) (hx : PlainIx (.Constant (.int (k : Int)) kk p1) := by exact fun _ _ => rfl)
    (hsw : swapsWith (.Call (.Attribute (.Subscript (.Name y py) (.Constant (.int (k : Int)) kk p1) p2) "append" apos) [a] [] cpos) none pos.line X.env = pure false := by rfl) :
    MX X (m + 1) i (.Expr (.Call (.Attribute (.Subscript (.Name y py) (.Constant (.int (k : Int)) kk p1) p2) "append" apos) [a] [] cpos) pos :: ss) (xMbAt k x) := by
  obtain ⟨t, ht⟩ := ha
  exact mxI (mb_append hy ht h hbase hfew hline hs hplain hx hsw) mbAt_of
theorem mx_clear {k kk : Nat} {y : Str} {x : XM} (hy : PE X (.Name y py) (tVar i)) (h : MX X m i ss x)
    (hbase : attributeBase (.Subscript (.Name y py) (.Constant (.int (k : Int)) kk p1) p2) "clear" X.env (eval (.Subscript (.Name y py) (.Constant (.int (k : Int)) kk p1) p2) X.env) = eval (.Subscript (.Name y py) (.Constant (.int (k : Int)) kk p1) p2) X.env := by rfl)
    (hline : (apos.endLine == cpos.line) = true := by rfl) (hx : PlainIx (.Constant (.int (k : Int)) kk p1) := by exact fun _ _ => rfl)
    (hsw : swapsWith (.Call (.Attribute (.Subscript (.Name y py) (.Constant (.int (k : Int)) kk p1) p2) "clear" apos) [] [] cpos) none pos.line X.env = pure false := by rfl) :
    MX X (m + 1) i (.Expr (.Call (.Attribute (.Subscript (.Name y py) (.Constant (.int (k : Int)) kk p1) p2) "clear" apos) [] [] cpos) pos :: ss) (xMbAt k x) := mxI (mb_clear hy h hbase hline hx hsw) mbAt_of
end
end DX
set_option Elab.async false
set_option linter.all false
set_option maxRecDepth 100000
namespace PF
open PySem L2 DL DX
def U_always_left_v2_1 : XT :=
  (xB (xBin (vEq true) (xVar 0) (xTup xNil)))
def U_always_left_v2_2 : XS :=
  (xSeq (xExp (xMeth vAppend 1 (xCons (xBin vIx (xIxU 0 (xC (.int 1))) (xC (.int 0))) xNil)))
    (xAsg (xIxU 0 (xC (.int 0))) (xN 0)))
def U_always_left_v2 : XS :=
  (xSeq (xAsg (xLst xNil) (xN 1))
    (xSeq (xWhile U_always_left_v2_1 U_always_left_v2_2)
    (xRet (xVarO 1))))
def F_always_left_v2 : Fn := runD 1 2 U_always_left_v2
theorem F_always_left_v2_eq (a0 : PyData) : F_always_left_v2 [a0] = (U_always_left_v2 [some (.sh a0), none]).fin := runD_eq (m := 1) (n := 2) U_always_left_v2 [a0] _ rfl rfl
end PF
set_option Elab.async false
set_option linter.all false
set_option maxRecDepth 100000
namespace PF
open PySem L2 DL DX
def U_always_right_v2_1 : XT :=
  (xB (xBin (vEq true) (xVar 0) (xTup xNil)))
def U_always_right_v2_2 : XS :=
  (xSeq (xExp (xMeth vAppend 1 (xCons (xBin vIx (xIxU 0 (xC (.int 1))) (xC (.int 0))) xNil)))
    (xAsg (xIxU 0 (xC (.int 2))) (xN 0)))
def U_always_right_v2 : XS :=
  (xSeq (xAsg (xLst xNil) (xN 1))
    (xSeq (xWhile U_always_right_v2_1 U_always_right_v2_2)
    (xRet (xVarO 1))))
def F_always_right_v2 : Fn := runD 1 2 U_always_right_v2
theorem F_always_right_v2_eq (a0 : PyData) : F_always_right_v2 [a0] = (U_always_right_v2 [some (.sh a0), none]).fin := runD_eq (m := 1) (n := 2) U_always_right_v2 [a0] _ rfl rfl
end PF
set_option Elab.async false
set_option linter.all false
set_option maxRecDepth 100000
namespace PF
open PySem L2 DL DX
def U_edges_v2 : XS :=
  (xRet (xTupN (xConsN (xCall F_always_left_v2 (xCons (xVar 0) xNil)) (xConsN (xCall F_always_right_v2 (xCons (xVar 0) xNil)) xNilN))))
def F_edges_v2 : Fn := runD 1 1 U_edges_v2
theorem F_edges_v2_eq (a0 : PyData) : F_edges_v2 [a0] = (U_edges_v2 [some (.sh a0)]).fin := runD_eq (m := 1) (n := 1) U_edges_v2 [a0] _ rfl rfl
end PF
set_option Elab.async false
set_option linter.all false
set_option maxRecDepth 100000
namespace PF
open PySem L2 DL DX
def U_law_kind_v22_1 : XT :=
  (xAnd (xB (xVar 4)) (xB (xIsE [("NoKey", true)] 0)))
def U_law_kind_v22 : XS :=
  (xSeq (xAsg (xLst (xCons (xTup (xCons (xC (.str "NoKey")) (xCons (xIsE [("NoKey", true)] 0) xNil))) (xCons (xTup (xCons (xC (.str "NoTurn")) (xCons (xIsE [("NoKey", false)] 0) xNil))) xNil))) (xN 1))
    (xSeq (xAsg (xLc (xiLst (xVar 1)) [3, 4] (xT2t 2 (xsCons (xN 3) (xsCons (xN 4) xsNil))) U_law_kind_v22_1 (xVar 3)) (xN 2))
    (xSeq (xIf (xB (xBin (vEq false) (xLenU 2) (xC (.int 1)))) (xRet (xIxU 2 (xC (.int 0)))) xNext)
    (xRet (xC (.str ""))))))
def F_law_kind_v22 : Fp := runP 1 5 U_law_kind_v22
theorem F_law_kind_v22_eq (a0 : OO)  : F_law_kind_v22 a0 [] = (U_law_kind_v22 [some (.io a0), none, none, none, none]).finP := runP_eq (m := 1) (n := 5) U_law_kind_v22 a0 [] _ rfl rfl
end PF
set_option Elab.async false
set_option linter.all false
set_option maxRecDepth 100000
namespace PF
open PySem L2 DL DX
def U_seam_v2 : XS :=
  (xSeq (xAsg (xCallX F_part_at_v2 (xCons (xVar 0) (xCons (xVar 1) xNil))) (xN 2))
    (xCl (xRet (xTupN (xConsN (xCall F_always_right_v2 (xCons (xIxU 2 (xC (.int 0))) xNil)) (xConsN (xCall F_always_left_v2 (xCons (xIxU 2 (xC (.int 2))) xNil)) xNilN))))))
def F_seam_v2 : Fn := runD 2 3 U_seam_v2
theorem F_seam_v2_eq (a0 a1 : PyData) : F_seam_v2 [a0, a1] = (U_seam_v2 [some (.sh a0), some (.sh a1), none]).fin := runD_eq (m := 2) (n := 3) U_seam_v2 [a0, a1] _ rfl rfl
end PF
set_option Elab.async false
set_option linter.all false
set_option maxRecDepth 100000
namespace PF
open PySem L2 DL DX
def U_law_heard_v14_1 : XS :=
  (xRet (xCallX F_seam_v2 (xCons (xVar 0) (xCons (xVar 1) xNil))))
def U_law_heard_v14_2 : XS :=
  (xSeq (xIf (xB (xBin (vEq true) (xCallO F_law_kind_v22 2 xNil) (xC (.str "NoKey")))) (xRet (xTup (xCons (xC (.str "other")) xNil))) xNext)
    (xRet (xTup (xCons (xC (.str "NoKey")) (xCons (xAttr ["NoKey"] 2 "key") xNil)))))
def U_law_heard_v14 : XS :=
  (xTry ["NoKey"] 2 U_law_heard_v14_1 U_law_heard_v14_2)
def F_law_heard_v14 : Fn := runD 2 3 U_law_heard_v14
theorem F_law_heard_v14_eq (a0 a1 : PyData) : F_law_heard_v14 [a0, a1] = (U_law_heard_v14 [some (.sh a0), some (.sh a1), none]).fin := runD_eq (m := 2) (n := 3) U_law_heard_v14 [a0, a1] _ rfl rfl
end PF
set_option Elab.async false
set_option linter.all false
set_option maxRecDepth 100000
namespace PF
open PySem L2 DL DX
def U_law_seam : XS :=
  (xSeq (xAsg (xCall F_law_part_v2 (xCons (xVar 0) (xCons (xVar 1) xNil))) (xN 2))
    (xRet (xTup (xCons (xCall F_law_down (xCons (xIxU 2 (xC (.int 0))) (xCons (xC (.int 2)) xNil))) (xCons (xCall F_law_down (xCons (xIxU 2 (xC (.int 2))) (xCons (xC (.int 0)) xNil))) xNil)))))
def F_law_seam : Fn := runD 2 3 U_law_seam
theorem F_law_seam_eq (a0 a1 : PyData) : F_law_seam [a0, a1] = (U_law_seam [some (.sh a0), some (.sh a1), none]).fin := runD_eq (m := 2) (n := 3) U_law_seam [a0, a1] _ rfl rfl
end PF
set_option Elab.async false
set_option linter.all false
set_option maxRecDepth 100000
set_option maxHeartbeats 1000000
namespace PF
open PySem L2 DL DX
theorem left14 {t : T} (h : t.hi ≤ 100) : F_always_left_v2 [t.d] = .ok (.own (.lst (t.rowL.map .int))) () := by
  rw [F_always_left_v2_eq]
  have w := xWhile_eq (t := U_always_left_1) (b := U_always_left_2) 101 (by decide) (al_loop 100 t [] h (by simp)) (by intro z; cases z)
  have w : xWhile U_always_left_v2_1 U_always_left_v2_2 _ = _ := w
  simp only [List.map_nil, List.nil_append] at w
  simp [U_always_left_v2, gr_ok, w]
theorem right14 {t : T} (h : t.hi ≤ 100) : F_always_right_v2 [t.d] = .ok (.own (.lst (t.rowR.map .int))) () := by
  rw [F_always_right_v2_eq]
  have w := xWhile_eq (t := U_always_right_1) (b := U_always_right_2) 101 (by decide) (ar_loop 100 t [] h (by simp)) (by intro z; cases z)
  have w : xWhile U_always_right_v2_1 U_always_right_v2_2 _ = _ := w
  simp only [List.map_nil, List.nil_append] at w
  simp [U_always_right_v2, gr_ok, w]
theorem edges14 {t : T} (h : t.hi ≤ 100) : F_edges_v2 [t.d] = .ok (.new [(.list (t.rowL.map .int), true), (.list (t.rowR.map .int), true)]) () := by
  have e1 := left14 h
  have e2 := right14 h
  rw [F_edges_v2_eq]
  generalize t.d = D at *
  simp [U_edges_v2, e1, e2, gr_ok]
theorem seam14 {t l r : T} {c : Card} {key : Int} (h : t.hi ≤ 100) (hp : t.part key = .node l c r) : F_seam_v2 [t.d, .int key] = .ok (.new [(.list (l.rowR.map .int), true), (.list (r.rowL.map .int), true)]) () := by
  have pe := part2_eq (key := key) h (by rw [hp]; rfl)
  have ph := part_hi (key := key) t
  rw [hp] at pe ph
  simp only [T.hi] at ph
  have e1 := right14 (t := l) (by omega)
  have e2 := left14 (t := r) (by omega)
  rw [F_seam_v2_eq]
  simp only [T.d] at pe
  generalize t.d = D at *
  simp [U_seam_v2, xCallX, pe, e1, e2, gr_ok]
theorem seam14_ex {t : T} {key : Int} (h : t.hi ≤ 100) (hp : (t.part key).isN = false) : F_seam_v2 [t.d, .int key] = .ex ⟨"NoKey", [.str "key", .int key]⟩ () := by
  have pe := part2_ex (key := key) h hp
  rw [F_seam_v2_eq]
  generalize t.d = D at *
  simp [U_seam_v2, xCallX, pe]
theorem kind14 (k : PyData) : F_law_kind_v22 (.exc ⟨"NoKey", [.str "key", k]⟩) [] = .ok (.sh (.str "NoKey")) (.exc ⟨"NoKey", [.str "key", k]⟩) := by
  rw [F_law_kind_v22_eq]
  have i1 := isx (tab := [("NoKey", true)]) (c := "NoKey") (as := [.str "key", k]) (b := true) (by decide +kernel)
  have i2 := isx (tab := [("NoKey", false)]) (c := "NoKey") (as := [.str "key", k]) (b := false) (by decide +kernel)
  simp [U_law_kind_v22, U_law_kind_v22_1, xIsE, -isX_at, i1, i2, gr_ok, gd_ok, lcX, calmX, wipeR, restR, turnX]
theorem heard14 {t l r : T} {c : Card} {key : Int} (h : t.hi ≤ 100) (hp : t.part key = .node l c r) : F_law_heard_v14 [t.d, .int key] = .ok (.new [(.list (l.rowR.map .int), true), (.list (r.rowL.map .int), true)]) () := by
  have e := seam14 h hp
  rw [F_law_heard_v14_eq]
  generalize t.d = D at *
  simp [U_law_heard_v14, U_law_heard_v14_1, xTry, xCallX, e]
theorem heard14_ex {t : T} {key : Int} (h : t.hi ≤ 100) (hp : (t.part key).isN = false) : F_law_heard_v14 [t.d, .int key] = .ok (.sh (.tuple [.str "NoKey", .int key])) () := by
  have e := seam14_ex h hp
  have k := kind14 (.int key)
  have v : vEq true (.str "NoKey") (.str "NoKey") = some (.sh (.bool false)) := by
    rw [vEq_lay ⟨by decide +kernel, by decide⟩ (by decide +kernel)]
    have q : PyData.eqv (.str "NoKey") (.str "NoKey") = true := by decide +kernel
    rw [q]
    rfl
  rw [F_law_heard_v14_eq]
  generalize t.d = D at *
  simp (disch := first | assumption | omega | decide) [U_law_heard_v14, U_law_heard_v14_1, U_law_heard_v14_2, xTry, xCallX, xExp, e, inX, xAttr, gd_ok, gr_ok, k, v]
theorem law_seam14 {t l r : T} {c : Card} {key : Int} (h : t.hi ≤ 100) (hp : t.part key = .node l c r) : F_law_seam [t.d, .int key] = .ok (.sh (.tuple [.list (l.rowR.map .int), .list (r.rowL.map .int)])) () := by
  have pe := lpart_eq (key := key) h (by rw [hp]; rfl)
  have ph := part_hi (key := key) t
  rw [hp] at pe ph
  simp only [T.hi] at ph
  have e1 := down2_eq (t := l) (by omega)
  have e2 := down0_eq (t := r) (by omega)
  rw [F_law_seam_eq]
  simp only [T.d] at pe
  generalize t.d = D at *
  simp [U_law_seam, pe, e1, e2, gr_ok]
theorem part_none {key : Int} : ∀ t : T, (∀ c ∈ t.cards, c.k ≠ key) → (t.part key).isN = false
  | .nil, _ => rfl
  | .node l c r, h => by
    have hc := h c (by simp [T.cards])
    have h1 := part_none l fun x hx => h x (by simp [T.cards, hx])
    have h2 := part_none r fun x hx => h x (by simp [T.cards, hx])
    rw [T.part, if_neg hc]
    split
    · exact h1
    · exact h2
theorem rowL_has : ∀ t : T, (∀ x ∈ t.rowL, HasK t x) ∧ t.rowL.length ≤ t.hi
  | .nil => by simp [T.rowL]
  | .node l c r => by
    obtain ⟨h1, h2⟩ := rowL_has l
    rw [T.rowL]
    refine ⟨fun x hx => ?_, by simp only [List.length_cons, T.hi]; omega⟩
    rcases List.mem_cons.mp hx with rfl | hx
    · exact has_node.mpr (.inr (.inl rfl))
    · exact has_node.mpr (.inl (h1 x hx))
theorem rowR_has : ∀ t : T, (∀ x ∈ t.rowR, HasK t x) ∧ t.rowR.length ≤ t.hi
  | .nil => by simp [T.rowR]
  | .node l c r => by
    obtain ⟨h1, h2⟩ := rowR_has r
    rw [T.rowR]
    refine ⟨fun x hx => ?_, by simp only [List.length_cons, T.hi]; omega⟩
    rcases List.mem_cons.mp hx with rfl | hx
    · exact has_node.mpr (.inr (.inl rfl))
    · exact has_node.mpr (.inr (.inr (h1 x hx)))
theorem fit_ints {xs : List Int} (h : ∀ x ∈ xs, Few x) (hl : xs.length ≤ 100) : Fit 20000 2 (.list (xs.map .int)) := by
  have q := fit_list (B := 101) (D := 1) (xs := xs.map .int) (fun z hz => by
    obtain ⟨x, hx, rfl⟩ := List.mem_map.mp hz
    exact fit_int (h x hx))
  refine q.up ?_ (by omega)
  rw [List.length_map]
  omega
theorem alike14 {a b : List Int} (ha : ∀ x ∈ a, Few x) (hb : ∀ x ∈ b, Few x) (la : a.length ≤ 100) (lb : b.length ≤ 100) : F_law_alike [.tuple [.list (a.map .int), .list (b.map .int)], .tuple [.list (a.map .int), .list (b.map .int)]] = .ok (.sh (.bool true)) () :=
  alike_tup ((fit_2 (fit_ints ha la) (fit_ints hb lb)).up (B' := 50000) (D' := 3) (by omega) (by omega)) (by omega) (by omega)
theorem run_len {ks : List Int} : ∀ (n : Nat) (a : Int), (∀ i : Nat, i < n → a + i ∈ ks) → n ≤ ks.length := fun n a h => by
  have nd : ((List.range n).map fun (i : Nat) => a + (i : Int)).Nodup := (List.nodup_range).map _ (fun x y ne e => ne (by omega))
  have sub : ∀ x ∈ (List.range n).map fun (i : Nat) => a + (i : Int), x ∈ ks := fun x hx => by
    obtain ⟨i, hi, rfl⟩ := List.mem_map.mp hx
    exact h i (List.mem_range.mp hi)
  have := nd.length_le_of_subset sub
  simpa using this
theorem strange14L {o : OO} {ks : List Int} {w : PyData} (hl : ks.length ≤ 64) : ∀ (f n : Nat) (key : Int), n + f = 65 → (∀ i : Nat, i < n → key - n + i ∈ ks) → ∃ key' n', key' ∉ ks ∧ whileX U_law_strange_1 U_law_strange_2 (f + 1) [some (.io o), some (.sh (.list (ks.map .int))), some (.sh w), some (.sh (.int key)), some (.sh (.int n))] = .nx [some (.io o), some (.sh (.list (ks.map .int))), some (.sh w), some (.sh (.int key')), some (.sh (.int n'))]
  | 0, n, key, h, hi => by
    obtain rfl : n = 65 := by omega
    have := run_len 65 _ hi
    omega
  | f + 1, n, key, h, hi => by
    have e := in_ints false ks key
    simp only [Bool.false_eq_true, if_false] at e
    rw [whileX_succ]
    by_cases z : key ∈ ks
    · rw [decide_eq_true z] at e
      have lt : (n : Int) < 65 := by omega
      have test : U_law_strange_1 [some (.io o), some (.sh (.list (ks.map .int))), some (.sh w), some (.sh (.int key)), some (.sh (.int n))] = .ok true [some (.io o), some (.sh (.list (ks.map .int))), some (.sh w), some (.sh (.int key)), some (.sh (.int n))] := by
        simp [U_law_strange_1, e]
        omega
      have body : U_law_strange_2 [some (.io o), some (.sh (.list (ks.map .int))), some (.sh w), some (.sh (.int key)), some (.sh (.int n))] = .nx [some (.io o), some (.sh (.list (ks.map .int))), some (.sh w), some (.sh (.int (key + 1))), some (.sh (.int ((n + 1 : Nat) : Int)))] := by
        simp [U_law_strange_2]
      obtain ⟨k', n', hk, ih⟩ := strange14L (o := o) (ks := ks) (w := w) hl f (n + 1) (key + 1) (by omega) (fun i hi' => by
        by_cases c : i = n
        · have : key + 1 - ((n + 1 : Nat) : Int) + i = key := by omega
          rw [this]; exact z
        · have : key + 1 - ((n + 1 : Nat) : Int) + i = key - n + i := by omega
          rw [this]; exact hi i (by omega))
      refine ⟨k', n', hk, ?_⟩
      rw [test]
      simp only [Re.to_ok, iteX_true]
      rw [body, Ou.loop_nx, ih]
    · rw [decide_eq_false z] at e
      exact ⟨key, n, z, by simp [U_law_strange_1, e]⟩
theorem strange14 {p : Pot} (hp : p.Ok) {ks : List Int} (hl : ks.length ≤ 64) : ∃ (i : Int) (q : Pot), F_law_strange p.o [.list (ks.map .int)] = .ok (.sh (.int i)) q.o ∧ q.Ok ∧ i ∉ ks := by
  obtain ⟨w, p1, e1, a1, a2, o1⟩ := take_ex hp (m := 5) (by decide) (by decide)
  rw [F_law_strange_eq]
  obtain ⟨x, hx, _⟩ := pick5 (a := -1) (b := 1000000000000000001) (c := 999999999999999999999999999999999999999999999999999999999999) (d := -999999999999999999999999999999999999999999999999999999999999) (e := 3) a1 a2
  have nn := ne_ints (ks := ks)
  have mid : ∃ (k0 : Int) (p2 : Pot), p2.Ok ∧ xIf (xAnd (xB (xBin (vEq false) (xVar 2) (xC (.int 4)))) (xB (xBin (vEq true) (xVar 1) (xLst xNil)))) (xAsg (xBin vAdd (xIxU 1 (xCallO F_law_take 0 (xCons (xLenU 1) xNil))) (xC (.int 1))) (xN 3)) xNext [some (.io p1.o), some (.sh (.list (ks.map .int))), some (.sh (.int w)), some (.sh (.int x)), none] = .nx [some (.io p2.o), some (.sh (.list (ks.map .int))), some (.sh (.int w)), some (.sh (.int k0)), none] := by
    by_cases h4 : w = 4
    · subst h4
      by_cases h0 : ks = []
      · rw [decide_eq_true h0] at nn
        exact ⟨x, p1, o1, by simp [nn, gr_ok]⟩
      · rw [decide_eq_false h0] at nn
        have pos := List.length_pos_iff.mpr h0
        obtain ⟨i, p2, e2, b1, b2, o2⟩ := take_ex o1 (m := ks.length) (by omega) (by omega)
        obtain ⟨y, hy⟩ : ∃ y, ks[i.toNat]? = some y := ⟨ks[i.toNat]'(by omega), by simp⟩
        have ix := ixX_map (f := PyData.int) b1 hy
        exact ⟨y + 1, p2, o2, by simp [nn, gr_ok, e2, ix]⟩
    · exact ⟨x, p1, o1, by simp [h4]⟩
  obtain ⟨k0, p2, o2, mid⟩ := mid
  obtain ⟨k', n', nk, lp⟩ := strange14L (o := p2.o) (ks := ks) (w := .int w) hl 65 0 k0 (by omega) (fun i h => by omega)
  have lp := xWhile_eq (t := U_law_strange_1) (b := U_law_strange_2) 66 (by decide) lp (by intro z; cases z)
  refine ⟨k', p2, ?_, o2, nk⟩
  have s1 : xAsg (xCallO F_law_take 0 (xCons (xC (.int 5)) xNil)) (xN 2) [some (.io p.o), some (.sh (.list (ks.map .int))), none, none, none] = .nx [some (.io p1.o), some (.sh (.list (ks.map .int))), some (.sh (.int w)), none, none] := by
    simp [e1]
  have s2 : xAsg (xBin vIx (xTup (xCons (xSh vNeg (xC (.int 1))) (xCons (xBin vAdd (xBin vPow (xC (.int 10)) (xC (.int 18))) (xC (.int 1))) (xCons (xBin vSub (xBin vPow (xC (.int 10)) (xC (.int 60))) (xC (.int 1))) (xCons (xBin vSub (xC (.int 1)) (xBin vPow (xC (.int 10)) (xC (.int 60)))) (xCons (xC (.int 3)) xNil)))))) (xVar 2)) (xN 3) [some (.io p1.o), some (.sh (.list (ks.map .int))), some (.sh (.int w)), none, none] = .nx [some (.io p1.o), some (.sh (.list (ks.map .int))), some (.sh (.int w)), some (.sh (.int x)), none] := by
    simp (disch := first | assumption | omega) [gr_ok, gd_ok, T60, hx]
  have s4 : xAsg (xC (.int 0)) (xN 4) [some (.io p2.o), some (.sh (.list (ks.map .int))), some (.sh (.int w)), some (.sh (.int k0)), none] = .nx [some (.io p2.o), some (.sh (.list (ks.map .int))), some (.sh (.int w)), some (.sh (.int k0)), some (.sh (.int ((0 : Nat) : Int)))] := by
    simp
  rw [U_law_strange, xSeq_at, s1, Ou.seq_nx, xSeq_at, s2, Ou.seq_nx, xSeq_at, mid, Ou.seq_nx, xSeq_at, s4, Ou.seq_nx, xSeq_at, lp, Ou.seq_nx]
  simp
end PF
set_option Elab.async false
set_option linter.all false
set_option maxRecDepth 100000
namespace PF
open PySem L2 DL DX
theorem lcX_ex {α β s : Type} {vs : List Nat} {g : XG} {T : XT} {e : XE} {enc : α → PyData} {dec : β → PyData} {S : s → Rho} {ok : s → Prop} {good : β → Prop} : ∀ (xs : List α) (acc : List PyData) (z : s), ok z → (∀ x ∈ xs, ∀ z, ok z → ∃ y z', turnX vs g T e (enc x) (S z) = .ok (some (dec y)) (S z') ∧ good y ∧ ok z') → acc.length + xs.length ≤ 1000000 →
    ∃ (ys : List β) (z' : s), lcX vs g T e (xs.map enc) acc (S z) = .ok (acc ++ ys.map dec) (S z') ∧ ys.length = xs.length ∧ (∀ y ∈ ys, good y) ∧ ok z'
  | [], acc, z, hz, _, _ => ⟨[], z, by simp [lcX], rfl, (fun y hy => by cases hy), hz⟩
  | x :: xs, acc, z, hz, h, hl => by
    rw [List.length_cons] at hl
    obtain ⟨y, z1, e1, g1, o1⟩ := h x List.mem_cons_self z hz
    obtain ⟨ys, z2, e2, l2, g2, o2⟩ := lcX_ex (α := α) (dec := dec) (ok := ok) (good := good) xs (acc ++ [dec y]) z1 o1 (fun w hw => h w (List.mem_cons_of_mem _ hw)) (by rw [List.length_append, List.length_cons, List.length_nil]; omega)
    refine ⟨y :: ys, z2, ?_, by rw [List.length_cons, l2, List.length_cons], fun w hw => ?_, o2⟩
    · rw [List.map_cons, lcX, e1, Re.bind_ok]
      simp only
      rw [gr_ok (by omega), e2]
      simp
    · rcases List.mem_cons.mp hw with rfl | hw
      · exact g1
      · exact g2 w hw
end PF
set_option Elab.async false
set_option linter.all false
set_option maxRecDepth 100000
namespace PF
open PySem L2 DL DX
def U_law_right_v38_1 : XS :=
  (xIf (xB (xBin (vEq true) (xCall F_law_heard_v14 (xCons (xVar 2) (xCons (xVar 7) xNil))) (xTup (xCons (xC (.str "NoKey")) (xCons (xVar 7) xNil))))) (xRet (xC (.bool false))) xNext)
def U_law_right_v38_2 : XS :=
  (xNewB 6 (xCall F_law_heard_v14 (xCons (xVar 2) (xCons (xVar 7) xNil)))
    (xLbIf 6 (xNt (xB (xCall F_law_alike (xCons (xVar 6) (xCons (xCall F_law_seam (xCons (xVar 2) (xCons (xVar 7) xNil))) xNil)))))
    (xLbEnd (xMbAt 0 (xMbAt 1 (xMbNil 6))))))
def U_law_right_v38_3 : XS :=
  (xNewB 6 (xCall F_edges_v2 (xCons (xVar 2) xNil))
    (xLbIf 6 (xNt (xB (xCall F_law_alike (xCons (xVar 6) (xCons (xTup (xCons (xCall F_law_down (xCons (xVar 2) (xCons (xC (.int 0)) xNil))) (xCons (xCall F_law_down (xCons (xVar 2) (xCons (xC (.int 2)) xNil))) xNil))) xNil)))))
    (xLbEnd (xMbAt 0 (xMbAt 1 (xMbThen 6 (xSeq (xFor (xiSeq (xVar 3)) (xN 7) U_law_right_v38_2)
    (xFor (xiSeq (xVar 4)) (xN 7) U_law_right_v38_1))))))))
def U_law_right_v38_4 : XE :=
  (xCallO F_law_strange 0 (xCons (xVar 3) xNil))
def U_law_right_v38_5 : XE :=
  (xIxU 8 (xC (.int 0)))
def U_law_right_v38 : XS :=
  (xSeq (xAsg (xBin vIx (xTup (xCons (xC (.int 64)) (xCons (xC (.int 12)) xNil))) (xBlt vInt (xCons (xBin vGt (xCallO F_law_take 0 (xCons (xC (.int 4)) xNil)) (xC (.int 0))) xNil))) (xN 1))
    (xSeq (xAsg (xCallO F_law_tree 0 (xCons (xCallO F_law_cards 0 (xCons (xCallO F_law_many 0 (xCons (xVar 1) xNil)) xNil)) xNil)) (xN 2))
    (xSeq (xAsg (xLc (xiSeq (xCall (F_law_row 70) (xCons (xVar 2) xNil))) [8] (xN 8) xYes U_law_right_v38_5) (xN 3))
    (xSeq (xAsg (xLc (xiOf rng1 (xCons (xC (.int 3)) xNil)) [9] (xN 9) xYes U_law_right_v38_4) (xN 4))
    (xSeq (xFor (xiOf rng1 (xCons (xC (.int 2)) xNil)) (xN 5) U_law_right_v38_3)
    (xRet (xC (.bool true))))))))
def F_law_right_v38 : Fp := runP 1 10 U_law_right_v38
theorem F_law_right_v38_eq (a0 : OO)  : F_law_right_v38 a0 [] = (U_law_right_v38 [some (.io a0), none, none, none, none, none, none, none, none, none]).finP := runP_eq (m := 1) (n := 10) U_law_right_v38 a0 [] _ rfl rfl
end PF
set_option Elab.async false
set_option linter.all false
set_option maxRecDepth 100000
namespace PF
open PySem L2 DL DX
def U_law_k14_v2_1 : XS :=
  (xIf (xNt (xB (xCallT F_law_right_v38 (xCall F_law_pot_v2 (xCons (xVar 0) (xCons (xVar 1) xNil)))))) (xRet (xC (.bool false))) xNext)
def U_law_k14_v2 : XS :=
  (xSeq (xFor (xiOf rng1 (xCons (xBlt vMax2 (xCons (xC (.int 4)) (xCons (xBlt vMin2 (xCons (xLenU 0) (xCons (xC (.int 20)) xNil))) xNil))) xNil)) (xN 1) U_law_k14_v2_1)
    (xRet (xC (.bool true))))
def F_law_k14_v2 : Fn := runD 1 2 U_law_k14_v2
theorem F_law_k14_v2_eq (a0 : PyData) : F_law_k14_v2 [a0] = (U_law_k14_v2 [some (.sh a0), none]).fin := runD_eq (m := 1) (n := 2) U_law_k14_v2 [a0] _ rfl rfl
end PF
set_option Elab.async false
set_option linter.all false
set_option maxRecDepth 100000
set_option maxHeartbeats 2000000
namespace PF
open PySem L2 DL DX
abbrev S14 (po : List PyData) (most : Int) (D : PyData) (KS : List PyData) (s4 s5 s7 : Option R) : Rho := [some (.io (.lst po)), some (.sh (.int most)), some (.sh D), some (.sh (.list KS)), s4, s5, none, s7, none, none]
abbrev Z14 (po : List PyData) (most : Int) (D : PyData) (KS ST : List PyData) (s5 s6 s7 : Option R) : Rho := [some (.sh (.list po)), some (.sh (.int most)), some (.sh D), some (.sh (.list KS)), some (.sh (.list ST)), s5, s6, s7, none, none]
theorem frz14 (po : List PyData) (most : Int) (D : PyData) (KS ST : List PyData) (s4 : Option R) (ag : Int) (s7 : Option R) (h4 : frzS s4 = some (.sh (.list ST))) (h : frzS s7 = s7) : frzR (S14 po most D KS s4 (some (.sh (.int ag))) s7) = Z14 po most D KS ST (some (.sh (.int ag))) none s7 := by
  simp [h, h4]
theorem new14 (A B : List PyData) (la : A.length ≤ 1000) (lb : B.length ≤ 1000) : newsOk [(.list A, true), (.list B, true)] = true := by simp [newsOk, la, lb]
theorem len14 {a : List Int} (h : a.length ≤ 100) : (a.map PyData.int).length ≤ 1000 := by rw [List.length_map]; omega
theorem part_has {t l r : T} {c : Card} {key : Int} (hp : t.part key = .node l c r) : ∀ {k : Int}, HasK (T.node l c r) k → HasK t k := by
  induction t with
  | nil => simp [T.part] at hp
  | node a x b iha ihb =>
    intro k hk
    rw [T.part] at hp
    split at hp
    · rw [hp]; exact hk
    · split at hp
      · exact has_node.mpr (.inl (iha hp hk))
      · exact has_node.mpr (.inr (.inr (ihb hp hk)))
theorem few_of14 {t l r : T} {c : Card} {key : Int} (hf : ∀ c ∈ t.cards, c.Few) (hp : t.part key = .node l c r) {k : Int} (hk : HasK (T.node l c r) k) : Few k := by
  obtain ⟨x, hx, e⟩ := part_has hp hk
  exact e ▸ (hf x hx).k
theorem key14 {t : T} (hh : t.hi ≤ 70) (hr : Rise t.cards) (hf : ∀ c ∈ t.cards, c.Few) {key : Int} (hk : HasK t key) (po : List PyData) (most ag : Int) (KS ST : List PyData) (s4 : Option R) (h4 : frzS s4 = some (.sh (.list ST))) :
    U_law_right_v38_2 (S14 po most t.d KS s4 (some (.sh (.int ag))) (some (.sh (.int key)))) = .nx (S14 po most t.d KS s4 (some (.sh (.int ag))) (some (.sh (.int key)))) := by
  obtain ⟨l, c, r, hp, _⟩ := sroad_seam t hr hk
  have ph := part_hi (key := key) t
  rw [hp] at ph
  simp only [T.hi] at ph
  have e1 := heard14 (t := t) (by omega) hp
  have e2 := law_seam14 (t := t) (by omega) hp
  have sub : ∀ k, HasK (T.node l c r) k → Few k := fun k hk' => few_of14 hf hp hk'
  obtain ⟨h1, h2⟩ := rowR_has l
  obtain ⟨h3, h5⟩ := rowL_has r
  have al := alike14 (a := l.rowR) (b := r.rowL) (fun x hx => sub x (has_node.mpr (.inl (h1 x hx)))) (fun x hx => sub x (has_node.mpr (.inr (.inr (h3 x hx))))) (by omega) (by omega)
  have nk := new14 (l.rowR.map .int) (r.rowL.map .int) (len14 (by omega)) (len14 (by omega))
  generalize l.rowR.map PyData.int = A at *
  generalize r.rowL.map PyData.int = B at *
  generalize t.d = D at *
  rw [U_law_right_v38_2, xNewB_at, frz14 _ _ _ _ ST _ _ _ h4 rfl]
  have c1 : xCall F_law_heard_v14 (xCons (xVar 2) (xCons (xVar 7) xNil)) (Z14 po most D KS ST (some (.sh (.int ag))) none (some (.sh (.int key)))) = .ok (.new [(.list A, true), (.list B, true)]) (Z14 po most D KS ST (some (.sh (.int ag))) none (some (.sh (.int key)))) := by
    simp [e1]
  rw [c1]
  have t1 : xNt (xB (xCall F_law_alike (xCons (xVar 6) (xCons (xCall F_law_seam (xCons (xVar 2) (xCons (xVar 7) xNil))) xNil)))) (Z14 po most D KS ST (some (.sh (.int ag))) (some (.sh (.tuple [.list A, .list B]))) (some (.sh (.int key)))) = .ok false (Z14 po most D KS ST (some (.sh (.int ag))) (some (.sh (.tuple [.list A, .list B]))) (some (.sh (.int key)))) := by
    simp [e2, al]
  have mb : xMbAt 0 (xMbAt 1 (xMbNil 6)) [(.list A, true), (.list B, true)] (S14 po most D KS s4 (some (.sh (.int ag))) (some (.sh (.int key)))) = .nx (S14 po most D KS s4 (some (.sh (.int ag))) (some (.sh (.int key)))) := by
    rw [xMbAt_ok rfl, xMbAt_ok rfl, xMbNil_at]
    rfl
  show opX (freeX (some none) (some _)) _ = _
  simp only [freeX_none, opX_some, Re.to_ok, newB_new]
  show opX (freeX (some none) (some _)) _ = _
  simp only [freeX_none, opX_some]
  show xLbIf 6 _ _ _ _ (Z14 po most D KS ST (some (.sh (.int ag))) (some (.sh (.tuple [.list A, .list B]))) (some (.sh (.int key)))) = _
  rw [xLbIf_at, t1, Re.to_ok, iteX_false, xLbEnd_ok nk, mb]
theorem nokey14 (i : Int) : vEq true (.tuple [.str "NoKey", .int i]) (.tuple [.str "NoKey", .int i]) = some (.sh (.bool false)) := by
  have so : PyData.strOk (Str.ofString "NoKey") = true := by decide +kernel
  have l : (PyData.tuple [.str "NoKey", .int i]).canLay0 = true := by simp [PyData.canLay0, PyData.canLayAll0, so]
  rw [vEq_lay ⟨l, by simp [PyData.depth, PyData.depthAll]⟩ l]
  simp [PyData.eqv, PyData.eqvAll]
theorem str14 {t : T} (hh : t.hi ≤ 70) {key : Int} (hk : ∀ c ∈ t.cards, c.k ≠ key) (po : List PyData) (most ag : Int) (KS ST : List PyData) :
    U_law_right_v38_1 (S14 po most t.d KS (some (.sh (.list ST))) (some (.sh (.int ag))) (some (.sh (.int key)))) = .nx (S14 po most t.d KS (some (.sh (.list ST))) (some (.sh (.int ag))) (some (.sh (.int key)))) := by
  have e := heard14_ex (t := t) (key := key) (by omega) (part_none t hk)
  have v := nokey14 key
  generalize t.d = D at *
  simp [U_law_right_v38_1, e, v, gr_ok]
theorem turn14 {t : T} (hh : t.hi ≤ 70) (hr : Rise t.cards) (hf : ∀ c ∈ t.cards, c.Few) {st : List Int} (hs : ∀ x ∈ st, ∀ c ∈ t.cards, c.k ≠ x) (po : List PyData) (most ag : Int) (s4 : Option R) (h4 : s4 = some (.sh (.list (st.map .int))) ∨ s4 = some (.own (.lst (st.map .int)))) (s7 : Option R) (z7 : frzS s7 = s7) (h7 : NIo s7) :
    ∃ t7, U_law_right_v38_3 (S14 po most t.d ((t.cards.map Card.k).map .int) s4 (some (.sh (.int ag))) s7) = .nx (S14 po most t.d ((t.cards.map Card.k).map .int) (some (.sh (.list (st.map .int)))) (some (.sh (.int ag))) t7) ∧ frzS t7 = t7 ∧ NIo t7 := by
  have z4 : frzS s4 = some (.sh (.list (st.map .int))) := by rcases h4 with rfl | rfl <;> rfl
  obtain ⟨ρ1, f1, k1⟩ := forX_inv (g := xN 7) (b := U_law_right_v38_2) (enc := PyData.int) (fun xs ρ => (∀ x ∈ xs, HasK t x) ∧ ∃ s7, ρ = S14 po most t.d ((t.cards.map Card.k).map .int) s4 (some (.sh (.int ag))) s7 ∧ frzS s7 = s7 ∧ NIo s7)
    (by
      rintro x xs _ ⟨hx, s7, rfl, z7, h7⟩
      have k := key14 hh hr hf (hx x (by simp)) po most ag ((t.cards.map Card.k).map .int) (st.map .int) s4 z4
      generalize (t.cards.map Card.k).map PyData.int = KS at *
      generalize st.map PyData.int = ST at *
      exact ⟨S14 po most t.d KS s4 (some (.sh (.int ag))) (some (.sh (.int x))), _, by simp [h7 _], .inl k, fun y hy => hx y (by simp [hy]), _, rfl, rfl, .sh _⟩)
    (t.cards.map Card.k) _ ⟨fun x hx => by
      obtain ⟨c, hc, rfl⟩ := List.mem_map.mp hx
      exact ⟨c, hc, rfl⟩, s7, rfl, z7, h7⟩
  obtain ⟨_, u7, rfl, y7, i7⟩ := k1
  obtain ⟨ρ2, f2, k2⟩ := forX_inv (g := xN 7) (b := U_law_right_v38_1) (enc := PyData.int) (fun xs ρ => (∀ x ∈ xs, ∀ c ∈ t.cards, c.k ≠ x) ∧ ∃ s7, ρ = S14 po most t.d ((t.cards.map Card.k).map .int) (some (.sh (.list (st.map .int)))) (some (.sh (.int ag))) s7 ∧ frzS s7 = s7 ∧ NIo s7)
    (by
      rintro x xs _ ⟨hx, s7, rfl, z7, h7⟩
      have k := str14 hh (hx x (by simp)) po most ag ((t.cards.map Card.k).map .int) (st.map .int)
      generalize (t.cards.map Card.k).map PyData.int = KS at *
      generalize st.map PyData.int = ST at *
      exact ⟨S14 po most t.d KS (some (.sh (.list ST))) (some (.sh (.int ag))) (some (.sh (.int x))), _, by simp [h7 _], .inl k, fun y hy => hx y (by simp [hy]), _, rfl, rfl, .sh _⟩)
    st _ ⟨hs, u7, rfl, y7, i7⟩
  obtain ⟨_, v7, rfl, w7, j7⟩ := k2
  refine ⟨v7, ?_, w7, j7⟩
  have e1 := edges14 (t := t) (by omega)
  have d0 := down0_eq (t := t) (by omega)
  have d2 := down2_eq (t := t) (by omega)
  obtain ⟨h1, h2⟩ := rowL_has t
  obtain ⟨h3, h5⟩ := rowR_has t
  have sub : ∀ k, HasK t k → Few k := fun k ⟨c, hc, e⟩ => e ▸ (hf c hc).k
  have al := alike14 (a := t.rowL) (b := t.rowR) (fun x hx => sub x (h1 x hx)) (fun x hx => sub x (h3 x hx)) (by omega) (by omega)
  have nk := new14 (t.rowL.map .int) (t.rowR.map .int) (len14 (by omega)) (len14 (by omega))
  generalize t.rowL.map PyData.int = A at *
  generalize t.rowR.map PyData.int = B at *
  generalize (t.cards.map Card.k).map PyData.int = KS at *
  generalize st.map PyData.int = ST at *
  generalize t.d = D at *
  rw [U_law_right_v38_3, xNewB_at, frz14 _ _ _ _ ST _ _ _ z4 z7]
  have c1 : xCall F_edges_v2 (xCons (xVar 2) xNil) (Z14 po most D KS ST (some (.sh (.int ag))) none s7) = .ok (.new [(.list A, true), (.list B, true)]) (Z14 po most D KS ST (some (.sh (.int ag))) none s7) := by
    simp [e1]
  rw [c1]
  have t1 : xNt (xB (xCall F_law_alike (xCons (xVar 6) (xCons (xTup (xCons (xCall F_law_down (xCons (xVar 2) (xCons (xC (.int 0)) xNil))) (xCons (xCall F_law_down (xCons (xVar 2) (xCons (xC (.int 2)) xNil))) xNil))) xNil)))) (Z14 po most D KS ST (some (.sh (.int ag))) (some (.sh (.tuple [.list A, .list B]))) s7) = .ok false (Z14 po most D KS ST (some (.sh (.int ag))) (some (.sh (.tuple [.list A, .list B]))) s7) := by
    simp [d0, d2, al, gr_ok]
  have mb : xMbAt 0 (xMbAt 1 (xMbThen 6 (xSeq (xFor (xiSeq (xVar 3)) (xN 7) U_law_right_v38_2) (xFor (xiSeq (xVar 4)) (xN 7) U_law_right_v38_1)))) [(.list A, true), (.list B, true)] (S14 po most D KS s4 (some (.sh (.int ag))) s7) = .nx (S14 po most D KS (some (.sh (.list ST))) (some (.sh (.int ag))) v7) := by
    rw [xMbAt_ok rfl, xMbAt_ok rfl, xMbThen_at]
    show xSeq _ _ (S14 po most D KS s4 (some (.sh (.int ag))) s7) = _
    rcases h4 with rfl | rfl
    · simp [f1, f2]
    · simp [f1, f2]
  show opX (freeX (some none) (some _)) _ = _
  simp only [freeX_none, opX_some, Re.to_ok, newB_new]
  show opX (freeX (some none) (some _)) _ = _
  simp only [freeX_none, opX_some]
  show xLbIf 6 _ _ _ _ (Z14 po most D KS ST (some (.sh (.int ag))) (some (.sh (.tuple [.list A, .list B]))) s7) = _
  rw [xLbIf_at, t1, Re.to_ok, iteX_false, xLbEnd_ok nk, mb]
theorem right14x {p : Pot} (hp : p.Ok) : ∃ q : Pot, F_law_right_v38 p.o [] = .ok (.sh (.bool true)) q.o ∧ q.Ok := by
  obtain ⟨v, p1, e1, a1, a2, o1⟩ := take_ex hp (m := 4) (by decide) (by decide)
  obtain ⟨most, hm, im⟩ : ∃ most : Int, (3 ≤ most ∧ most ≤ 64) ∧ ixX [.int 64, .int 12] (if 0 < v then 1 else 0) = some (.sh (.int most)) := by
    by_cases z : 0 < v
    · exact ⟨12, by omega, by rw [if_pos z]; rfl⟩
    · exact ⟨64, by omega, by rw [if_neg z]; rfl⟩
  obtain ⟨n, p2, e2, b1, b2, o2⟩ := many_ex o1 (m := most) (by omega) (by omega)
  obtain ⟨cs, p3, e3, cl, o3, hr, hf⟩ := cards2_ex o2 (n := n) b1 (by omega)
  obtain ⟨t, p4, e4, ht, o4⟩ := tree2_ex o3 (cs := cs) (by omega)
  subst ht
  have hr' := rise_of hr
  have hl := T.hi_len t
  have rw1 := row18_eq 70 t (by omega) (by omega)
  have lk : (t.cards.map Card.k).length ≤ 64 := by rw [List.length_map]; omega
  have lc1 := lcX_all (vs := [8]) (g := xN 8) (T := xYes) (e := U_law_right_v38_5) (enc := Card.d) (f := fun c : Card => PyData.int c.k) (ρ := [some (.io p4.o), some (.sh (.int most)), some (.sh t.d), none, none, none, none, none, none, none]) t.cards [] (fun c _ => by
    simp [turnX, U_law_right_v38_5, calmX, wipeR, Card.d]) (by simp; omega)
  rw [List.nil_append] at lc1
  have em : t.cards.map (fun c : Card => PyData.int c.k) = (t.cards.map Card.k).map .int := by rw [List.map_map]; rfl
  rw [em] at lc1
  obtain ⟨x0, p4', es0, o4', nx0⟩ := strange14 o4 lk
  obtain ⟨st', p5, lc2, ls, gs, o5⟩ := lcX_ex (vs := [9]) (g := xN 9) (T := xYes) (e := U_law_right_v38_4) (enc := fun (i : Nat) => PyData.int i) (dec := PyData.int) (S := fun (z : Pot) => [some (.io z.o), some (.sh (.int most)), some (.sh t.d), some (.sh (.list ((t.cards.map Card.k).map .int))), none, none, none, none, none, none]) (ok := fun z => z.Ok) (good := fun x => x ∉ t.cards.map Card.k) [1, 2] [.int x0] p4' o4'
    (fun i _ z hz => by
      obtain ⟨x, q, e, oq, nx⟩ := strange14 hz lk
      refine ⟨x, q, ?_, nx, oq⟩
      generalize (t.cards.map Card.k).map PyData.int = KS at *
      simp [turnX, U_law_right_v38_4, calmX, wipeR, e]) (by simp)
  have t0 : turnX [9] (xN 9) xYes U_law_right_v38_4 (.int 0) [some (.io p4.o), some (.sh (.int most)), some (.sh t.d), some (.own (.lst ((t.cards.map Card.k).map .int))), none, none, none, none, none, none] = .ok (some (.int x0)) [some (.io p4'.o), some (.sh (.int most)), some (.sh t.d), some (.sh (.list ((t.cards.map Card.k).map .int))), none, none, none, none, none, none] := by
    generalize (t.cards.map Card.k).map PyData.int = KS at *
    simp [turnX, U_law_right_v38_4, calmX, wipeR, es0]
  have lc3 : lcX [9] (xN 9) xYes U_law_right_v38_4 (rangeD 0 3) [] [some (.io p4.o), some (.sh (.int most)), some (.sh t.d), some (.own (.lst ((t.cards.map Card.k).map .int))), none, none, none, none, none, none] = .ok ((x0 :: st').map .int) [some (.io p5.o), some (.sh (.int most)), some (.sh t.d), some (.sh (.list ((t.cards.map Card.k).map .int))), none, none, none, none, none, none] := by
    have r3 : rangeD 0 3 = PyData.int 0 :: [1, 2].map (fun (i : Nat) => PyData.int i) := rfl
    rw [r3, lcX, t0, Re.bind_ok]
    simp only
    rw [gr_ok (by simp), List.nil_append, lc2]
    rfl
  obtain ⟨st, hst⟩ : ∃ st, st = x0 :: st' := ⟨_, rfl⟩
  rw [← hst] at lc3
  have gs : ∀ x ∈ st, x ∉ t.cards.map Card.k := fun x hx => by
    rw [hst] at hx
    rcases List.mem_cons.mp hx with rfl | hx
    · exact nx0
    · exact gs x hx
  have hs : ∀ x ∈ st, ∀ c ∈ t.cards, c.k ≠ x := fun x hx c hc e => gs x hx (List.mem_map.mpr ⟨c, hc, e⟩)
  obtain ⟨u0, k0, y0, i0⟩ := turn14 (t := t) (by omega) hr' hf hs [.int p5.a, .int p5.b] most 0 (some (.own (.lst (st.map .int)))) (.inr rfl) none rfl .none
  obtain ⟨u1, k1, y1, i1⟩ := turn14 (t := t) (by omega) hr' hf hs [.int p5.a, .int p5.b] most 1 (some (.sh (.list (st.map .int)))) (.inl rfl) u0 y0 i0
  refine ⟨p5, ?_, o5⟩
  rw [F_law_right_v38_eq]
  generalize (t.cards.map Card.k).map PyData.int = KS at *
  generalize st.map PyData.int = ST at *
  have e3' : F_law_cards p2.o [.int n] = .ok (.sh (.list (t.cards.map Card.d))) p3.o := e3
  have e4' : F_law_tree p3.o [.list (t.cards.map Card.d)] = .ok (.sh t.d) p4.o := e4
  generalize t.cards.map Card.d = CD at *
  generalize t.d = D at *
  have q1 : xAsg (xBin vIx (xTup (xCons (xC (.int 64)) (xCons (xC (.int 12)) xNil))) (xBlt vInt (xCons (xBin vGt (xCallO F_law_take 0 (xCons (xC (.int 4)) xNil)) (xC (.int 0))) xNil))) (xN 1) [some (.io p.o), none, none, none, none, none, none, none, none, none] = .nx [some (.io p1.o), some (.sh (.int most)), none, none, none, none, none, none, none, none] := by
    simp [e1, im]
  have q2 : xAsg (xCallO F_law_tree 0 (xCons (xCallO F_law_cards 0 (xCons (xCallO F_law_many 0 (xCons (xVar 1) xNil)) xNil)) xNil)) (xN 2) [some (.io p1.o), some (.sh (.int most)), none, none, none, none, none, none, none, none] = .nx [some (.io p4.o), some (.sh (.int most)), some (.sh D), none, none, none, none, none, none, none] := by
    simp [e2, e3', e4']
  have q3 : xAsg (xLc (xiSeq (xCall (F_law_row 70) (xCons (xVar 2) xNil))) [8] (xN 8) xYes U_law_right_v38_5) (xN 3) [some (.io p4.o), some (.sh (.int most)), some (.sh D), none, none, none, none, none, none, none] = .nx [some (.io p4.o), some (.sh (.int most)), some (.sh D), some (.own (.lst KS)), none, none, none, none, none, none] := by
    simp (disch := first | assumption | omega) [rw1, calmX, wipeR, lc1, restR, gr_ok, gd_ok]
  have q4 : xAsg (xLc (xiOf rng1 (xCons (xC (.int 3)) xNil)) [9] (xN 9) xYes U_law_right_v38_4) (xN 4) [some (.io p4.o), some (.sh (.int most)), some (.sh D), some (.own (.lst KS)), none, none, none, none, none, none] = .nx (S14 [.int p5.a, .int p5.b] most D KS (some (.own (.lst ST))) none none) := by
    have e5 : p5.o = .lst [.int p5.a, .int p5.b] := rfl
    rw [e5] at lc3
    simp (disch := first | assumption | omega | decide) [calmX, wipeR, lc3, restR, gr_ok, gd_ok]
  have fx : forX (xN 5) U_law_right_v38_3 [.int 0, .int 1] (S14 [.int p5.a, .int p5.b] most D KS (some (.own (.lst ST))) none none) = .nx (S14 [.int p5.a, .int p5.b] most D KS (some (.sh (.list ST))) (some (.sh (.int 1))) u1) := by
    have x0 : xN 5 (.sh (.int 0)) (S14 [.int p5.a, .int p5.b] most D KS (some (.own (.lst ST))) none none) = some (S14 [.int p5.a, .int p5.b] most D KS (some (.own (.lst ST))) (some (.sh (.int 0))) none) := by simp
    have x1 : xN 5 (.sh (.int 1)) (S14 [.int p5.a, .int p5.b] most D KS (some (.sh (.list ST))) (some (.sh (.int 0))) u0) = some (S14 [.int p5.a, .int p5.b] most D KS (some (.sh (.list ST))) (some (.sh (.int 1))) u0) := by simp
    rw [forX_cons, x0, opX_some, k0, Ou.loop_nx, forX_cons, x1, opX_some, k1, Ou.loop_nx, forX_nil]
  have q5 : xFor (xiOf rng1 (xCons (xC (.int 2)) xNil)) (xN 5) U_law_right_v38_3 (S14 [.int p5.a, .int p5.b] most D KS (some (.own (.lst ST))) none none) = .nx (S14 [.int p5.a, .int p5.b] most D KS (some (.sh (.list ST))) (some (.sh (.int 1))) u1) := by
    have r2 : rangeD 0 2 = [.int 0, .int 1] := rfl
    simp (disch := first | assumption | omega | decide) [gd_ok, gr_ok, r2, fx]
  rw [U_law_right_v38, xSeq_at, q1, Ou.seq_nx, xSeq_at, q2, Ou.seq_nx, xSeq_at, q3, Ou.seq_nx, xSeq_at, q4, Ou.seq_nx, xSeq_at, q5, Ou.seq_nx]
  simp
  rfl
theorem loop14 {ns : List Int} (hl : ns.length ≤ 63) : ∀ (j k : Nat) (s1 : Option R), k + j ≤ 63 → NIo s1 → ∃ t1, forX (xN 1) U_law_k14_v2_1 (rangeD (k : Int) j) [some (.sh (.list (ns.map .int))), s1] = .nx [some (.sh (.list (ns.map .int))), t1]
  | 0, k, s1, _, _ => ⟨s1, rfl⟩
  | j + 1, k, s1, hk, h1 => by
    obtain ⟨p, ep, hp⟩ := pot_v2_ex hl (k := (k : Int)) (by omega) (by omega)
    obtain ⟨q, er, oq⟩ := right14x hp
    obtain ⟨t1, ih⟩ := loop14 hl j (k + 1) (some (.sh (.int k))) (by omega) (.sh _)
    refine ⟨t1, ?_⟩
    generalize ns.map PyData.int = W at *
    have ei : (k : Int) + 1 = ((k + 1 : Nat) : Int) := by omega
    have tg : xN 1 (.sh (.int k)) [some (.sh (.list W)), s1] = some [some (.sh (.list W)), some (.sh (.int k))] := by simp [h1 _]
    have body : U_law_k14_v2_1 [some (.sh (.list W)), some (.sh (.int k))] = .nx [some (.sh (.list W)), some (.sh (.int k))] := by
      simp [U_law_k14_v2_1, ep, er]
    rw [rangeD_cons, forX_cons, ei, tg, opX_some, body, Ou.loop_nx, ih]
theorem law_k14_v2_true (ns : List Int) (hl : ns.length ≤ 63) : F_law_k14_v2 [.list (ns.map .int)] = .ok (.sh (.bool true)) () := by
  rw [F_law_k14_v2_eq]
  obtain ⟨t1, e⟩ := loop14 hl (if 4 < if 20 < (ns.length : Int) then 20 else (ns.length : Int) then if 20 < (ns.length : Int) then 20 else (ns.length : Int) else 4).toNat 0 none (by split <;> split <;> omega) .none
  have z0 : ((0 : Nat) : Int) = 0 := rfl
  rw [z0] at e
  have mx : (ns.map PyData.int).length = ns.length := by simp
  generalize ns.map PyData.int = W at *
  simp (disch := first | assumption | omega) [U_law_k14_v2, mx, gd_ok, gr_ok, e]
end PF
set_option Elab.async false
set_option linter.all false
set_option maxRecDepth 100000
set_option maxHeartbeats 4000000
namespace K14
open PySem PyProof.Rows L2 DL DX PF
def top (i : Nat) : Stmt := PySem.Challenge.pw_crestkeys_k14_seams_and_edges.main.body.getD i (.Pass ⟨0, 0, 0, 0⟩)
section
variable {P : Program} {w : World} {K : PySem.W.Frag} {mg : Str → Option Value} {base : Heap}
abbrev s_part_at_v2 : Stmt := top 5
theorem sc_part_at_v2 : FnScope ["tree", "key", "part", "left", "card", "right"] ["tree", "key"] (defScope s_part_at_v2) := ⟨rfl, rfl, rfl, by decide +kernel, rfl, by decide +kernel, by decide +kernel⟩
theorem calx_part_at_v2 (D : Df K mg "part_at" s_part_at_v2 ["tree", "key"])   (xi_NoKey : XIni K mg "NoKey" "key")   : CalX P w K mg base 2 "part_at" ["tree", "key"] (spX K (cX F_part_at_v2)) := by
  have sc := sc_part_at_v2
  exact calXx (xs := U_part_at_v2) (m := 2) (n := 6) (k := 1) D sc_part_at_v2 (by decide) (fun f cdv A outer s H E hr =>
    (sxxs_cons (sxn_of (sx_set (i := 2) sc.nd rfl (Or.inl rfl) (xe_var (pv 0))))
    (sxxs_cons (sxn_of (sx_while PassesOwn.never (tx_ne hr (xe_var (pv 2)) (xe_tup ax_nil)) (sxs_cons (sx_asg (xe_var (pv 2)) (gx_seq rfl (gxs_cons (gx_name (pg_name (i := 3) sc.nd rfl (Or.inl rfl))) (gxs_cons (gx_name (pg_name (i := 4) sc.nd rfl (Or.inl rfl))) (gxs_cons (gx_name (pg_name (i := 5) sc.nd rfl (Or.inl rfl))) gxs_nil)))))
    (sxs_cons (sx_if (tx_eq hr (xe_ixU (pv 4) xe_int) (xe_var (pv 1))) (sxs_one (sx_ret (xe_var (pv 2)))) sxs_nil)
    (sxs_one (sx_set (i := 2) sc.nd rfl (Or.inl rfl) (xe_ifE (tx_lt (xe_var (pv 1)) (xe_ixU (pv 4) xe_int)) (xe_var (pv 3)) (xe_var (pv 5)))))))))
    (sxxs_one (sxx_raise rfl (hr.mono (j := 0 + 1) (by omega)) xi_NoKey rfl (xe_var (pv 1)))))))
abbrev s_always_left_v2 : Stmt := top 7
theorem sc_always_left_v2 : FnScope ["tree", "met"] ["tree"] (defScope s_always_left_v2) := ⟨rfl, rfl, rfl, by decide +kernel, rfl, by decide +kernel, by decide +kernel⟩
theorem cal_always_left_v2 (D : Df K mg "always_left" s_always_left_v2 ["tree"])     : Cal P w K mg base 1 "always_left" ["tree"] (spD K (cD F_always_left_v2)) := by
  have sc := sc_always_left_v2
  exact calX (xs := U_always_left_v2) (m := 1) (n := 2) (k := 0) D sc_always_left_v2 (by decide) (fun f cdv A outer s H E hr =>
    (sxs_cons (sx_set (i := 1) sc.nd rfl (Or.inl rfl) (xe_lst ax_nil))
    (sxs_cons (sx_while PassesOwn.never (tx_ne hr (xe_var (pv 0)) (xe_tup ax_nil)) (sxs_cons (sx_expr (xe_append (pv 1) (ax_cons (xe_ix (xe_ixU (pv 0) xe_int) xe_int) ax_nil)))
    (sxs_one (sx_set (i := 0) sc.nd rfl (Or.inl rfl) (xe_ixU (pv 0) xe_int)))))
    (sxs_one (sx_ret (xe_varO (pv 1)))))))
abbrev s_always_right_v2 : Stmt := top 8
theorem sc_always_right_v2 : FnScope ["tree", "met"] ["tree"] (defScope s_always_right_v2) := ⟨rfl, rfl, rfl, by decide +kernel, rfl, by decide +kernel, by decide +kernel⟩
theorem cal_always_right_v2 (D : Df K mg "always_right" s_always_right_v2 ["tree"])     : Cal P w K mg base 1 "always_right" ["tree"] (spD K (cD F_always_right_v2)) := by
  have sc := sc_always_right_v2
  exact calX (xs := U_always_right_v2) (m := 1) (n := 2) (k := 0) D sc_always_right_v2 (by decide) (fun f cdv A outer s H E hr =>
    (sxs_cons (sx_set (i := 1) sc.nd rfl (Or.inl rfl) (xe_lst ax_nil))
    (sxs_cons (sx_while PassesOwn.never (tx_ne hr (xe_var (pv 0)) (xe_tup ax_nil)) (sxs_cons (sx_expr (xe_append (pv 1) (ax_cons (xe_ix (xe_ixU (pv 0) xe_int) xe_int) ax_nil)))
    (sxs_one (sx_set (i := 0) sc.nd rfl (Or.inl rfl) (xe_ixU (pv 0) xe_int)))))
    (sxs_one (sx_ret (xe_varO (pv 1)))))))
abbrev s_seam_v2 : Stmt := top 9
theorem sc_seam_v2 : FnScope ["tree", "key", "part"] ["tree", "key"] (defScope s_seam_v2) := ⟨rfl, rfl, rfl, by decide +kernel, rfl, by decide +kernel, by decide +kernel⟩
theorem calx_seam_v2 (D : Df K mg "seam" s_seam_v2 ["tree", "key"])   (c_always_left_v2 : Cal P w K mg base 1 "always_left" ["tree"] (spD K (cD F_always_left_v2))) (c_always_right_v2 : Cal P w K mg base 1 "always_right" ["tree"] (spD K (cD F_always_right_v2))) (cx_part_at_v2 : CalX P w K mg base 2 "part_at" ["tree", "key"] (spX K (cX F_part_at_v2))) : CalX P w K mg base 3 "seam" ["tree", "key"] (spX K (cX F_seam_v2)) := by
  have sc := sc_seam_v2
  exact calXx (xs := U_seam_v2) (m := 2) (n := 3) (k := 2) D sc_seam_v2 (by decide) (fun f cdv A outer s H E hr =>
    (sxxs_cons (sxx_set (i := 2) sc.nd rfl (Or.inl rfl) (exx_callC cx_part_at_v2 hr (by decide) rfl (ax_cons (xe_var (pv 0)) (ax_cons (xe_var (pv 1)) ax_nil)) rfl))
    (sxxs_one (sxn_of (sx_ret (xe_tupN (nx_cons (xe_callC c_always_right_v2 hr (by decide) rfl (ax_cons (xe_ixU (pv 2) xe_int) ax_nil)) (nx_cons (xe_callC c_always_left_v2 hr (by decide) rfl (ax_cons (xe_ixU (pv 2) xe_int) ax_nil)) nx_nil))))))))
abbrev s_edges_v2 : Stmt := top 10
theorem sc_edges_v2 : FnScope ["tree"] ["tree"] (defScope s_edges_v2) := ⟨rfl, rfl, rfl, by decide +kernel, rfl, by decide +kernel, by decide +kernel⟩
theorem cal_edges_v2 (D : Df K mg "edges" s_edges_v2 ["tree"])   (c_always_left_v2 : Cal P w K mg base 1 "always_left" ["tree"] (spD K (cD F_always_left_v2))) (c_always_right_v2 : Cal P w K mg base 1 "always_right" ["tree"] (spD K (cD F_always_right_v2)))  : Cal P w K mg base 2 "edges" ["tree"] (spD K (cD F_edges_v2)) := by
  have sc := sc_edges_v2
  exact calX (xs := U_edges_v2) (m := 1) (n := 1) (k := 1) D sc_edges_v2 (by decide) (fun f cdv A outer s H E hr =>
    (sxs_one (sx_ret (xe_tupN (nx_cons (xe_callC c_always_left_v2 hr (by decide) rfl (ax_cons (xe_var (pv 0)) ax_nil)) (nx_cons (xe_callC c_always_right_v2 hr (by decide) rfl (ax_cons (xe_var (pv 0)) ax_nil)) nx_nil))))))
abbrev s_law_pot_v2 : Stmt := top 12
theorem sc_law_pot_v2 : FnScope ["script", "k", "cell"] ["script", "k"] (defScope s_law_pot_v2) := ⟨rfl, rfl, rfl, by decide +kernel, rfl, by decide +kernel, by decide +kernel⟩
theorem cal_law_pot_v2 (D : Df K mg "_law_pot" s_law_pot_v2 ["script", "k"]) (m_abs : mg "abs" = none) (m_int : mg "int" = none) (m_len : mg "len" = none)    : Cal P w K mg base 1 "_law_pot" ["script", "k"] (spD K (cD F_law_pot_v2)) := by
  have sc := sc_law_pot_v2
  exact calX (xs := U_law_pot_v2) (m := 2) (n := 3) (k := 0) D sc_law_pot_v2 (by decide) (fun f cdv A outer s H E hr =>
    (sxs_cons (sx_set (i := 2) sc.nd rfl (Or.inl rfl) xe_int)
    (sxs_cons (sx_if (tx_lt (xe_var (pv 1)) (xe_lenU rfl m_len (pv 0))) (sxs_one (sx_set (i := 2) sc.nd rfl (Or.inl rfl) (xe_mod (xe_abs rfl m_abs (ax_cons (xe_ixU (pv 0) (xe_var (pv 1))) ax_nil)) (xe_pow (xe_pow xe_int xe_int) xe_int)))) sxs_nil)
    (sxs_one (sx_ret (xe_lst (ax_cons (xe_mulB (xe_var (pv 2)) (xe_intB rfl m_int (ax_cons (xe_ge (xe_var (pv 2)) (xe_pow xe_int xe_int)) ax_nil))) (ax_cons (xe_mod (xe_pow (xe_add (xe_add (xe_mod (xe_var (pv 2)) xe_int) (xe_mulB xe_int (xe_var (pv 1)))) xe_int) xe_int) xe_int) ax_nil))))))))
abbrev s_law_take : Stmt := top 13
theorem sc_law_take : FnScope ["pot", "many", "found"] ["pot", "many"] (defScope s_law_take) := ⟨rfl, rfl, rfl, by decide +kernel, rfl, by decide +kernel, by decide +kernel⟩
theorem cal_law_take (D : Df K mg "_law_take" s_law_take ["pot", "many"])     : Cal P w K mg base 1 "_law_take" ["pot", "many"] (spP K (cP F_law_take)) := by
  have sc := sc_law_take
  exact calXP (xs := U_law_take) (m := 2) (n := 3) (k := 0) D sc_law_take (by decide) (fun f cdv A outer s H E hr =>
    (sxs_cons (sx_if (tx_gt (xe_ixU (pv 0) xe_int) xe_int) (sxs_cons (sx_set (i := 2) sc.nd rfl (Or.inl rfl) (xe_mod (xe_ixU (pv 0) xe_int) (xe_var (pv 1))))
    (sxs_cons (sx_setIx (xe_fdiv (xe_ixU (pv 0) xe_int) (xe_var (pv 1))) (pv 0) xe_int)
    (sxs_one (sx_ret (xe_var (pv 2)))))) sxs_nil)
    (sxs_cons (sx_setIx (xe_mod (xe_add (xe_mulB (xe_ixU (pv 0) xe_int) xe_int) xe_int) xe_int) (pv 0) xe_int)
    (sxs_one (sx_ret (xe_mod (xe_fdiv (xe_mod (xe_mulB (xe_ixU (pv 0) xe_int) (xe_ixU (pv 0) xe_int)) xe_int) xe_int) (xe_var (pv 1))))))))
abbrev s_law_great_v2 : Stmt := top 14
theorem sc_law_great_v2 : FnScope ["pot"] ["pot"] (defScope s_law_great_v2) := ⟨rfl, rfl, rfl, by decide +kernel, rfl, by decide +kernel, by decide +kernel⟩
theorem cal_law_great_v2 (D : Df K mg "_law_great" s_law_great_v2 ["pot"])   (c_law_take : Cal P w K mg base 1 "_law_take" ["pot", "many"] (spP K (cP F_law_take)))  : Cal P w K mg base 2 "_law_great" ["pot"] (spP K (cP F_law_great_v2)) := by
  have sc := sc_law_great_v2
  exact calXP (xs := U_law_great_v2) (m := 1) (n := 1) (k := 1) D sc_law_great_v2 (by decide) (fun f cdv A outer s H E hr =>
    (sxs_one (sx_ret (xe_add (xe_mulB (xe_add (xe_mulB (xe_callCO c_law_take hr (by decide) rfl (pv 0) (ax_cons (xe_pow xe_int xe_int) ax_nil)) (xe_pow xe_int xe_int)) (xe_callCO c_law_take hr (by decide) rfl (pv 0) (ax_cons (xe_pow xe_int xe_int) ax_nil))) (xe_pow xe_int xe_int)) (xe_callCO c_law_take hr (by decide) rfl (pv 0) (ax_cons (xe_pow xe_int xe_int) ax_nil))))))
abbrev s_law_keys : Stmt := top 15
theorem sc_law_keys : FnScope ["pot", "many", "way", "key", "keys", "k", "one"] ["pot", "many"] (defScope s_law_keys) := ⟨rfl, rfl, rfl, by decide +kernel, rfl, by decide +kernel, by decide +kernel⟩
theorem cal_law_keys (D : Df K mg "_law_keys" s_law_keys ["pot", "many"]) (m_range : mg "range" = none)  (c_law_take : Cal P w K mg base 1 "_law_take" ["pot", "many"] (spP K (cP F_law_take)))  : Cal P w K mg base 2 "_law_keys" ["pot", "many"] (spP K (cP F_law_keys)) := by
  have sc := sc_law_keys
  exact calXP (xs := U_law_keys) (m := 2) (n := 7) (k := 1) D sc_law_keys (by decide) (fun f cdv A outer s H E hr =>
    (sxs_cons (sx_set (i := 2) sc.nd rfl (Or.inl rfl) (xe_callCO c_law_take hr (by decide) rfl (pv 0) (ax_cons xe_int ax_nil)))
    (sxs_cons (sx_set (i := 3) sc.nd rfl (Or.inl rfl) (xe_ix (xe_tup (ax_cons xe_int (ax_cons xe_int (ax_cons xe_int (ax_cons xe_int ax_nil))))) (xe_var (pv 2))))
    (sxs_cons (sx_set (i := 4) sc.nd rfl (Or.inr rfl) (xe_lst ax_nil))
    (sxs_cons (sx_for rfl (ix_rng1 rfl m_range (ax_cons (xe_var (pv 1)) ax_nil)) (gx_name (pg_name (i := 5) sc.nd rfl (Or.inl rfl))) (sxs_cons (sx_expr (xe_append (pv 4) (ax_cons (xe_var (pv 3)) ax_nil)))
    (sxs_one (sx_set (i := 3) sc.nd rfl (Or.inl rfl) (xe_add (xe_add (xe_var (pv 3)) xe_int) (xe_mulB (xe_callCO c_law_take hr (by decide) rfl (pv 0) (ax_cons (xe_ix (xe_tup (ax_cons xe_int (ax_cons xe_int (ax_cons (xe_pow xe_int xe_int) (ax_cons xe_int ax_nil))))) (xe_var (pv 2))) ax_nil)) (xe_ix (xe_tup (ax_cons xe_int (ax_cons xe_int (ax_cons (xe_pow xe_int xe_int) (ax_cons xe_int ax_nil))))) (xe_var (pv 2)))))))) PassesOwn.never)
    (sxs_cons (sx_if (tx_eq hr (xe_var (pv 2)) xe_int) (sxs_one (sx_set (i := 4) sc.nd rfl (Or.inr rfl) (xe_lc (own := [("one", 6)]) rfl sc.nd (ix_seq (xe_var (pv 4))) (blkOk_by (own := [("one", 6)]) (N := ["pot", "many", "way", "key", "keys", "k", "one"]) (sc := defScope s_law_keys) (by decide +kernel)) (gbx_name fun _ _ _ _ _ => pg_name (i := 6) sc.nd rfl (Or.inl rfl)) (by decide) (fun _ _ _ _ _ => txs_nil) (fun _ _ _ _ _ => (xe_add (xe_sub (xe_pow xe_int xe_int) (xe_ixU (pv 4) (xe_neg xe_int))) (xe_var (pv 6))))) (hs := sw_cell rfl))) sxs_nil)
    (sxs_one (sx_ret (xe_var (pv 4))))))))))
abbrev s_law_rank : Stmt := top 16
theorem sc_law_rank : FnScope ["pot", "way"] ["pot", "way"] (defScope s_law_rank) := ⟨rfl, rfl, rfl, by decide +kernel, rfl, by decide +kernel, by decide +kernel⟩
theorem cal_law_rank (D : Df K mg "_law_rank" s_law_rank ["pot", "way"])   (c_law_great_v2 : Cal P w K mg base 2 "_law_great" ["pot"] (spP K (cP F_law_great_v2))) (c_law_take : Cal P w K mg base 1 "_law_take" ["pot", "many"] (spP K (cP F_law_take)))  : Cal P w K mg base 3 "_law_rank" ["pot", "way"] (spP K (cP F_law_rank)) := by
  have sc := sc_law_rank
  exact calXP (xs := U_law_rank) (m := 2) (n := 2) (k := 2) D sc_law_rank (by decide) (fun f cdv A outer s H E hr =>
    (sxs_cons (sx_if (tx_lt (xe_var (pv 1)) xe_int) (sxs_one (sx_ret (xe_ix (xe_tup (ax_cons xe_int (ax_cons (xe_add xe_int (xe_callCO c_law_take hr (by decide) rfl (pv 0) (ax_cons xe_int ax_nil))) (ax_cons (xe_mulB (xe_pow xe_int xe_int) (xe_callCO c_law_take hr (by decide) rfl (pv 0) (ax_cons xe_int ax_nil))) ax_nil)))) (xe_var (pv 1))))) sxs_nil)
    (sxs_one (sx_ret (xe_callCO c_law_great_v2 hr (by decide) rfl (pv 0) ax_nil)))))
abbrev s_law_cards : Stmt := top 17
theorem sc_law_cards : FnScope ["pot", "many", "way", "worths", "cards", "key", "rank"] ["pot", "many"] (defScope s_law_cards) := ⟨rfl, rfl, rfl, by decide +kernel, rfl, by decide +kernel, by decide +kernel⟩
theorem cal_law_cards (D : Df K mg "_law_cards" s_law_cards ["pot", "many"]) (m_len : mg "len" = none)  (c_law_keys : Cal P w K mg base 2 "_law_keys" ["pot", "many"] (spP K (cP F_law_keys))) (c_law_rank : Cal P w K mg base 3 "_law_rank" ["pot", "way"] (spP K (cP F_law_rank))) (c_law_take : Cal P w K mg base 1 "_law_take" ["pot", "many"] (spP K (cP F_law_take)))  : Cal P w K mg base 4 "_law_cards" ["pot", "many"] (spP K (cP F_law_cards)) := by
  have sc := sc_law_cards
  exact calXP (xs := U_law_cards) (m := 2) (n := 7) (k := 3) D sc_law_cards (by decide) (fun f cdv A outer s H E hr =>
    (sxs_cons (sx_set (i := 2) sc.nd rfl (Or.inl rfl) (xe_callCO c_law_take hr (by decide) rfl (pv 0) (ax_cons xe_int ax_nil)))
    (sxs_cons (sx_set (i := 3) sc.nd rfl (Or.inl rfl) (xe_tup (ax_cons xe_int (ax_cons xe_int (ax_cons (xe_neg xe_int) (ax_cons (xe_pow xe_int xe_int) (ax_cons (xe_neg (xe_pow xe_int xe_int)) (ax_cons (xe_mulB xe_int (xe_pow xe_int xe_int)) ax_nil))))))))
    (sxs_cons (sx_set (i := 4) sc.nd rfl (Or.inl rfl) (xe_lst ax_nil))
    (sxs_cons (sx_for rfl (ix_seq (xe_callCO c_law_keys hr (by decide) rfl (pv 0) (ax_cons (xe_var (pv 1)) ax_nil))) (gx_name (pg_name (i := 5) sc.nd rfl (Or.inl rfl))) (sxs_cons (sx_set (i := 6) sc.nd rfl (Or.inl rfl) (xe_add xe_int (xe_lenU rfl m_len (pv 4))))
    (sxs_cons (sx_if (tx_lt (xe_var (pv 2)) xe_int) (sxs_one (sx_set (i := 6) sc.nd rfl (Or.inl rfl) (xe_callCO c_law_rank hr (by decide) rfl (pv 0) (ax_cons (xe_var (pv 2)) ax_nil)))) sxs_nil)
    (sxs_one (sx_expr (xe_append (pv 4) (ax_cons (xe_tup (ax_cons (xe_var (pv 5)) (ax_cons (xe_var (pv 6)) (ax_cons (xe_ixU (pv 3) (xe_callCO c_law_take hr (by decide) rfl (pv 0) (ax_cons xe_int ax_nil))) ax_nil)))) ax_nil)))))) PassesOwn.never)
    (sxs_one (sx_ret (xe_var (pv 4)))))))))
abbrev s_law_many : Stmt := top 18
theorem sc_law_many : FnScope ["pot", "most", "way"] ["pot", "most"] (defScope s_law_many) := ⟨rfl, rfl, rfl, by decide +kernel, rfl, by decide +kernel, by decide +kernel⟩
theorem cal_law_many (D : Df K mg "_law_many" s_law_many ["pot", "most"]) (m_min : mg "min" = none)  (c_law_take : Cal P w K mg base 1 "_law_take" ["pot", "many"] (spP K (cP F_law_take)))  : Cal P w K mg base 2 "_law_many" ["pot", "most"] (spP K (cP F_law_many)) := by
  have sc := sc_law_many
  exact calXP (xs := U_law_many) (m := 2) (n := 3) (k := 1) D sc_law_many (by decide) (fun f cdv A outer s H E hr =>
    (sxs_cons (sx_set (i := 2) sc.nd rfl (Or.inl rfl) (xe_callCO c_law_take hr (by decide) rfl (pv 0) (ax_cons xe_int ax_nil)))
    (sxs_one (sx_ret (xe_ix (xe_tup (ax_cons xe_int (ax_cons xe_int (ax_cons (xe_var (pv 1)) (ax_cons (xe_add xe_int (xe_callCO c_law_take hr (by decide) rfl (pv 0) (ax_cons (xe_sub (xe_var (pv 1)) xe_int) ax_nil))) ax_nil))))) (xe_min2 rfl rfl m_min (ax_cons (xe_var (pv 2)) (ax_cons xe_int ax_nil))))))))
abbrev s_law_branching : Stmt := top 19
theorem sc_law_branching : FnScope ["pot", "cards", "way", "at"] ["pot", "cards", "way"] (defScope s_law_branching) := ⟨rfl, rfl, rfl, by decide +kernel, rfl, by decide +kernel, by decide +kernel⟩
theorem cal_law_branching (D : Df K mg "_law_branching" s_law_branching ["pot", "cards", "way"]) (m_len : mg "len" = none)  (c_law_take : Cal P w K mg base 1 "_law_take" ["pot", "many"] (spP K (cP F_law_take)))  : ∀ n : Nat, Cal P w K mg base (1 + n) "_law_branching" ["pot", "cards", "way"] (spP K (cP (F_law_branching n)))
  | 0 => calXP0 D
  | n + 1 => by
    have c_law_branching := cal_law_branching D m_len c_law_take n
    have sc := sc_law_branching
    exact calXP (xs := U_law_branching (F_law_branching n)) (m := 3) (n := 4) D sc_law_branching (by decide) (fun f cdv A outer s H E hr =>
    (sxs_cons (sx_if (tx_eq hr (xe_lenU rfl m_len (pv 1)) xe_int) (sxs_one (sx_ret (xe_tup ax_nil))) sxs_nil)
    (sxs_cons (sx_set (i := 3) sc.nd rfl (Or.inl rfl) (xe_fdiv (xe_lenU rfl m_len (pv 1)) xe_int))
    (sxs_cons (sx_if (tx_lt (xe_var (pv 2)) xe_int) (sxs_one (sx_set (i := 3) sc.nd rfl (Or.inl rfl) (xe_ix (xe_tup (ax_cons (xe_callCO c_law_take hr (Nat.le_trans (by decide) (Nat.le_add_right _ _)) rfl (pv 0) (ax_cons (xe_lenU rfl m_len (pv 1)) ax_nil)) (ax_cons xe_int (ax_cons (xe_sub (xe_lenU rfl m_len (pv 1)) xe_int) ax_nil)))) (xe_var (pv 2))))) sxs_nil)
    (sxs_one (sx_ret (xe_tup (ax_cons (xe_callCO c_law_branching hr (Nat.le_refl _) rfl (pv 0) (ax_cons (xe_slL (xe_var (pv 1)) ox_none (ox_some (xe_var (pv 3)))) (ax_cons (xe_var (pv 2)) ax_nil))) (ax_cons (xe_ixU (pv 1) (xe_var (pv 3))) (ax_cons (xe_callCO c_law_branching hr (Nat.le_refl _) rfl (pv 0) (ax_cons (xe_slL (xe_var (pv 1)) (ox_some (xe_add (xe_var (pv 3)) xe_int)) ox_none) (ax_cons (xe_var (pv 2)) ax_nil))) ax_nil))))))))))
abbrev s_law_tree : Stmt := top 20
theorem sc_law_tree : FnScope ["pot", "cards"] ["pot", "cards"] (defScope s_law_tree) := ⟨rfl, rfl, rfl, by decide +kernel, rfl, by decide +kernel, by decide +kernel⟩
theorem cal_law_tree (D : Df K mg "_law_tree" s_law_tree ["pot", "cards"])   (c_law_branching : Cal P w K mg base 71 "_law_branching" ["pot", "cards", "way"] (spP K (cP (F_law_branching 70)))) (c_law_take : Cal P w K mg base 1 "_law_take" ["pot", "many"] (spP K (cP F_law_take)))  : Cal P w K mg base 72 "_law_tree" ["pot", "cards"] (spP K (cP F_law_tree)) := by
  have sc := sc_law_tree
  exact calXP (xs := U_law_tree) (m := 2) (n := 2) (k := 71) D sc_law_tree (by decide) (fun f cdv A outer s H E hr =>
    (sxs_one (sx_ret (xe_callCO c_law_branching hr (by decide) rfl (pv 0) (ax_cons (xe_var (pv 1)) (ax_cons (xe_ix (xe_tup (ax_cons xe_int (ax_cons xe_int (ax_cons xe_int (ax_cons xe_int (ax_cons xe_int (ax_cons xe_int (ax_cons xe_int ax_nil)))))))) (xe_callCO c_law_take hr (by decide) rfl (pv 0) (ax_cons xe_int ax_nil))) ax_nil))))))
abbrev s_law_row : Stmt := top 21
theorem sc_law_row : FnScope ["tree"] ["tree"] (defScope s_law_row) := ⟨rfl, rfl, rfl, by decide +kernel, rfl, by decide +kernel, by decide +kernel⟩
theorem cal_law_row (D : Df K mg "_law_row" s_law_row ["tree"])     : ∀ n : Nat, Cal P w K mg base (0 + n) "_law_row" ["tree"] (spD K (cD (F_law_row n)))
  | 0 => calX0 D
  | n + 1 => by
    have c_law_row := cal_law_row D   n
    have sc := sc_law_row
    exact calX (xs := U_law_row (F_law_row n)) (m := 1) (n := 1) D sc_law_row (by decide) (fun f cdv A outer s H E hr =>
    (sxs_cons (sx_if (tx_eq hr (xe_var (pv 0)) (xe_tup ax_nil)) (sxs_one (sx_ret (xe_lst ax_nil))) sxs_nil)
    (sxs_one (sx_ret (xe_add (xe_add (xe_callC c_law_row hr (Nat.le_refl _) rfl (ax_cons (xe_ixU (pv 0) xe_int) ax_nil)) (xe_lst (ax_cons (xe_ixU (pv 0) xe_int) ax_nil))) (xe_callC c_law_row hr (Nat.le_refl _) rfl (ax_cons (xe_ixU (pv 0) xe_int) ax_nil)))))))
abbrev s_law_part_v2 : Stmt := top 22
theorem sc_law_part_v2 : FnScope ["tree", "key"] ["tree", "key"] (defScope s_law_part_v2) := ⟨rfl, rfl, rfl, by decide +kernel, rfl, by decide +kernel, by decide +kernel⟩
theorem cal_law_part_v2 (D : Df K mg "_law_part" s_law_part_v2 ["tree", "key"]) (m_int : mg "int" = none)    : Cal P w K mg base 1 "_law_part" ["tree", "key"] (spD K (cD F_law_part_v2)) := by
  have sc := sc_law_part_v2
  exact calX (xs := U_law_part_v2) (m := 2) (n := 2) (k := 0) D sc_law_part_v2 (by decide) (fun f cdv A outer s H E hr =>
    (sxs_cons (sx_while PassesOwn.never (tx_ne hr (xe_ix (xe_ixU (pv 0) xe_int) xe_int) (xe_var (pv 1))) (sxs_one (sx_set (i := 0) sc.nd rfl (Or.inl rfl) (xe_ixU (pv 0) (xe_ix (xe_tup (ax_cons xe_int (ax_cons xe_int ax_nil))) (xe_intB rfl m_int (ax_cons (xe_gt (xe_var (pv 1)) (xe_ix (xe_ixU (pv 0) xe_int) xe_int)) ax_nil)))))))
    (sxs_one (sx_ret (xe_var (pv 0))))))
abbrev s_law_down : Stmt := top 23
theorem sc_law_down : FnScope ["tree", "side", "keys"] ["tree", "side"] (defScope s_law_down) := ⟨rfl, rfl, rfl, by decide +kernel, rfl, by decide +kernel, by decide +kernel⟩
theorem cal_law_down (D : Df K mg "_law_down" s_law_down ["tree", "side"])     : Cal P w K mg base 1 "_law_down" ["tree", "side"] (spD K (cD F_law_down)) := by
  have sc := sc_law_down
  exact calX (xs := U_law_down) (m := 2) (n := 3) (k := 0) D sc_law_down (by decide) (fun f cdv A outer s H E hr =>
    (sxs_cons (sx_set (i := 2) sc.nd rfl (Or.inl rfl) (xe_lst ax_nil))
    (sxs_cons (sx_while PassesOwn.never (tx_ne hr (xe_var (pv 0)) (xe_tup ax_nil)) (sxs_cons (sx_expr (xe_append (pv 2) (ax_cons (xe_ix (xe_ixU (pv 0) xe_int) xe_int) ax_nil)))
    (sxs_one (sx_set (i := 0) sc.nd rfl (Or.inl rfl) (xe_ixU (pv 0) (xe_var (pv 1)))))))
    (sxs_one (sx_ret (xe_var (pv 2)))))))
abbrev s_law_alike : Stmt := top 24
theorem sc_law_alike : FnScope ["found", "due"] ["found", "due"] (defScope s_law_alike) := ⟨rfl, rfl, rfl, by decide +kernel, rfl, by decide +kernel, by decide +kernel⟩
theorem cal_law_alike (D : Df K mg "_law_alike" s_law_alike ["found", "due"]) (m_str : mg "str" = none)    : Cal P w K mg base 1 "_law_alike" ["found", "due"] (spD K (cD F_law_alike)) := by
  have sc := sc_law_alike
  exact calX (xs := U_law_alike) (m := 2) (n := 2) (k := 0) D sc_law_alike (by decide) (fun f cdv A outer s H E hr =>
    (sxs_one (sx_ret (xe_and (xe_eq hr (xe_var (pv 0)) (xe_var (pv 1))) (xe_one (xe_eqT (xe_strA hr rfl m_str (ax_cons (xe_var (pv 0)) ax_nil)) (xe_strA hr rfl m_str (ax_cons (xe_var (pv 1)) ax_nil))))))))
abbrev s_law_strange : Stmt := top 25
theorem sc_law_strange : FnScope ["pot", "keys", "way", "key", "number"] ["pot", "keys"] (defScope s_law_strange) := ⟨rfl, rfl, rfl, by decide +kernel, rfl, by decide +kernel, by decide +kernel⟩
theorem cal_law_strange (D : Df K mg "_law_strange" s_law_strange ["pot", "keys"]) (m_len : mg "len" = none)  (c_law_take : Cal P w K mg base 1 "_law_take" ["pot", "many"] (spP K (cP F_law_take)))  : Cal P w K mg base 2 "_law_strange" ["pot", "keys"] (spP K (cP F_law_strange)) := by
  have sc := sc_law_strange
  exact calXP (xs := U_law_strange) (m := 2) (n := 5) (k := 1) D sc_law_strange (by decide) (fun f cdv A outer s H E hr =>
    (sxs_cons (sx_set (i := 2) sc.nd rfl (Or.inl rfl) (xe_callCO c_law_take hr (by decide) rfl (pv 0) (ax_cons xe_int ax_nil)))
    (sxs_cons (sx_set (i := 3) sc.nd rfl (Or.inl rfl) (xe_ix (xe_tup (ax_cons (xe_neg xe_int) (ax_cons (xe_add (xe_pow xe_int xe_int) xe_int) (ax_cons (xe_sub (xe_pow xe_int xe_int) xe_int) (ax_cons (xe_sub xe_int (xe_pow xe_int xe_int)) (ax_cons xe_int ax_nil)))))) (xe_var (pv 2))))
    (sxs_cons (sx_if (tx_w (wx_and (tx_eq hr (xe_var (pv 2)) xe_int) (wx_and1 (tx_ne hr (xe_var (pv 1)) (xe_lst ax_nil))))) (sxs_one (sx_set (i := 3) sc.nd rfl (Or.inl rfl) (xe_add (xe_ixU (pv 1) (xe_callCO c_law_take hr (by decide) rfl (pv 0) (ax_cons (xe_lenU rfl m_len (pv 1)) ax_nil))) xe_int))) sxs_nil)
    (sxs_cons (sx_set (i := 4) sc.nd rfl (Or.inl rfl) xe_int)
    (sxs_cons (sx_while PassesOwn.never (tx_w (wx_and (tx_inL hr (xe_var (pv 3)) (xe_var (pv 1))) (wx_and1 (tx_lt (xe_var (pv 4)) xe_int)))) (sxs_cons (sx_set (i := 3) sc.nd rfl (Or.inl rfl) (xe_add (xe_var (pv 3)) xe_int))
    (sxs_one (sx_set (i := 4) sc.nd rfl (Or.inl rfl) (xe_add (xe_var (pv 4)) xe_int)))))
    (sxs_one (sx_ret (xe_var (pv 3))))))))))
abbrev s_law_kind_v22 : Stmt := top 26
theorem sc_law_kind_v22 : FnScope ["e", "takes", "names", "name", "one"] ["e"] (defScope s_law_kind_v22) := ⟨rfl, rfl, rfl, by decide +kernel, rfl, by decide +kernel, by decide +kernel⟩
theorem cal_law_kind_v22 (D : Df K mg "_law_kind" s_law_kind_v22 ["e"]) (m_ValueError : mg "ValueError" = none) (m_isinstance : mg "isinstance" = none) (m_len : mg "len" = none)  {D_NoKey : Addr} {D_NoTurn : Addr} (xk_NoKey_ValueError : XKit K "NoKey" (.type "ValueError") true) (xd_NoTurn : XD K mg "NoTurn" D_NoTurn) (xk_NoKey_NoTurn : XKit K "NoKey" (.ref D_NoTurn) false) (xd_NoKey : XD K mg "NoKey" D_NoKey) (xk_NoKey_NoKey : XKit K "NoKey" (.ref D_NoKey) true)   : CalB false P w K mg base 1 "_law_kind" ["e"] (spP K (cP F_law_kind_v22)) := by
  have sc := sc_law_kind_v22
  exact calXP (xs := U_law_kind_v22) (m := 1) (n := 5) (k := 0) D sc_law_kind_v22 (by decide) (fun f cdv A outer s H E hr =>
    (sxs_cons (sx_set (i := 1) sc.nd rfl (Or.inl rfl) (xe_lst (ax_cons (xe_tup (ax_cons xe_str (ax_cons (xe_isE (tab := [("NoKey", true)]) rfl m_isinstance rfl xd_NoKey.m (fa_cons xk_NoKey_NoKey fa_nil) (pv 0)) ax_nil))) (ax_cons (xe_tup (ax_cons xe_str (ax_cons (xe_isE (tab := [("NoKey", false)]) rfl m_isinstance rfl xd_NoTurn.m (fa_cons xk_NoKey_NoTurn fa_nil) (pv 0)) ax_nil))) ax_nil))))
    (sxs_cons (sx_setLcH (k := 2) (own := [("name", 3), ("one", 4)]) rfl sc.nd rfl rfl (sw_true rfl rfl rfl (by decide +kernel)) (ix_lstH (xe_var (pv 1))) (blkOk_by (own := [("name", 3), ("one", 4)]) (N := ["e", "takes", "names", "name", "one"]) (sc := defScope s_law_kind_v22) (by decide +kernel)) (gbx_tupH (fun _ _ _ _ _ => rfl) (gbxs_cons (gbx_name fun _ _ _ _ _ => pg_name (i := 3) sc.nd rfl (Or.inl rfl)) (gbxs_cons (gbx_name fun _ _ _ _ _ => pg_name (i := 4) sc.nd rfl (Or.inl rfl)) gbxs_nil))) (by decide) (fun _ _ _ _ _ => (txs_one (tx_w (wx_and (tx_val (xe_var (pv 4))) (wx_and1 (tx_val (xe_isET (tab := [("NoKey", true)]) rfl m_isinstance rfl m_ValueError (by decide +kernel) (fa_cons xk_NoKey_ValueError fa_nil) (pv 0)))))))) (fun _ _ _ _ _ => (xe_var (pv 3))))
    (sxs_cons (sx_if (tx_eq hr (xe_lenU rfl m_len (pv 2)) xe_int) (sxs_one (sx_ret (xe_ixU (pv 2) xe_int))) sxs_nil)
    (sxs_one (sx_ret xe_str))))))
abbrev s_law_seam : Stmt := top 27
theorem sc_law_seam : FnScope ["tree", "key", "part"] ["tree", "key"] (defScope s_law_seam) := ⟨rfl, rfl, rfl, by decide +kernel, rfl, by decide +kernel, by decide +kernel⟩
theorem cal_law_seam (D : Df K mg "_law_seam" s_law_seam ["tree", "key"])   (c_law_down : Cal P w K mg base 1 "_law_down" ["tree", "side"] (spD K (cD F_law_down))) (c_law_part_v2 : Cal P w K mg base 1 "_law_part" ["tree", "key"] (spD K (cD F_law_part_v2)))  : Cal P w K mg base 2 "_law_seam" ["tree", "key"] (spD K (cD F_law_seam)) := by
  have sc := sc_law_seam
  exact calX (xs := U_law_seam) (m := 2) (n := 3) (k := 1) D sc_law_seam (by decide) (fun f cdv A outer s H E hr =>
    (sxs_cons (sx_set (i := 2) sc.nd rfl (Or.inl rfl) (xe_callC c_law_part_v2 hr (by decide) rfl (ax_cons (xe_var (pv 0)) (ax_cons (xe_var (pv 1)) ax_nil))))
    (sxs_one (sx_ret (xe_tup (ax_cons (xe_callC c_law_down hr (by decide) rfl (ax_cons (xe_ixU (pv 2) xe_int) (ax_cons xe_int ax_nil))) (ax_cons (xe_callC c_law_down hr (by decide) rfl (ax_cons (xe_ixU (pv 2) xe_int) (ax_cons xe_int ax_nil))) ax_nil)))))))
abbrev s_law_heard_v14 : Stmt := top 28
theorem sc_law_heard_v14 : FnScope ["tree", "key", "e"] ["tree", "key"] (defScope s_law_heard_v14) := ⟨rfl, rfl, rfl, by decide +kernel, rfl, by decide +kernel, by decide +kernel⟩
theorem calx_law_heard_v14 (D : Df K mg "_law_heard" s_law_heard_v14 ["tree", "key"])   {D_CrestError : Addr} (xq_NoKey_key : XQ K "NoKey" "key") (xd_CrestError : XD K mg "CrestError" D_CrestError) (xs_NoKey_CrestError : XIs K "NoKey" (.ref D_CrestError) true) (c_law_kind_v22 : CalB false P w K mg base 1 "_law_kind" ["e"] (spP K (cP F_law_kind_v22))) (cx_seam_v2 : CalX P w K mg base 3 "seam" ["tree", "key"] (spX K (cX F_seam_v2))) : CalX P w K mg base 4 "_law_heard" ["tree", "key"] (spX K (cX F_law_heard_v14)) := by
  have sc := sc_law_heard_v14
  exact calXx (xs := U_law_heard_v14) (m := 2) (n := 3) (k := 3) D sc_law_heard_v14 (by decide) (fun f cdv A outer s H E hr =>
    (sxxs_one (sxx_try (i := 2) (cs := ["NoKey"]) xd_CrestError (fa_cons xs_NoKey_CrestError fa_nil) rfl sc.nd rfl rfl rfl rfl (fun E => (sxxs_one (sxx_ret (exx_callC cx_seam_v2 hr (by decide) rfl (ax_cons (xe_var (pv 0)) (ax_cons (xe_var (pv 1)) ax_nil)) rfl))))
    (fun a oe => (sxs_cons (sx_if (tx_ne hr.mkd (xe_callCO c_law_kind_v22 hr.mkd (by decide) rfl (pv 2) ax_nil) xe_str) (sxs_one (sx_ret (xe_tup (ax_cons xe_str ax_nil)))) sxs_nil)
    (sxs_one (sx_ret (xe_tup (ax_cons xe_str (ax_cons (xe_attr (cs := ["NoKey"]) (fa_cons xq_NoKey_key fa_nil) (pv 2)) ax_nil))))))))))
abbrev s_law_right_v38 : Stmt := top 29
theorem sc_law_right_v38 : FnScope ["pot", "most", "tree", "keys", "strange", "again", "found", "key", "card", "k"] ["pot"] (defScope s_law_right_v38) := ⟨rfl, rfl, rfl, by decide +kernel, rfl, by decide +kernel, by decide +kernel⟩
theorem cal_law_right_v38 (D : Df K mg "_law_right" s_law_right_v38 ["pot"]) (m_int : mg "int" = none) (m_range : mg "range" = none)  (c_law_alike : Cal P w K mg base 1 "_law_alike" ["found", "due"] (spD K (cD F_law_alike))) (c_law_cards : Cal P w K mg base 4 "_law_cards" ["pot", "many"] (spP K (cP F_law_cards))) (c_law_down : Cal P w K mg base 1 "_law_down" ["tree", "side"] (spD K (cD F_law_down))) (c_law_heard_v14 : Cal P w K mg base 4 "_law_heard" ["tree", "key"] (spD K (cD F_law_heard_v14))) (c_law_many : Cal P w K mg base 2 "_law_many" ["pot", "most"] (spP K (cP F_law_many))) (c_law_row : Cal P w K mg base 70 "_law_row" ["tree"] (spD K (cD (F_law_row 70)))) (c_law_seam : Cal P w K mg base 2 "_law_seam" ["tree", "key"] (spD K (cD F_law_seam))) (c_law_strange : Cal P w K mg base 2 "_law_strange" ["pot", "keys"] (spP K (cP F_law_strange))) (c_law_take : Cal P w K mg base 1 "_law_take" ["pot", "many"] (spP K (cP F_law_take))) (c_law_tree : Cal P w K mg base 72 "_law_tree" ["pot", "cards"] (spP K (cP F_law_tree))) (c_edges_v2 : Cal P w K mg base 2 "edges" ["tree"] (spD K (cD F_edges_v2)))  : Cal P w K mg base 73 "_law_right" ["pot"] (spP K (cP F_law_right_v38)) := by
  have sc := sc_law_right_v38
  exact calXP (xs := U_law_right_v38) (m := 1) (n := 10) (k := 72) D sc_law_right_v38 (by decide) (fun f cdv A outer s H E hr =>
    (sxs_cons (sx_set (i := 1) sc.nd rfl (Or.inl rfl) (xe_ix (xe_tup (ax_cons xe_int (ax_cons xe_int ax_nil))) (xe_intB rfl m_int (ax_cons (xe_gt (xe_callCO c_law_take hr (by decide) rfl (pv 0) (ax_cons xe_int ax_nil)) xe_int) ax_nil))))
    (sxs_cons (sx_set (i := 2) sc.nd rfl (Or.inl rfl) (xe_callCO c_law_tree hr (by decide) rfl (pv 0) (ax_cons (xe_callCO c_law_cards hr (by decide) rfl (pv 0) (ax_cons (xe_callCO c_law_many hr (by decide) rfl (pv 0) (ax_cons (xe_var (pv 1)) ax_nil)) ax_nil)) ax_nil)))
    (sxs_cons (sx_set (i := 3) sc.nd rfl (Or.inr rfl) (xe_lc (own := [("card", 8)]) rfl sc.nd (ix_seq (xe_callC c_law_row hr (by decide) rfl (ax_cons (xe_var (pv 2)) ax_nil))) (blkOk_by (own := [("card", 8)]) (N := ["pot", "most", "tree", "keys", "strange", "again", "found", "key", "card", "k"]) (sc := defScope s_law_right_v38) (by decide +kernel)) (gbx_name fun _ _ _ _ _ => pg_name (i := 8) sc.nd rfl (Or.inl rfl)) (by decide) (fun _ _ _ _ _ => txs_nil) (fun _ _ _ _ _ => (xe_ixU (pv 8) xe_int))) (hs := sw_cell rfl))
    (sxs_cons (sx_setLc (k := 4) (own := [("k", 9)]) rfl sc.nd rfl rfl (sw_true rfl rfl rfl (by decide +kernel)) (ix_rng1 rfl m_range (ax_cons xe_int ax_nil)) (blkOk_by (own := [("k", 9)]) (N := ["pot", "most", "tree", "keys", "strange", "again", "found", "key", "card", "k"]) (sc := defScope s_law_right_v38) (by decide +kernel)) (gbx_name fun _ _ _ _ _ => pg_name (i := 9) sc.nd rfl (Or.inl rfl)) (by decide) (fun _ _ _ _ _ => txs_nil) (fun _ _ _ _ _ => (xe_callCO c_law_strange hr (by decide) rfl (pv 0) (ax_cons (xe_var (pv 3)) ax_nil))))
    (sxs_cons (sx_for rfl (ix_rng1 rfl m_range (ax_cons xe_int ax_nil)) (gx_name (pg_name (i := 5) sc.nd rfl (Or.inl rfl))) (sxs_new (i := 6) sc.nd rfl (Or.inl rfl) (xe_callC c_edges_v2 hr (by decide) rfl (ax_cons (xe_var (pv 2)) ax_nil))
    (lx_if (tx_not (tx_val (xe_callC c_law_alike hr (by decide) rfl (ax_cons (xe_var (pv 6)) (ax_cons (xe_tup (ax_cons (xe_callC c_law_down hr (by decide) rfl (ax_cons (xe_var (pv 2)) (ax_cons xe_int ax_nil))) (ax_cons (xe_callC c_law_down hr (by decide) rfl (ax_cons (xe_var (pv 2)) (ax_cons xe_int ax_nil))) ax_nil))) ax_nil)))))
    (lx_end (by decide) (mx_append (k := 0) (pv 6) shut_int (mx_clear (k := 1) (pv 6) (mx_then (m := 0) (sxs_cons (sx_for rfl (ix_seq (xe_var (pv 3))) (gx_name (pg_name (i := 7) sc.nd rfl (Or.inl rfl))) (sxs_new (i := 6) sc.nd rfl (Or.inl rfl) (xe_callC c_law_heard_v14 hr (by decide) rfl (ax_cons (xe_var (pv 2)) (ax_cons (xe_var (pv 7)) ax_nil)))
    (lx_if (tx_not (tx_val (xe_callC c_law_alike hr (by decide) rfl (ax_cons (xe_var (pv 6)) (ax_cons (xe_callC c_law_seam hr (by decide) rfl (ax_cons (xe_var (pv 2)) (ax_cons (xe_var (pv 7)) ax_nil))) ax_nil)))))
    (lx_end (by decide) (mx_clear (k := 0) (pv 6) (mx_append (k := 1) (pv 6) shut_int (mx_nil (m := 0))))))) PassesOwn.never)
    (sxs_one (sx_for rfl (ix_seq (xe_var (pv 4))) (gx_name (pg_name (i := 7) sc.nd rfl (Or.inl rfl))) (sxs_one (sx_if (tx_ne hr (xe_callC c_law_heard_v14 hr (by decide) rfl (ax_cons (xe_var (pv 2)) (ax_cons (xe_var (pv 7)) ax_nil))) (xe_tup (ax_cons xe_str (ax_cons (xe_var (pv 7)) ax_nil)))) (sxs_one (sx_ret xe_bl)) sxs_nil)) PassesOwn.never))))))))) PassesOwn.never)
    (sxs_one (sx_ret xe_bl))))))))
abbrev s_law_k14_v2 : Stmt := top 30
theorem sc_law_k14_v2 : FnScope ["script", "k"] ["script"] (defScope s_law_k14_v2) := ⟨rfl, rfl, rfl, by decide +kernel, rfl, by decide +kernel, by decide +kernel⟩
end
abbrev si_NoKey : Stmt := inClass (top 2) 0
theorem law_fn {P : Program} {w : World} {K : PySem.W.Frag} {mg : Str → Option Value} {base : Heap} {f : Addr} {fd : FuncData} (Fn : Fun K "law" "law" s_law_k14_v2 f fd) (m_len : mg "len" = none) (m_max : mg "max" = none) (m_min : mg "min" = none) (m_range : mg "range" = none)  (c_law_pot_v2 : Cal P w K mg base 1 "_law_pot" ["script", "k"] (spD K (cD F_law_pot_v2))) (c_law_right_v38 : Cal P w K mg base 73 "_law_right" ["pot"] (spP K (cP F_law_right_v38))) : FnOk P w K mg base CX0 74 f fd ["script"] (spD K (cD F_law_k14_v2)) := by
  have sc := sc_law_k14_v2
  exact okD (k := 73) Fn sc_law_k14_v2 (by decide) (len_x (m := 1) (n := 2) (x := U_law_k14_v2)) fun cdv A outer s H E hr => ⟨toS U_law_k14_v2,
    (sxs_cons (sx_for rfl (ix_rng1 rfl m_range (ax_cons (xe_max2 rfl rfl m_max (ax_cons xe_int (ax_cons (xe_min2 rfl rfl m_min (ax_cons (xe_lenU rfl m_len (pv 0)) (ax_cons xe_int ax_nil))) ax_nil))) ax_nil)) (gx_name (pg_name (i := 1) sc.nd rfl (Or.inl rfl))) (sxs_one (sx_if (tx_not (tx_val (xe_callCT c_law_right_v38 hr (by decide) rfl (xe_callC c_law_pot_v2 hr (by decide) rfl (ax_cons (xe_var (pv 0)) (ax_cons (xe_var (pv 1)) ax_nil)))))) (sxs_one (sx_ret xe_bl)) sxs_nil)) PassesOwn.never)
    (sxs_one (sx_ret xe_bl))), rd_x (m := 1) (n := 2) (x := U_law_k14_v2)⟩
theorem all_mk {l : PySem.W.OpenLaw} {w : World} {K : PySem.W.Frag} {h : Heap} {mg : Str → Option Value} {fa : Addr} (X : K.In h) (G : h.Ns mainGlobals mg) (hfa : mg "law" = some (.ref fa))
    {f0 : Addr} {od0 an0 : Option Addr} {sl0 : Array (Option Value)} {oc0 kV0 dc0 pm0 cd0 ct0 : Value}
    {f1 : Addr} {od1 an1 : Option Addr} {sl1 : Array (Option Value)} {oc1 kV1 dc1 pm1 cd1 ct1 : Value}
    {f2 : Addr} {od2 an2 : Option Addr} {sl2 : Array (Option Value)} {oc2 kV2 dc2 pm2 cd2 ct2 : Value}
    {f3 : Addr} {od3 an3 : Option Addr} {sl3 : Array (Option Value)} {oc3 kV3 dc3 pm3 cd3 ct3 : Value}
    {f4 : Addr} {od4 an4 : Option Addr} {sl4 : Array (Option Value)} {oc4 kV4 dc4 pm4 cd4 ct4 : Value}
    {f5 : Addr} {od5 an5 : Option Addr} {sl5 : Array (Option Value)} {oc5 kV5 dc5 pm5 cd5 ct5 : Value}
    {f6 : Addr} {od6 an6 : Option Addr} {sl6 : Array (Option Value)} {oc6 kV6 dc6 pm6 cd6 ct6 : Value}
    {f7 : Addr} {od7 an7 : Option Addr} {sl7 : Array (Option Value)} {oc7 kV7 dc7 pm7 cd7 ct7 : Value}
    {f8 : Addr} {od8 an8 : Option Addr} {sl8 : Array (Option Value)} {oc8 kV8 dc8 pm8 cd8 ct8 : Value}
    {f9 : Addr} {od9 an9 : Option Addr} {sl9 : Array (Option Value)} {oc9 kV9 dc9 pm9 cd9 ct9 : Value}
    {f10 : Addr} {od10 an10 : Option Addr} {sl10 : Array (Option Value)} {oc10 kV10 dc10 pm10 cd10 ct10 : Value}
    {f11 : Addr} {od11 an11 : Option Addr} {sl11 : Array (Option Value)} {oc11 kV11 dc11 pm11 cd11 ct11 : Value}
    {f12 : Addr} {od12 an12 : Option Addr} {sl12 : Array (Option Value)} {oc12 kV12 dc12 pm12 cd12 ct12 : Value}
    {f13 : Addr} {od13 an13 : Option Addr} {sl13 : Array (Option Value)} {oc13 kV13 dc13 pm13 cd13 ct13 : Value}
    {f14 : Addr} {od14 an14 : Option Addr} {sl14 : Array (Option Value)} {oc14 kV14 dc14 pm14 cd14 ct14 : Value}
    {f15 : Addr} {od15 an15 : Option Addr} {sl15 : Array (Option Value)} {oc15 kV15 dc15 pm15 cd15 ct15 : Value}
    {f16 : Addr} {od16 an16 : Option Addr} {sl16 : Array (Option Value)} {oc16 kV16 dc16 pm16 cd16 ct16 : Value}
    {f17 : Addr} {od17 an17 : Option Addr} {sl17 : Array (Option Value)} {oc17 kV17 dc17 pm17 cd17 ct17 : Value}
    {f18 : Addr} {od18 an18 : Option Addr} {sl18 : Array (Option Value)} {oc18 kV18 dc18 pm18 cd18 ct18 : Value}
    {f19 : Addr} {od19 an19 : Option Addr} {sl19 : Array (Option Value)} {oc19 kV19 dc19 pm19 cd19 ct19 : Value}
    {f20 : Addr} {od20 an20 : Option Addr} {sl20 : Array (Option Value)} {oc20 kV20 dc20 pm20 cd20 ct20 : Value}
    {f21 : Addr} {od21 an21 : Option Addr} {sl21 : Array (Option Value)} {oc21 kV21 dc21 pm21 cd21 ct21 : Value}
    {f22 : Addr} {od22 an22 : Option Addr} {sl22 : Array (Option Value)} {oc22 kV22 dc22 pm22 cd22 ct22 : Value}
    {f23 : Addr} {od23 an23 : Option Addr} {sl23 : Array (Option Value)} {oc23 kV23 dc23 pm23 cd23 ct23 : Value}
    {D_NoKey : Addr}
    {fi_NoKey : Addr}
    {od_NoKey an_NoKey : Option Addr} {sl_NoKey : Array (Option Value)} {oc_NoKey kV_NoKey dc_NoKey pm_NoKey cd_NoKey ct_NoKey : Value}
    {D_NoTurn : Addr}
    {fi_NoTurn : Addr}
    {D_CrestError : Addr}
    (a0 : PySem.W.nsIn K mainGlobals "part_at" = some (some (.ref f0))) (l0 : K.lookup f0 = some ⟨oc0, od0, .func (PySem.W.fnOf "part_at" "part_at" (defArgs s_part_at_v2) (defBody s_part_at_v2) (defScope s_part_at_v2) .none kV0 dc0 pm0 an0 cd0 ct0), sl0⟩) (c0 : PySem.W.codeIn K cd0 "part_at" = true) (k0 : PySem.W.keepIn K (.ref f0) = true)
    (a1 : PySem.W.nsIn K mainGlobals "always_left" = some (some (.ref f1))) (l1 : K.lookup f1 = some ⟨oc1, od1, .func (PySem.W.fnOf "always_left" "always_left" (defArgs s_always_left_v2) (defBody s_always_left_v2) (defScope s_always_left_v2) .none kV1 dc1 pm1 an1 cd1 ct1), sl1⟩) (c1 : PySem.W.codeIn K cd1 "always_left" = true) (k1 : PySem.W.keepIn K (.ref f1) = true)
    (a2 : PySem.W.nsIn K mainGlobals "always_right" = some (some (.ref f2))) (l2 : K.lookup f2 = some ⟨oc2, od2, .func (PySem.W.fnOf "always_right" "always_right" (defArgs s_always_right_v2) (defBody s_always_right_v2) (defScope s_always_right_v2) .none kV2 dc2 pm2 an2 cd2 ct2), sl2⟩) (c2 : PySem.W.codeIn K cd2 "always_right" = true) (k2 : PySem.W.keepIn K (.ref f2) = true)
    (a3 : PySem.W.nsIn K mainGlobals "seam" = some (some (.ref f3))) (l3 : K.lookup f3 = some ⟨oc3, od3, .func (PySem.W.fnOf "seam" "seam" (defArgs s_seam_v2) (defBody s_seam_v2) (defScope s_seam_v2) .none kV3 dc3 pm3 an3 cd3 ct3), sl3⟩) (c3 : PySem.W.codeIn K cd3 "seam" = true) (k3 : PySem.W.keepIn K (.ref f3) = true)
    (a4 : PySem.W.nsIn K mainGlobals "edges" = some (some (.ref f4))) (l4 : K.lookup f4 = some ⟨oc4, od4, .func (PySem.W.fnOf "edges" "edges" (defArgs s_edges_v2) (defBody s_edges_v2) (defScope s_edges_v2) .none kV4 dc4 pm4 an4 cd4 ct4), sl4⟩) (c4 : PySem.W.codeIn K cd4 "edges" = true) (k4 : PySem.W.keepIn K (.ref f4) = true)
    (a5 : PySem.W.nsIn K mainGlobals "_law_pot" = some (some (.ref f5))) (l5 : K.lookup f5 = some ⟨oc5, od5, .func (PySem.W.fnOf "_law_pot" "_law_pot" (defArgs s_law_pot_v2) (defBody s_law_pot_v2) (defScope s_law_pot_v2) .none kV5 dc5 pm5 an5 cd5 ct5), sl5⟩) (c5 : PySem.W.codeIn K cd5 "_law_pot" = true) (k5 : PySem.W.keepIn K (.ref f5) = true)
    (a6 : PySem.W.nsIn K mainGlobals "_law_take" = some (some (.ref f6))) (l6 : K.lookup f6 = some ⟨oc6, od6, .func (PySem.W.fnOf "_law_take" "_law_take" (defArgs s_law_take) (defBody s_law_take) (defScope s_law_take) .none kV6 dc6 pm6 an6 cd6 ct6), sl6⟩) (c6 : PySem.W.codeIn K cd6 "_law_take" = true) (k6 : PySem.W.keepIn K (.ref f6) = true)
    (a7 : PySem.W.nsIn K mainGlobals "_law_great" = some (some (.ref f7))) (l7 : K.lookup f7 = some ⟨oc7, od7, .func (PySem.W.fnOf "_law_great" "_law_great" (defArgs s_law_great_v2) (defBody s_law_great_v2) (defScope s_law_great_v2) .none kV7 dc7 pm7 an7 cd7 ct7), sl7⟩) (c7 : PySem.W.codeIn K cd7 "_law_great" = true) (k7 : PySem.W.keepIn K (.ref f7) = true)
    (a8 : PySem.W.nsIn K mainGlobals "_law_keys" = some (some (.ref f8))) (l8 : K.lookup f8 = some ⟨oc8, od8, .func (PySem.W.fnOf "_law_keys" "_law_keys" (defArgs s_law_keys) (defBody s_law_keys) (defScope s_law_keys) .none kV8 dc8 pm8 an8 cd8 ct8), sl8⟩) (c8 : PySem.W.codeIn K cd8 "_law_keys" = true) (k8 : PySem.W.keepIn K (.ref f8) = true)
    (a9 : PySem.W.nsIn K mainGlobals "_law_rank" = some (some (.ref f9))) (l9 : K.lookup f9 = some ⟨oc9, od9, .func (PySem.W.fnOf "_law_rank" "_law_rank" (defArgs s_law_rank) (defBody s_law_rank) (defScope s_law_rank) .none kV9 dc9 pm9 an9 cd9 ct9), sl9⟩) (c9 : PySem.W.codeIn K cd9 "_law_rank" = true) (k9 : PySem.W.keepIn K (.ref f9) = true)
    (a10 : PySem.W.nsIn K mainGlobals "_law_cards" = some (some (.ref f10))) (l10 : K.lookup f10 = some ⟨oc10, od10, .func (PySem.W.fnOf "_law_cards" "_law_cards" (defArgs s_law_cards) (defBody s_law_cards) (defScope s_law_cards) .none kV10 dc10 pm10 an10 cd10 ct10), sl10⟩) (c10 : PySem.W.codeIn K cd10 "_law_cards" = true) (k10 : PySem.W.keepIn K (.ref f10) = true)
    (a11 : PySem.W.nsIn K mainGlobals "_law_many" = some (some (.ref f11))) (l11 : K.lookup f11 = some ⟨oc11, od11, .func (PySem.W.fnOf "_law_many" "_law_many" (defArgs s_law_many) (defBody s_law_many) (defScope s_law_many) .none kV11 dc11 pm11 an11 cd11 ct11), sl11⟩) (c11 : PySem.W.codeIn K cd11 "_law_many" = true) (k11 : PySem.W.keepIn K (.ref f11) = true)
    (a12 : PySem.W.nsIn K mainGlobals "_law_branching" = some (some (.ref f12))) (l12 : K.lookup f12 = some ⟨oc12, od12, .func (PySem.W.fnOf "_law_branching" "_law_branching" (defArgs s_law_branching) (defBody s_law_branching) (defScope s_law_branching) .none kV12 dc12 pm12 an12 cd12 ct12), sl12⟩) (c12 : PySem.W.codeIn K cd12 "_law_branching" = true) (k12 : PySem.W.keepIn K (.ref f12) = true)
    (a13 : PySem.W.nsIn K mainGlobals "_law_tree" = some (some (.ref f13))) (l13 : K.lookup f13 = some ⟨oc13, od13, .func (PySem.W.fnOf "_law_tree" "_law_tree" (defArgs s_law_tree) (defBody s_law_tree) (defScope s_law_tree) .none kV13 dc13 pm13 an13 cd13 ct13), sl13⟩) (c13 : PySem.W.codeIn K cd13 "_law_tree" = true) (k13 : PySem.W.keepIn K (.ref f13) = true)
    (a14 : PySem.W.nsIn K mainGlobals "_law_row" = some (some (.ref f14))) (l14 : K.lookup f14 = some ⟨oc14, od14, .func (PySem.W.fnOf "_law_row" "_law_row" (defArgs s_law_row) (defBody s_law_row) (defScope s_law_row) .none kV14 dc14 pm14 an14 cd14 ct14), sl14⟩) (c14 : PySem.W.codeIn K cd14 "_law_row" = true) (k14 : PySem.W.keepIn K (.ref f14) = true)
    (a15 : PySem.W.nsIn K mainGlobals "_law_part" = some (some (.ref f15))) (l15 : K.lookup f15 = some ⟨oc15, od15, .func (PySem.W.fnOf "_law_part" "_law_part" (defArgs s_law_part_v2) (defBody s_law_part_v2) (defScope s_law_part_v2) .none kV15 dc15 pm15 an15 cd15 ct15), sl15⟩) (c15 : PySem.W.codeIn K cd15 "_law_part" = true) (k15 : PySem.W.keepIn K (.ref f15) = true)
    (a16 : PySem.W.nsIn K mainGlobals "_law_down" = some (some (.ref f16))) (l16 : K.lookup f16 = some ⟨oc16, od16, .func (PySem.W.fnOf "_law_down" "_law_down" (defArgs s_law_down) (defBody s_law_down) (defScope s_law_down) .none kV16 dc16 pm16 an16 cd16 ct16), sl16⟩) (c16 : PySem.W.codeIn K cd16 "_law_down" = true) (k16 : PySem.W.keepIn K (.ref f16) = true)
    (a17 : PySem.W.nsIn K mainGlobals "_law_alike" = some (some (.ref f17))) (l17 : K.lookup f17 = some ⟨oc17, od17, .func (PySem.W.fnOf "_law_alike" "_law_alike" (defArgs s_law_alike) (defBody s_law_alike) (defScope s_law_alike) .none kV17 dc17 pm17 an17 cd17 ct17), sl17⟩) (c17 : PySem.W.codeIn K cd17 "_law_alike" = true) (k17 : PySem.W.keepIn K (.ref f17) = true)
    (a18 : PySem.W.nsIn K mainGlobals "_law_strange" = some (some (.ref f18))) (l18 : K.lookup f18 = some ⟨oc18, od18, .func (PySem.W.fnOf "_law_strange" "_law_strange" (defArgs s_law_strange) (defBody s_law_strange) (defScope s_law_strange) .none kV18 dc18 pm18 an18 cd18 ct18), sl18⟩) (c18 : PySem.W.codeIn K cd18 "_law_strange" = true) (k18 : PySem.W.keepIn K (.ref f18) = true)
    (a19 : PySem.W.nsIn K mainGlobals "_law_kind" = some (some (.ref f19))) (l19 : K.lookup f19 = some ⟨oc19, od19, .func (PySem.W.fnOf "_law_kind" "_law_kind" (defArgs s_law_kind_v22) (defBody s_law_kind_v22) (defScope s_law_kind_v22) .none kV19 dc19 pm19 an19 cd19 ct19), sl19⟩) (c19 : PySem.W.codeIn K cd19 "_law_kind" = true) (k19 : PySem.W.keepIn K (.ref f19) = true)
    (a20 : PySem.W.nsIn K mainGlobals "_law_seam" = some (some (.ref f20))) (l20 : K.lookup f20 = some ⟨oc20, od20, .func (PySem.W.fnOf "_law_seam" "_law_seam" (defArgs s_law_seam) (defBody s_law_seam) (defScope s_law_seam) .none kV20 dc20 pm20 an20 cd20 ct20), sl20⟩) (c20 : PySem.W.codeIn K cd20 "_law_seam" = true) (k20 : PySem.W.keepIn K (.ref f20) = true)
    (a21 : PySem.W.nsIn K mainGlobals "_law_heard" = some (some (.ref f21))) (l21 : K.lookup f21 = some ⟨oc21, od21, .func (PySem.W.fnOf "_law_heard" "_law_heard" (defArgs s_law_heard_v14) (defBody s_law_heard_v14) (defScope s_law_heard_v14) .none kV21 dc21 pm21 an21 cd21 ct21), sl21⟩) (c21 : PySem.W.codeIn K cd21 "_law_heard" = true) (k21 : PySem.W.keepIn K (.ref f21) = true)
    (a22 : PySem.W.nsIn K mainGlobals "_law_right" = some (some (.ref f22))) (l22 : K.lookup f22 = some ⟨oc22, od22, .func (PySem.W.fnOf "_law_right" "_law_right" (defArgs s_law_right_v38) (defBody s_law_right_v38) (defScope s_law_right_v38) .none kV22 dc22 pm22 an22 cd22 ct22), sl22⟩) (c22 : PySem.W.codeIn K cd22 "_law_right" = true) (k22 : PySem.W.keepIn K (.ref f22) = true)
    (a23 : PySem.W.nsIn K mainGlobals "law" = some (some (.ref f23))) (l23 : K.lookup f23 = some ⟨oc23, od23, .func (PySem.W.fnOf "law" "law" (defArgs s_law_k14_v2) (defBody s_law_k14_v2) (defScope s_law_k14_v2) .none kV23 dc23 pm23 an23 cd23 ct23), sl23⟩) (c23 : PySem.W.codeIn K cd23 "law" = true) (k23 : PySem.W.keepIn K (.ref f23) = true)
    (z_ValueError : PySem.W.nsIn K mainGlobals "ValueError" = some none)
    (z_abs : PySem.W.nsIn K mainGlobals "abs" = some none)
    (z_int : PySem.W.nsIn K mainGlobals "int" = some none)
    (z_isinstance : PySem.W.nsIn K mainGlobals "isinstance" = some none)
    (z_len : PySem.W.nsIn K mainGlobals "len" = some none)
    (z_max : PySem.W.nsIn K mainGlobals "max" = some none)
    (z_min : PySem.W.nsIn K mainGlobals "min" = some none)
    (z_range : PySem.W.nsIn K mainGlobals "range" = some none)
    (z_str : PySem.W.nsIn K mainGlobals "str" = some none)
    (xa_NoKey : PySem.W.nsIn K mainGlobals "NoKey" = some (some (.ref D_NoKey)))
    (xf_NoKey : PySem.W.findIn K (.ref D_NoKey) "__init__" = some (some (.ref fi_NoKey)))
    (xe_NoKey : excI K D_NoKey (some fi_NoKey) = true)
    (xk_NoKey : PySem.W.keepIn K (.ref D_NoKey) = true)
    (xfn_NoKey : PySem.W.isFn K (.ref fi_NoKey) = true)
    (xsa_NoKey : PySem.W.findIn K (.ref D_NoKey) "__setattr__" = some (some (.builtin "object.__setattr__")))
    (xna_NoKey_key : PySem.W.findIn K (.ref D_NoKey) "key" = some none)
    (xl_NoKey : K.lookup fi_NoKey = some ⟨oc_NoKey, od_NoKey, .func (PySem.W.fnOf "__init__" "NoKey.__init__" (defArgs si_NoKey) (defBody si_NoKey) (defScope si_NoKey) .none kV_NoKey dc_NoKey pm_NoKey an_NoKey cd_NoKey ct_NoKey), sl_NoKey⟩)
    (xcd_NoKey : PySem.W.codeIn K cd_NoKey "NoKey.__init__" = true)
    (xkf_NoKey : PySem.W.keepIn K (.ref fi_NoKey) = true)
    (yq_NoKey : excQ K D_NoKey = true)
    (yk_NoKey_ValueError : PySem.W.kitOne K (.ref D_NoKey) (.type "ValueError") = some true)
    (xa_NoTurn : PySem.W.nsIn K mainGlobals "NoTurn" = some (some (.ref D_NoTurn)))
    (xf_NoTurn : PySem.W.findIn K (.ref D_NoTurn) "__init__" = some (some (.ref fi_NoTurn)))
    (xe_NoTurn : excI K D_NoTurn (some fi_NoTurn) = true)
    (yk_NoKey_NoTurn : PySem.W.kitOne K (.ref D_NoKey) (.ref D_NoTurn) = some false)
    (yk_NoKey_NoKey : PySem.W.kitOne K (.ref D_NoKey) (.ref D_NoKey) = some true)
    (yh_NoKey : PySem.W.hasDictIn K D_NoKey = true)
    (xa_CrestError : PySem.W.nsIn K mainGlobals "CrestError" = some (some (.ref D_CrestError)))
    (xe_CrestError : excI K D_CrestError none = true)
    (ys_NoKey_CrestError : PySem.W.subIn K (.ref D_NoKey) (.ref D_CrestError) = some true) :
    ∃ fd : FuncData, (∀ (s : Shared) (v : Value), BindsTo s fd ⟨[v], []⟩ [("script", v)]) ∧ ∀ base : Heap, K.In base → base.Ns mainGlobals mg → FnOk l.prog w K mg base CX0 74 fa fd ["script"] (spD K (cD F_law_k14_v2)) := by
  have e := hfa.symm.trans (PySem.W.mg_of X G a23)
  cases e
  have F0 := fun_mk (st := s_part_at_v2) l0 c0 k0
  have D0 : Df K mg "part_at" s_part_at_v2 ["tree", "key"] := ⟨_, _, F0, PySem.W.mg_of X G a0, F0.binds (ps := ["tree", "key"]) fun _ _ _ _ _ _ us hl => match us, hl with | [_, _], _ => rfl⟩
  have F1 := fun_mk (st := s_always_left_v2) l1 c1 k1
  have D1 : Df K mg "always_left" s_always_left_v2 ["tree"] := ⟨_, _, F1, PySem.W.mg_of X G a1, F1.binds (ps := ["tree"]) fun _ _ _ _ _ _ us hl => match us, hl with | [_], _ => rfl⟩
  have F2 := fun_mk (st := s_always_right_v2) l2 c2 k2
  have D2 : Df K mg "always_right" s_always_right_v2 ["tree"] := ⟨_, _, F2, PySem.W.mg_of X G a2, F2.binds (ps := ["tree"]) fun _ _ _ _ _ _ us hl => match us, hl with | [_], _ => rfl⟩
  have F3 := fun_mk (st := s_seam_v2) l3 c3 k3
  have D3 : Df K mg "seam" s_seam_v2 ["tree", "key"] := ⟨_, _, F3, PySem.W.mg_of X G a3, F3.binds (ps := ["tree", "key"]) fun _ _ _ _ _ _ us hl => match us, hl with | [_, _], _ => rfl⟩
  have F4 := fun_mk (st := s_edges_v2) l4 c4 k4
  have D4 : Df K mg "edges" s_edges_v2 ["tree"] := ⟨_, _, F4, PySem.W.mg_of X G a4, F4.binds (ps := ["tree"]) fun _ _ _ _ _ _ us hl => match us, hl with | [_], _ => rfl⟩
  have F5 := fun_mk (st := s_law_pot_v2) l5 c5 k5
  have D5 : Df K mg "_law_pot" s_law_pot_v2 ["script", "k"] := ⟨_, _, F5, PySem.W.mg_of X G a5, F5.binds (ps := ["script", "k"]) fun _ _ _ _ _ _ us hl => match us, hl with | [_, _], _ => rfl⟩
  have F6 := fun_mk (st := s_law_take) l6 c6 k6
  have D6 : Df K mg "_law_take" s_law_take ["pot", "many"] := ⟨_, _, F6, PySem.W.mg_of X G a6, F6.binds (ps := ["pot", "many"]) fun _ _ _ _ _ _ us hl => match us, hl with | [_, _], _ => rfl⟩
  have F7 := fun_mk (st := s_law_great_v2) l7 c7 k7
  have D7 : Df K mg "_law_great" s_law_great_v2 ["pot"] := ⟨_, _, F7, PySem.W.mg_of X G a7, F7.binds (ps := ["pot"]) fun _ _ _ _ _ _ us hl => match us, hl with | [_], _ => rfl⟩
  have F8 := fun_mk (st := s_law_keys) l8 c8 k8
  have D8 : Df K mg "_law_keys" s_law_keys ["pot", "many"] := ⟨_, _, F8, PySem.W.mg_of X G a8, F8.binds (ps := ["pot", "many"]) fun _ _ _ _ _ _ us hl => match us, hl with | [_, _], _ => rfl⟩
  have F9 := fun_mk (st := s_law_rank) l9 c9 k9
  have D9 : Df K mg "_law_rank" s_law_rank ["pot", "way"] := ⟨_, _, F9, PySem.W.mg_of X G a9, F9.binds (ps := ["pot", "way"]) fun _ _ _ _ _ _ us hl => match us, hl with | [_, _], _ => rfl⟩
  have F10 := fun_mk (st := s_law_cards) l10 c10 k10
  have D10 : Df K mg "_law_cards" s_law_cards ["pot", "many"] := ⟨_, _, F10, PySem.W.mg_of X G a10, F10.binds (ps := ["pot", "many"]) fun _ _ _ _ _ _ us hl => match us, hl with | [_, _], _ => rfl⟩
  have F11 := fun_mk (st := s_law_many) l11 c11 k11
  have D11 : Df K mg "_law_many" s_law_many ["pot", "most"] := ⟨_, _, F11, PySem.W.mg_of X G a11, F11.binds (ps := ["pot", "most"]) fun _ _ _ _ _ _ us hl => match us, hl with | [_, _], _ => rfl⟩
  have F12 := fun_mk (st := s_law_branching) l12 c12 k12
  have D12 : Df K mg "_law_branching" s_law_branching ["pot", "cards", "way"] := ⟨_, _, F12, PySem.W.mg_of X G a12, F12.binds (ps := ["pot", "cards", "way"]) fun _ _ _ _ _ _ us hl => match us, hl with | [_, _, _], _ => rfl⟩
  have F13 := fun_mk (st := s_law_tree) l13 c13 k13
  have D13 : Df K mg "_law_tree" s_law_tree ["pot", "cards"] := ⟨_, _, F13, PySem.W.mg_of X G a13, F13.binds (ps := ["pot", "cards"]) fun _ _ _ _ _ _ us hl => match us, hl with | [_, _], _ => rfl⟩
  have F14 := fun_mk (st := s_law_row) l14 c14 k14
  have D14 : Df K mg "_law_row" s_law_row ["tree"] := ⟨_, _, F14, PySem.W.mg_of X G a14, F14.binds (ps := ["tree"]) fun _ _ _ _ _ _ us hl => match us, hl with | [_], _ => rfl⟩
  have F15 := fun_mk (st := s_law_part_v2) l15 c15 k15
  have D15 : Df K mg "_law_part" s_law_part_v2 ["tree", "key"] := ⟨_, _, F15, PySem.W.mg_of X G a15, F15.binds (ps := ["tree", "key"]) fun _ _ _ _ _ _ us hl => match us, hl with | [_, _], _ => rfl⟩
  have F16 := fun_mk (st := s_law_down) l16 c16 k16
  have D16 : Df K mg "_law_down" s_law_down ["tree", "side"] := ⟨_, _, F16, PySem.W.mg_of X G a16, F16.binds (ps := ["tree", "side"]) fun _ _ _ _ _ _ us hl => match us, hl with | [_, _], _ => rfl⟩
  have F17 := fun_mk (st := s_law_alike) l17 c17 k17
  have D17 : Df K mg "_law_alike" s_law_alike ["found", "due"] := ⟨_, _, F17, PySem.W.mg_of X G a17, F17.binds (ps := ["found", "due"]) fun _ _ _ _ _ _ us hl => match us, hl with | [_, _], _ => rfl⟩
  have F18 := fun_mk (st := s_law_strange) l18 c18 k18
  have D18 : Df K mg "_law_strange" s_law_strange ["pot", "keys"] := ⟨_, _, F18, PySem.W.mg_of X G a18, F18.binds (ps := ["pot", "keys"]) fun _ _ _ _ _ _ us hl => match us, hl with | [_, _], _ => rfl⟩
  have F19 := fun_mk (st := s_law_kind_v22) l19 c19 k19
  have D19 : Df K mg "_law_kind" s_law_kind_v22 ["e"] := ⟨_, _, F19, PySem.W.mg_of X G a19, F19.binds (ps := ["e"]) fun _ _ _ _ _ _ us hl => match us, hl with | [_], _ => rfl⟩
  have F20 := fun_mk (st := s_law_seam) l20 c20 k20
  have D20 : Df K mg "_law_seam" s_law_seam ["tree", "key"] := ⟨_, _, F20, PySem.W.mg_of X G a20, F20.binds (ps := ["tree", "key"]) fun _ _ _ _ _ _ us hl => match us, hl with | [_, _], _ => rfl⟩
  have F21 := fun_mk (st := s_law_heard_v14) l21 c21 k21
  have D21 : Df K mg "_law_heard" s_law_heard_v14 ["tree", "key"] := ⟨_, _, F21, PySem.W.mg_of X G a21, F21.binds (ps := ["tree", "key"]) fun _ _ _ _ _ _ us hl => match us, hl with | [_, _], _ => rfl⟩
  have F22 := fun_mk (st := s_law_right_v38) l22 c22 k22
  have D22 : Df K mg "_law_right" s_law_right_v38 ["pot"] := ⟨_, _, F22, PySem.W.mg_of X G a22, F22.binds (ps := ["pot"]) fun _ _ _ _ _ _ us hl => match us, hl with | [_], _ => rfl⟩
  have F23 := fun_mk (st := s_law_k14_v2) l23 c23 k23
  have D23 : Df K mg "law" s_law_k14_v2 ["script"] := ⟨_, _, F23, PySem.W.mg_of X G a23, F23.binds (ps := ["script"]) fun _ _ _ _ _ _ us hl => match us, hl with | [_], _ => rfl⟩
  have m_ValueError := PySem.W.mg_none_of X G z_ValueError
  have m_abs := PySem.W.mg_none_of X G z_abs
  have m_int := PySem.W.mg_none_of X G z_int
  have m_isinstance := PySem.W.mg_none_of X G z_isinstance
  have m_len := PySem.W.mg_none_of X G z_len
  have m_max := PySem.W.mg_none_of X G z_max
  have m_min := PySem.W.mg_none_of X G z_min
  have m_range := PySem.W.mg_none_of X G z_range
  have m_str := PySem.W.mg_none_of X G z_str
  have Fi_NoKey := fun_mk (st := si_NoKey) xl_NoKey xcd_NoKey xkf_NoKey
  have xi_NoKey : XIni K mg "NoKey" "key" := xini_mk (sf := "self") (ky := "key") X G xa_NoKey xe_NoKey xk_NoKey xfn_NoKey xsa_NoKey xna_NoKey_key Fi_NoKey (Fi_NoKey.binds (ps := ["self", "key"]) fun _ _ _ _ _ _ us hl => match us, hl with | [_, _], _ => rfl) rfl (by decide) rfl rfl rfl rfl rfl (by decide) (by decide) (fun _ => rfl)
  have xk_NoKey_ValueError : XKit K "NoKey" (.type "ValueError") true := xkit_mk xa_NoKey yq_NoKey yk_NoKey_ValueError
  have xd_NoTurn : XD K mg "NoTurn" D_NoTurn := xd_mk X G xa_NoTurn xe_NoTurn
  have xk_NoKey_NoTurn : XKit K "NoKey" (.ref D_NoTurn) false := xkit_mk xa_NoKey yq_NoKey yk_NoKey_NoTurn
  have xd_NoKey : XD K mg "NoKey" D_NoKey := xd_mk X G xa_NoKey xe_NoKey
  have xk_NoKey_NoKey : XKit K "NoKey" (.ref D_NoKey) true := xkit_mk xa_NoKey yq_NoKey yk_NoKey_NoKey
  have xq_NoKey_key : XQ K "NoKey" "key" := xq_mk xa_NoKey yq_NoKey yh_NoKey xna_NoKey_key
  have xd_CrestError : XD K mg "CrestError" D_CrestError := xd_mk X G xa_CrestError xe_CrestError
  have xs_NoKey_CrestError : XIs K "NoKey" (.ref D_CrestError) true := xis_mk xa_NoKey xe_NoKey ys_NoKey_CrestError
  refine ⟨PySem.W.fnOf "law" "law" (defArgs s_law_k14_v2) (defBody s_law_k14_v2) (defScope s_law_k14_v2) .none kV23 dc23 pm23 an23 cd23 ct23, fun s v => .of_eq rfl, fun base _ _ => ?_⟩
  have cx_part_at_v2 := calx_part_at_v2 (P := l.prog) (w := w) (base := base) D0   xi_NoKey  
  have c_part_at_v2 := calOfX cx_part_at_v2
  have c_always_left_v2 := cal_always_left_v2 (P := l.prog) (w := w) (base := base) D1     
  have c_always_right_v2 := cal_always_right_v2 (P := l.prog) (w := w) (base := base) D2     
  have cx_seam_v2 := calx_seam_v2 (P := l.prog) (w := w) (base := base) D3    c_always_left_v2 c_always_right_v2 cx_part_at_v2
  have c_seam_v2 := calOfX cx_seam_v2
  have c_edges_v2 := cal_edges_v2 (P := l.prog) (w := w) (base := base) D4    c_always_left_v2 c_always_right_v2 
  have c_law_pot_v2 := cal_law_pot_v2 (P := l.prog) (w := w) (base := base) D5 m_abs m_int m_len    
  have c_law_take := cal_law_take (P := l.prog) (w := w) (base := base) D6     
  have c_law_great_v2 := cal_law_great_v2 (P := l.prog) (w := w) (base := base) D7    c_law_take 
  have c_law_keys := cal_law_keys (P := l.prog) (w := w) (base := base) D8 m_range   c_law_take 
  have c_law_rank := cal_law_rank (P := l.prog) (w := w) (base := base) D9    c_law_great_v2 c_law_take 
  have c_law_cards := cal_law_cards (P := l.prog) (w := w) (base := base) D10 m_len   c_law_keys c_law_rank c_law_take 
  have c_law_many := cal_law_many (P := l.prog) (w := w) (base := base) D11 m_min   c_law_take 
  have c_law_branching := cal_law_branching (P := l.prog) (w := w) (base := base) D12 m_len   c_law_take 70
  have c_law_tree := cal_law_tree (P := l.prog) (w := w) (base := base) D13    c_law_branching c_law_take 
  have c_law_row := cal_law_row (P := l.prog) (w := w) (base := base) D14     70
  have c_law_part_v2 := cal_law_part_v2 (P := l.prog) (w := w) (base := base) D15 m_int    
  have c_law_down := cal_law_down (P := l.prog) (w := w) (base := base) D16     
  have c_law_alike := cal_law_alike (P := l.prog) (w := w) (base := base) D17 m_str    
  have c_law_strange := cal_law_strange (P := l.prog) (w := w) (base := base) D18 m_len   c_law_take 
  have c_law_kind_v22 := cal_law_kind_v22 (P := l.prog) (w := w) (base := base) D19 m_ValueError m_isinstance m_len  xk_NoKey_ValueError xd_NoTurn xk_NoKey_NoTurn xd_NoKey xk_NoKey_NoKey  
  have c_law_seam := cal_law_seam (P := l.prog) (w := w) (base := base) D20    c_law_down c_law_part_v2 
  have cx_law_heard_v14 := calx_law_heard_v14 (P := l.prog) (w := w) (base := base) D21   xq_NoKey_key xd_CrestError xs_NoKey_CrestError c_law_kind_v22 cx_seam_v2
  have c_law_heard_v14 := calOfX cx_law_heard_v14
  have c_law_right_v38 := cal_law_right_v38 (P := l.prog) (w := w) (base := base) D22 m_int m_range   c_law_alike c_law_cards c_law_down c_law_heard_v14 c_law_many c_law_row c_law_seam c_law_strange c_law_take c_law_tree c_edges_v2 
  exact law_fn F23 m_len m_max m_min m_range c_law_pot_v2 c_law_right_v38
theorem sp_law {K : PySem.W.Frag} {H : Hp} {a : Addr} {ns : List Int} (hS : SqL K H a (ns.map V.int)) (hl : ns.length ≤ 63) : spD K (cD F_law_k14_v2) [.ref a] H (fun v _ => v = .bl true) fun _ _ _ => False :=
  ⟨H, [.list (ns.map .int)], Same.refl _, .cons (.lst hS DpAll.ints) .nil, .sh (.bool true), law_k14_v2_true ns hl, fun F' H' v _ _ _ _ rf => by cases rf; rfl⟩
theorem walk {l : PySem.W.OpenLaw} {q : Program} {loose : List Str} {XP : (Str → Option Value) → Heap → Prop} {YP : World → Heap → Prop} {d : DefRec} {K : Params → PySem.W.Frag} (hn : l.most = some 63) (hdf : d.params.defaults = [])
    (hY : ∀ (w : World) (h : Heap), YP w h → (K w.params).In h)
    (F : ∀ (w : World) (mg : Str → Option Value) (fa : Addr) (h : Heap), (K w.params).In h → h.Ns mainGlobals mg → mg d.name = some (.ref fa) →
      ∃ fd : FuncData, (∀ (s : Shared) (u : Value), BindsTo s fd ⟨[u], []⟩ [("script", u)]) ∧ ∀ base : Heap, (K w.params).In base → base.Ns mainGlobals mg → FnOk l.prog w (K w.params) mg base CX0 74 fa fd ["script"] (spD (K w.params) (cD F_law_k14_v2))) :
    PySem.W.WalkO q loose XP YP l.row.toRowW d [] (fun f vs => PySem.call f vs) :=
  L2.walk_of (n := 63) (k := 74) (x := "script") (CX := fun _ => CX0) (sp := fun w => spD (K w.params) (cD F_law_k14_v2)) hn (by decide) hdf ⟨by decide, by decide, rfl⟩ hY F (fun _ H a ns hl _ hS => sp_law hS hl) fun _ _ _ _ _ z => z
end K14
open PySem PySem.W PyProof.Rows
set_option maxRecDepth 100000 in
set_option maxHeartbeats 0 in
theorem PySem.Challenge.cw_crestkeys_k14_seams_and_edges_holds : PySem.Challenge.rw_crestkeys_k14_seams_and_edges.Holds := by
  w_on; o_law; k_head; (case hw => w_witness2)
  k_fill
  refine K14.walk (l := PySem.Challenge.rw_crestkeys_k14_seams_and_edges) rfl rfl (fun w h Y => PySem.W.kIn_of Y) ?F
  case F =>
    intro w mg fa h KX G hmg
    refine' K14.all_mk KX G hmg ?a0 ?l0 ?c0 ?k0 ?a1 ?l1 ?c1 ?k1 ?a2 ?l2 ?c2 ?k2 ?a3 ?l3 ?c3 ?k3 ?a4 ?l4 ?c4 ?k4 ?a5 ?l5 ?c5 ?k5 ?a6 ?l6 ?c6 ?k6 ?a7 ?l7 ?c7 ?k7 ?a8 ?l8 ?c8 ?k8 ?a9 ?l9 ?c9 ?k9 ?a10 ?l10 ?c10 ?k10 ?a11 ?l11 ?c11 ?k11 ?a12 ?l12 ?c12 ?k12 ?a13 ?l13 ?c13 ?k13 ?a14 ?l14 ?c14 ?k14 ?a15 ?l15 ?c15 ?k15 ?a16 ?l16 ?c16 ?k16 ?a17 ?l17 ?c17 ?k17 ?a18 ?l18 ?c18 ?k18 ?a19 ?l19 ?c19 ?k19 ?a20 ?l20 ?c20 ?k20 ?a21 ?l21 ?c21 ?k21 ?a22 ?l22 ?c22 ?k22 ?a23 ?l23 ?c23 ?k23 ?z_ValueError ?z_abs ?z_int ?z_isinstance ?z_len ?z_max ?z_min ?z_range ?z_str ?xa_NoKey ?xf_NoKey ?xe_NoKey ?xk_NoKey ?xfn_NoKey ?xsa_NoKey ?xna_NoKey_key ?xl_NoKey ?xcd_NoKey ?xkf_NoKey ?yq_NoKey ?yk_NoKey_ValueError ?xa_NoTurn ?xf_NoTurn ?xe_NoTurn ?yk_NoKey_NoTurn ?yk_NoKey_NoKey ?yh_NoKey ?xa_CrestError ?xe_CrestError ?ys_NoKey_CrestError
    (case a0 => k_is)
    (case l0 => k_is)
    (case c0 => k_is)
    (case k0 => k_is)
    (case a1 => k_is)
    (case l1 => k_is)
    (case c1 => k_is)
    (case k1 => k_is)
    (case a2 => k_is)
    (case l2 => k_is)
    (case c2 => k_is)
    (case k2 => k_is)
    (case a3 => k_is)
    (case l3 => k_is)
    (case c3 => k_is)
    (case k3 => k_is)
    (case a4 => k_is)
    (case l4 => k_is)
    (case c4 => k_is)
    (case k4 => k_is)
    (case a5 => k_is)
    (case l5 => k_is)
    (case c5 => k_is)
    (case k5 => k_is)
    (case a6 => k_is)
    (case l6 => k_is)
    (case c6 => k_is)
    (case k6 => k_is)
    (case a7 => k_is)
    (case l7 => k_is)
    (case c7 => k_is)
    (case k7 => k_is)
    (case a8 => k_is)
    (case l8 => k_is)
    (case c8 => k_is)
    (case k8 => k_is)
    (case a9 => k_is)
    (case l9 => k_is)
    (case c9 => k_is)
    (case k9 => k_is)
    (case a10 => k_is)
    (case l10 => k_is)
    (case c10 => k_is)
    (case k10 => k_is)
    (case a11 => k_is)
    (case l11 => k_is)
    (case c11 => k_is)
    (case k11 => k_is)
    (case a12 => k_is)
    (case l12 => k_is)
    (case c12 => k_is)
    (case k12 => k_is)
    (case a13 => k_is)
    (case l13 => k_is)
    (case c13 => k_is)
    (case k13 => k_is)
    (case a14 => k_is)
    (case l14 => k_is)
    (case c14 => k_is)
    (case k14 => k_is)
    (case a15 => k_is)
    (case l15 => k_is)
    (case c15 => k_is)
    (case k15 => k_is)
    (case a16 => k_is)
    (case l16 => k_is)
    (case c16 => k_is)
    (case k16 => k_is)
    (case a17 => k_is)
    (case l17 => k_is)
    (case c17 => k_is)
    (case k17 => k_is)
    (case a18 => k_is)
    (case l18 => k_is)
    (case c18 => k_is)
    (case k18 => k_is)
    (case a19 => k_is)
    (case l19 => k_is)
    (case c19 => k_is)
    (case k19 => k_is)
    (case a20 => k_is)
    (case l20 => k_is)
    (case c20 => k_is)
    (case k20 => k_is)
    (case a21 => k_is)
    (case l21 => k_is)
    (case c21 => k_is)
    (case k21 => k_is)
    (case a22 => k_is)
    (case l22 => k_is)
    (case c22 => k_is)
    (case k22 => k_is)
    (case a23 => k_is)
    (case l23 => k_is)
    (case c23 => k_is)
    (case k23 => k_is)
    (case z_ValueError => k_is)
    (case z_abs => k_is)
    (case z_int => k_is)
    (case z_isinstance => k_is)
    (case z_len => k_is)
    (case z_max => k_is)
    (case z_min => k_is)
    (case z_range => k_is)
    (case z_str => k_is)
    (case xa_NoKey => k_is)
    (case xf_NoKey => k_is)
    (case xe_NoKey => kernel_rfl)
    (case xk_NoKey => k_is)
    (case xfn_NoKey => k_is)
    (case xsa_NoKey => k_is)
    (case xna_NoKey_key => k_is)
    (case xl_NoKey => k_is)
    (case xcd_NoKey => k_is)
    (case xkf_NoKey => k_is)
    (case yq_NoKey => kernel_rfl)
    (case yk_NoKey_ValueError => kernel_rfl)
    (case xa_NoTurn => k_is)
    (case xf_NoTurn => k_is)
    (case xe_NoTurn => kernel_rfl)
    (case yk_NoKey_NoTurn => kernel_rfl)
    (case yk_NoKey_NoKey => kernel_rfl)
    (case yh_NoKey => k_is)
    (case xa_CrestError => k_is)
    (case xe_CrestError => kernel_rfl)
    (case ys_NoKey_CrestError => k_is)
#print axioms PySem.Challenge.cw_crestkeys_k14_seams_and_edges_holds
