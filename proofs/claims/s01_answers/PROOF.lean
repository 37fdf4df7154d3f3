import PyProof.Rows.All
import Wide.All
import OpenK.AllK
import Wide.FinOn
import PyProof.EqAt
import PyProof.EqKinds
import PyProof.TupleCall
import KE.BitLaws
import Open.SpecLaws
import KE.OsHead
import KE.OsGo
import PySem.Challenge.RW_roomsharedesk_s01_answers
section
set_option Elab.async false
set_option linter.all false
set_option maxRecDepth 100000
namespace L2
open PySem PySem.Spec PyProof.Rows

abbrev Key := Sum Int Str
def keyIs : Key → Value → Bool
  | .inl k, v => Value.isInt k v
  | .inr x, v => Value.isStrOf x v
def keyH (w : World) : Key → Int
  | .inl k => hashInt k
  | .inr x => hashStr w x
theorem keyIs_shape : ∀ {k : Key} {v : Value}, keyIs k v = true → (∃ i t, k = Sum.inl i ∧ v = Value.int i t) ∨ (∃ x t, k = Sum.inr x ∧ v = Value.str x t)
  | .inl i, v, h => by
    obtain ⟨t, e⟩ := Value.isInt_shape (k := i) (v := v) h
    exact .inl ⟨i, t, rfl, e⟩
  | .inr x, v, h => by
    obtain ⟨t, e⟩ := Value.isStrOf_shape (x := x) (v := v) h
    exact .inr ⟨x, t, rfl, e⟩
theorem keyIs_int (i : Int) (t : Tok) : keyIs (.inl i) (.int i t) = true := by simp [keyIs, Value.isInt]
theorem keyIs_str (x : Str) (t : Tok) : keyIs (.inr x) (.str x t) = true := by simp [keyIs, Value.isStrOf]
theorem key_ll (a b : Int) : decide ((Sum.inl a : Key) = Sum.inl b) = (a == b) := by
  by_cases e : a = b
  · subst e; simp
  · have h : ¬ (Sum.inl a : Key) = Sum.inl b := fun q => e (Sum.inl.inj q)
    rw [decide_eq_false h]
    exact (beq_eq_false_iff_ne.mpr e).symm
theorem key_rr (a b : Str) : decide ((Sum.inr a : Key) = Sum.inr b) = decide (a = b) := by
  by_cases e : a = b
  · subst e; simp
  · have h : ¬ (Sum.inr a : Key) = Sum.inr b := fun q => e (Sum.inr.inj q)
    rw [decide_eq_false h, decide_eq_false e]
theorem key_lr (a : Int) (b : Str) : decide ((Sum.inl a : Key) = Sum.inr b) = false := decide_eq_false (fun q => nomatch q)
theorem key_rl (a : Str) (b : Int) : decide ((Sum.inr a : Key) = Sum.inl b) = false := decide_eq_false (fun q => nomatch q)

def mixKind (prog : Program) (w : World) : PySem.KeyKind prog w Key where
  is := keyIs
  hash := keyH w
  inj := fun v a b ha hb => by
    rcases keyIs_shape ha with ⟨i, t, rfl, rfl⟩ | ⟨x, t, rfl, rfl⟩
    · rcases keyIs_shape hb with ⟨j, u, rfl, e⟩ | ⟨y, u, rfl, e⟩
      · injection e with e1 _; rw [e1]
      · exact nomatch e
    · rcases keyIs_shape hb with ⟨j, u, rfl, e⟩ | ⟨y, u, rfl, e⟩
      · exact nomatch e
      · injection e with e1 _; rw [e1]
  byValue := fun k v h => by
    rcases keyIs_shape h with ⟨i, t, rfl, rfl⟩ | ⟨x, t, rfl, rfl⟩ <;> rfl
  pyHash := fun hv h => by
    rcases keyIs_shape hv with ⟨i, t, rfl, rfl⟩ | ⟨x, t, rfl, rfl⟩
    · exact wpAny_pyHash_int h
    · exact wpAny_pyHash_str h
  eqBool := fun hu hv h => by
    rcases keyIs_shape hu with ⟨i, t, rfl, rfl⟩ | ⟨x, t, rfl, rfl⟩
    · rcases keyIs_shape hv with ⟨j, u, rfl, rfl⟩ | ⟨y, u, rfl, rfl⟩
      · rw [key_ll] at h; exact wpAny_eqBool_int h
      · rw [key_lr] at h; exact SeqAt.EqAt.int_str i t y u _ _ _ _ h
    · rcases keyIs_shape hv with ⟨j, u, rfl, rfl⟩ | ⟨y, u, rfl, rfl⟩
      · rw [key_rl] at h; exact SeqAt.EqAt.str_int x t j u _ _ _ _ h
      · rw [key_rr] at h; exact wpAny_eqBool_str h
  «strs» := fun k x t v h => by
    rcases keyIs_shape h with ⟨i, u, rfl, e⟩ | ⟨y, u, rfl, e⟩
    · exact nomatch e
    · injection e with e1 _
      subst e1
      cases v <;> rfl

theorem mixKind_int (prog : Program) (w : World) (i : Int) (t : Tok) : (mixKind prog w).is (.inl i) (.int i t) = true := keyIs_int i t
theorem mixKind_str (prog : Program) (w : World) (x : Str) (t : Tok) : (mixKind prog w).is (.inr x) (.str x t) = true := keyIs_str x t
end L2

namespace L2
open PySem PySem.Spec PyProof.Rows

inductive V where
  | non | bl (b : Bool) | int (i : Int) | str (x : Str) | byt (b : Array UInt8) | flt (b : UInt64) | ref (a : Addr) | ty (n : String)
  deriving DecidableEq

def RelV : V → Value → Prop
  | .non, u => u = Value.none
  | .bl b, u => u = Value.bool b
  | .int i, u => ∃ t, u = Value.int i t
  | .str x, u => ∃ t, u = Value.str x t
  | .byt b, u => ∃ t, u = Value.bytes b t
  | .flt b, u => ∃ t, u = Value.float b t
  | .ref a, u => u = Value.ref a
  | .ty n, u => u = Value.type n

abbrev Vals : List V → List Value → Prop := Paired RelV
theorem Vals.length {xs : List V} {us : List Value} (r : Vals xs us) : xs.length = us.length := Paired.length r
theorem Vals.get : ∀ {xs : List V} {us : List Value} {i : Nat} {x : V}, Vals xs us → xs[i]? = some x → ∃ u, us[i]? = some u ∧ RelV x u
  | _, _, _, _, .nil, e => by simp at e
  | _, _, 0, _, .cons r _, e => by simp at e; subst e; exact ⟨_, rfl, r⟩
  | _, _, i + 1, x, .cons _ t, e => by
    obtain ⟨u, h1, h2⟩ := Vals.get (i := i) (x := x) t (by simpa using e)
    exact ⟨u, by simpa using h1, h2⟩
theorem Vals.set {x : V} {u : Value} (r : RelV x u) : ∀ {xs : List V} {us : List Value} (i : Nat), Vals xs us → Vals (xs.set i x) (us.set i u)
  | _, _, _, .nil => .nil
  | _, _, 0, .cons _ t => .cons r t
  | _, _, i + 1, .cons q t => .cons q (Vals.set r i t)
theorem Vals.append : ∀ {xs ys : List V} {us ws : List Value}, Vals xs us → Vals ys ws → Vals (xs ++ ys) (us ++ ws)
  | _, _, _, _, .nil, s => s
  | _, _, _, _, .cons r t, s => .cons r (Vals.append t s)
theorem Vals.take : ∀ {xs : List V} {us : List Value} (n : Nat), Vals xs us → Vals (xs.take n) (us.take n)
  | _, _, 0, _ => .nil
  | _, _, _ + 1, .nil => .nil
  | _, _, n + 1, .cons r t => .cons r (Vals.take n t)
theorem Vals.drop : ∀ {xs : List V} {us : List Value} (n : Nat), Vals xs us → Vals (xs.drop n) (us.drop n)
  | _, _, 0, r => r
  | _, _, _ + 1, .nil => .nil
  | _, _, n + 1, .cons _ t => Vals.drop n t
def RelO : Option V → Option Value → Prop
  | some v, some u => RelV v u
  | none, none => True
  | _, _ => False
def KV {κ : Type} : List (κ × V) → List (κ × Value) → Prop := Paired fun (p : κ × V) (q : κ × Value) => p.1 = q.1 ∧ RelV p.2 q.2

def kV : Key → V
  | .inl i => .int i
  | .inr x => .str x

inductive HO where
  /-- a list -/
  | lst (xs : List V)
  /-- a tuple (never changes) -/
  | tup (xs : List V)
  /-- a dict whose keys are ints and texts; one whose keys are tuples of ints and texts (the empty one is both) -/
  | dK (kvs : List (Key × V)) | dT (kvs : List (List Key × V))
  /-- a set of ints: its members, its size -/
  | set (S : Int → Bool) (n : Nat)
  /-- an instance of the class at C, its dict at dx, its attributes -/
  | ins (C dx : Addr) (fs : List (Str × V))
  /-- the dict of the instance at x -/
  | own (x : Addr)
  /-- the dict of an exception -/
  | xd (fs : List (Str × V))
  /-- a bound method, f of x -/
  | met (f x : Addr)
  /-- a range object lo, lo + 1, .. below hi -/
  | rng (lo hi : Int)
  /-- a thing that is known to the object (the script; a dict while a loop walks it): read, never written while it is so -/
  | frz (o : Obj) (u : HO)
  /-- a code object's table -/
  | tbl (ps : Array Value)
  /-- any other thing, by what is true of its one object (a def of one's own: SetO a S n := HO.ext fun h => ..) -/
  | ext (φ : Heap → Prop)

abbrev Hp := Addr → Option HO
def upd (H : Hp) (a : Addr) (o : HO) : Hp := fun b => if b = a then some o else H b
theorem upd_same {H : Hp} {a : Addr} {o : HO} : upd H a o a = some o := by unfold upd; rw [if_pos rfl]
theorem upd_ne {H : Hp} {a b : Addr} {o : HO} (h : b ≠ a) : upd H a o b = H b := by unfold upd; rw [if_neg h]
theorem ne_of {H : Hp} {a b : Addr} {o u : HO} (h : H a = some o) (h' : H b = some u) (d : o ≠ u) : a ≠ b := by
  intro e; subst e; rw [h] at h'; exact d (Option.some.inj h')
theorem ne_of_none {H : Hp} {a b : Addr} {o : HO} (h : H a = some o) (h' : H b = none) : a ≠ b := by
  intro e; subst e; rw [h] at h'; cases h'

section
variable (P : Program) (w : World)
def ObjOk (H : Hp) (h : Heap) (a : Addr) : HO → Prop
  | .lst xs => xs.length ≤ sizeLine ∧ ∃ (its : List Value) (n : Nat), Vals xs its ∧ h.get? a = some { cls := .type "list", data := .seq its.toArray n }
  | .tup xs => xs.length ≤ sizeLine ∧ ∃ its : List Value, Vals xs its ∧ IsTup h a its.toArray
  | .dK kvs => kvs.length ≤ sizeLine ∧ (a == sysModules) = false ∧ ∃ vs, KV kvs vs ∧ h.DictOf (mixKind P w) a vs
  | .dT kvs => kvs.length ≤ sizeLine ∧ (a == sysModules) = false ∧ ∃ xs : List (List Key × Addr × Value),
      Paired (fun (p : List Key × V) (q : List Key × Addr × Value) => p.1 = q.1 ∧ H q.2.1 = some (.tup (p.1.map kV)) ∧ RelV p.2 q.2.2) kvs xs ∧
      ∃ o es ep, h.get? a = some o ∧ o.ExactDict ∧ o.data = .dict es ep ∧ es.toList = xs.map (entryOfKey (tupleKind (mixKind P w))) ∧ (xs.map (·.1)).Nodup
  | .set S n => h.SetOf (intKind P w) a S n
  | .ins C dx fs => H dx = some (.own a) ∧ fs.length ≤ 1000 ∧ dx ≠ a ∧ h.get? a = some (PySem.W.instObj C dx) ∧
      ∃ mA, h.Ns1 dx mA ∧ (∀ f, RelO (fs.lookup f) (mA f)) ∧ PySem.Within mA (fs.map (·.1))
  | .own _ => ∃ o, h.get? a = some o
  | .xd fs => ∃ mA, h.Ns1 a mA ∧ ∀ f, RelO (fs.lookup f) (mA f)
  | .rng lo hi => ∃ t u v, h.get? a = some { cls := .type "range", data := .fields #[.int lo t, .int hi u, .int 1 v] }
  | .frz o u => h.get? a = some o ∧ ObjOk H h a u
  | .tbl ps => h.get? a = some { cls := .none, data := .fields ps }
  | .met f x => h.get? a = some (PySem.W.methodObj (.ref f) (.ref x))
  | .ext φ => φ h ∧ (∃ o, h.get? a = some o) ∧ ∀ h1 h2 : Heap, φ h1 → (∀ o, h1.get? a = some o → h2.get? a = some o) → φ h2
def HOk (H : Hp) (h : Heap) : Prop := ∀ a o, H a = some o → ObjOk P w H h a o
end

section
variable {P : Program} {w : World} {H H' : Hp} {h h' : Heap} {a : Addr} {o : HO}
theorem ObjOk.lt (x : ObjOk P w H h a o) : a < h.objs.size := by
  cases o with
  | lst xs => obtain ⟨_, _, _, _, e⟩ := x; exact Heap.lt_size e
  | tup xs => obtain ⟨_, _, _, p⟩ := x; exact p.lt
  | dK kvs => obtain ⟨_, _, _, _, o, _, _, e, _⟩ := x; exact Heap.lt_size e
  | dT kvs => obtain ⟨_, _, _, _, o, _, _, e, _⟩ := x; exact Heap.lt_size e
  | set S n => obtain ⟨o, _, _, _, e, _⟩ := x; exact Heap.lt_size e
  | ins C dx fs => obtain ⟨_, _, _, e, _⟩ := x; exact Heap.lt_size e
  | own y => obtain ⟨_, e⟩ := x; exact Heap.lt_size e
  | xd fs => obtain ⟨_, ⟨_, _, _, e, _⟩, _⟩ := x; exact Heap.lt_size e
  | rng lo hi => obtain ⟨_, _, _, e⟩ := x; exact Heap.lt_size e
  | frz ob u => obtain ⟨e, _⟩ := x; exact Heap.lt_size e
  | tbl ps => exact Heap.lt_size (show h.get? a = some _ from x)
  | met f y => exact Heap.lt_size (show h.get? a = some _ from x)
  | ext φ => obtain ⟨_, ⟨_, e⟩, _⟩ := x; exact Heap.lt_size e
theorem Paired.mapP {α β : Type} {F G : α → β → Prop} : ∀ {l₁ : List α} {l₂ : List β}, Paired F l₁ l₂ → (∀ a b, F a b → G a b) → Paired G l₁ l₂
  | _, _, .nil, _ => .nil
  | _, _, .cons r t, f => .cons (f _ _ r) (Paired.mapP t f)
theorem ObjOk.stay (x : ObjOk P w H h a o) (k : ∀ b u, (b = a ∨ H b = some (.own a)) → h.get? b = some u → h'.get? b = some u)
    (ho : ∀ b, H b = some (.own a) → H' b = some (.own a)) (ht : ∀ b xs, H b = some (.tup xs) → H' b = some (.tup xs)) : ObjOk P w H' h' a o := by
  induction o with
  | lst xs => obtain ⟨z, its, n, r, e⟩ := x; exact ⟨z, its, n, r, k _ _ (.inl rfl) e⟩
  | tup xs => obtain ⟨z, its, r, ob, e, c⟩ := x; exact ⟨z, its, r, ob, k _ _ (.inl rfl) e, c⟩
  | dK kvs => obtain ⟨z, y, vs, r, ob, es, ep, e, c⟩ := x; exact ⟨z, y, vs, r, ob, es, ep, k _ _ (.inl rfl) e, c⟩
  | dT kvs =>
    obtain ⟨z, y, xs, r, ob, es, ep, e, c⟩ := x
    exact ⟨z, y, xs, Paired.mapP r fun p q z => ⟨z.1, ht _ _ z.2.1, z.2.2⟩, ob, es, ep, k _ _ (.inl rfl) e, c⟩
  | set S n => obtain ⟨ob, es, ep, t, e, c⟩ := x; exact ⟨ob, es, ep, t, k _ _ (.inl rfl) e, c⟩
  | ins C dx fs =>
    obtain ⟨d, z, ne, e, mA, ⟨od, es, ep, e2, c⟩, r⟩ := x
    exact ⟨ho _ d, z, ne, k _ _ (.inl rfl) e, mA, ⟨od, es, ep, k _ _ (.inr d) e2, c⟩, r⟩
  | own y => obtain ⟨ob, e⟩ := x; exact ⟨ob, k _ _ (.inl rfl) e⟩
  | xd fs => obtain ⟨mA, ⟨od, es, ep, e, c⟩, r⟩ := x; exact ⟨mA, ⟨od, es, ep, k _ _ (.inl rfl) e, c⟩, r⟩
  | rng lo hi => obtain ⟨t, u, v, e⟩ := x; exact ⟨t, u, v, k _ _ (.inl rfl) e⟩
  | frz ob u ih => obtain ⟨e, q⟩ := x; exact ⟨k _ _ (.inl rfl) e, ih q⟩
  | tbl ps =>
    have e : h.get? a = some { cls := .none, data := .fields ps } := x
    show h'.get? a = some { cls := .none, data := .fields ps }
    exact k a _ (.inl rfl) e
  | met f y =>
    have e : h.get? a = some (PySem.W.methodObj (.ref f) (.ref y)) := x
    show h'.get? a = some (PySem.W.methodObj (.ref f) (.ref y))
    exact k a _ (.inl rfl) e
  | ext φ => obtain ⟨p, ⟨o, e⟩, st⟩ := x; exact ⟨st _ _ p fun o q => k _ _ (.inl rfl) q, ⟨o, k _ _ (.inl rfl) e⟩, st⟩
theorem HOk.lt (x : HOk P w H h) (e : H a = some o) : a < h.objs.size := (x a o e).lt
theorem HOk.fresh (x : HOk P w H h) (e : h.objs.size ≤ a) : H a = none := by
  cases q : H a with
  | none => rfl
  | some u => exact absurd (Nat.lt_of_lt_of_le (x.lt q) e) (Nat.lt_irrefl _)
theorem HOk.kept (x : HOk P w H h) (k : ∀ b u, h.get? b = some u → h'.get? b = some u) : HOk P w H h' := fun a o e =>
  (x a o e).stay (fun b u _ q => k b u q) (fun _ q => q) fun _ _ q => q
theorem HOk.laid (x : HOk P w H h) (k : ∀ b u, h.get? b = some u → h'.get? b = some u) (hp : h.objs.size ≤ a) (new : ObjOk P w (upd H a o) h' a o) : HOk P w (upd H a o) h' := fun b u e => by
  have hn := x.fresh hp
  by_cases hb : b = a
  · subst hb; rw [upd_same] at e; cases e; exact new
  · rw [upd_ne hb] at e
    exact (x b u e).stay (fun c v _ q => k c v q) (fun c q => by rw [upd_ne (ne_of_none q hn)]; exact q) fun c xs q => by rw [upd_ne (ne_of_none q hn)]; exact q
end

def Rd (H : Hp) (a : Addr) (u : HO) : Prop := H a = some u ∨ ∃ o, H a = some (.frz o u)
theorem Rd.ok {P : Program} {w : World} {H : Hp} {h : Heap} {a : Addr} {u : HO} (r : Rd H a u) (x : HOk P w H h) : ObjOk P w H h a u := by
  rcases r with r | ⟨o, r⟩
  · exact x a u r
  · obtain ⟨_, q⟩ := x a _ r
    exact q
def Mut : Option HO → Prop
  | some (.lst _) => True
  | some (.dK _) => True
  | some (.dT _) => True
  | some (.set _ _) => True
  | some (.ins _ _ _) => True
  | some (.ext _) => True
  | _ => False
section
variable {P : Program} {w : World} {H : Hp} {h h' : Heap} {x e : Addr} {o' : HO}
theorem HOk.write (ok : HOk P w H h) (mu : Mut (H x)) (he : e = x ∨ H e = some (.own x)) (k : ∀ b u, b ≠ e → h.get? b = some u → h'.get? b = some u) (heo : ∃ u, h'.get? e = some u)
    (new : ObjOk P w (upd H x o') h' x o') : HOk P w (upd H x o') h' := fun b u q => by
  have nown : ∀ c y, H c = some (.own y) → c ≠ x := fun c y r z => by subst z; rw [r] at mu; exact mu
  have ntup : ∀ c xs, H c = some (.tup xs) → c ≠ x := fun c xs r z => by subst z; rw [r] at mu; exact mu
  by_cases hb : b = x
  · subst hb; rw [upd_same] at q; cases q; exact new
  · rw [upd_ne hb] at q
    by_cases hbe : b = e
    · have q' : H b = some (.own x) := by
        rcases he with z | z
        · exact absurd (hbe.trans z) hb
        · rw [hbe]; exact z
      rw [q] at q'; cases q'
      obtain ⟨v, hv⟩ := heo
      exact ⟨v, by rw [hbe]; exact hv⟩
    · refine (ok b u q).stay (fun c v hc r => k c v ?_ r) (fun c r => by rw [upd_ne (nown c b r)]; exact r) fun c xs r => by rw [upd_ne (ntup c xs r)]; exact r
      rcases hc with rfl | hc
      · exact hbe
      · rintro rfl
        rcases he with z | z
        · exact nown c b hc z
        · rw [hc] at z; cases z; exact hb rfl
end

structure Un (fs ex : List Addr) (H H' : Hp) (h h' : Heap) : Prop where
  keep : ∀ b o, h.get? b = some o → H b = none → b ∉ fs → b ∉ ex → h'.get? b = some o
  slot : ∀ b o, h.get? b = some o → H b = none → b ∈ fs → b ∉ ex → ∃ sl, h'.get? b = some { o with slots := sl }
  free : ∀ b o, h.get? b = some o → H b = none → b ∉ ex → H' b = none
  there : ∀ b o, h.get? b = some o → b ∉ ex → ∃ o', h'.get? b = some o'
  tups : ∀ b xs, H b = some (.tup xs) → H' b = some (.tup xs)
  frzs : ∀ b o u, H b = some (.frz o u) → H' b = some (.frz o u)
  tbls : ∀ b ps, H b = some (.tbl ps) → ∃ more, H' b = some (.tbl (ps ++ more))
section
variable {fs fs' ex ex' : List Addr} {H H1 H2 : Hp} {h h1 h2 h' : Heap} {a x e : Addr} {o : HO}
theorem Un.any (u : Un fs ex H H1 h h1) {b : Addr} {ob : Obj} (q : h.get? b = some ob) (n : H b = none) (hx : b ∉ ex) : ∃ sl, h1.get? b = some { ob with slots := sl } := by
  by_cases hb : b ∈ fs
  · exact u.slot b ob q n hb hx
  · exact ⟨ob.slots, u.keep b ob q n hb hx⟩
theorem Un.kept (k : ∀ b u, h.get? b = some u → h'.get? b = some u) : Un fs ex H H h h' :=
  ⟨fun b ob q _ _ _ => k b ob q, fun b ob q _ _ _ => ⟨ob.slots, k b ob q⟩, fun _ _ _ n _ => n, fun b ob q _ => ⟨ob, k b ob q⟩, fun _ _ q => q, fun _ _ _ q => q, fun _ ps q => ⟨#[], by rw [q]; simp⟩⟩
theorem Un.refl : Un fs ex H H h h := Un.kept fun _ _ q => q
theorem Un.laid (k : ∀ b u, h.get? b = some u → h'.get? b = some u) (hp : h.objs.size ≤ a) (hn : H a = none) : Un fs ex H (upd H a o) h h' where
  keep := fun b u q _ _ _ => k b u q
  slot := fun b u q _ _ _ => ⟨u.slots, k b u q⟩
  free := fun b u q n _ => by rw [upd_ne (Nat.ne_of_lt (Nat.lt_of_lt_of_le (Heap.lt_size q) hp))]; exact n
  there := fun b u q _ => ⟨u, k b u q⟩
  tups := fun b xs q => by rw [upd_ne (ne_of_none q hn)]; exact q
  frzs := fun b u xs q => by rw [upd_ne (ne_of_none q hn)]; exact q
  tbls := fun b ps q => ⟨#[], by rw [upd_ne (ne_of_none q hn), q]; simp⟩
theorem Un.write (mu : Mut (H x)) (he : e = x ∨ H e = some (.own x)) (k : ∀ b u, b ≠ e → h.get? b = some u → h'.get? b = some u) (heo : ∃ u, h'.get? e = some u) : Un fs ex H (upd H x o) h h' := by
  have hx : ∀ b, H b = none → b ≠ x := fun b n z => by subst z; rw [n] at mu; exact mu
  have hb : ∀ b, H b = none → b ≠ e := fun b n z => by
    subst z
    rcases he with r | r
    · exact hx b n r
    · rw [n] at r; cases r
  have hm : ∀ b u, H b = some u → ¬ Mut (some u) → b ≠ x := fun b u q nm z => by subst z; rw [q] at mu; exact nm mu
  refine ⟨fun b u q n _ _ => k b u (hb b n) q, fun b u q n _ _ => ⟨u.slots, k b u (hb b n) q⟩, fun b u q n _ => by rw [upd_ne (hx b n)]; exact n, fun b u q _ => ?_,
    fun b xs q => by rw [upd_ne (hm b _ q fun z => z)]; exact q, fun b u xs q => by rw [upd_ne (hm b _ q fun z => z)]; exact q, fun b ps q => ⟨#[], by rw [upd_ne (hm b _ q fun z => z), q]; simp⟩⟩
  by_cases hbe : b = e
  · subst hbe; exact heo
  · exact ⟨u, k b u hbe q⟩
end

def trk (h : Heap) (H : Hp) : List Addr := (List.range h.objs.size).filter fun a => (H a).isSome
def hidT (h : Heap) (H : Hp) : Heap := PySem.W.hideAll h (trk h H)
theorem hidT_size (h : Heap) (H : Hp) : (hidT h H).objs.size = h.objs.size := PySem.W.hideAll_size _ _
theorem hidT_get {h : Heap} {H : Hp} {b : Addr} {o : Obj} (e : h.get? b = some o) (n : H b = none) : (hidT h H).get? b = some o :=
  PySem.W.hideAll_get _ e fun hm => by
    have q : (H b).isSome = true := (List.mem_filter.mp hm).2
    rw [n] at q; simp at q
theorem of_hidT {h : Heap} {H : Hp} {b : Addr} {o : Obj} (e : (hidT h H).get? b = some o) : h.get? b = some o ∧ H b = none := by
  have e' : h.get? b = some o := PySem.W.of_hideAll (trk h H) e
  refine ⟨e', ?_⟩
  cases q : H b with
  | none => rfl
  | some x =>
    have hm : b ∈ trk h H := List.mem_filter.mpr ⟨List.mem_range.mpr (Heap.lt_size e'), by simp [q]⟩
    have z : (hidT h H).get? b = none := PySem.W.hideAll_none (trk h H) hm
    rw [z] at e; cases e

end L2

namespace L2
open PySem PySem.Spec PyProof.Rows

structure Mod (K : PySem.W.Frag) (mg : Str → Option Value) (base : Heap) : Prop where
  kin : K.In base
  glob : base.Ns mainGlobals mg
  blt : ∃ mb, base.Ns builtinsNs mb ∧ ∀ x : Str, x ≠ "__name__" → mb x = bootBuiltins x
  nolimit : base.NoLimit

structure Cx where
  prog : Program
  w : World
  K : PySem.W.Frag
  mg : Str → Option Value
  base : Heap
  A : Around
  N : List Str
  s_0 : Shared
  H_0 : Hp
  env : Env
  outer : List Env
  stack : List Env
  ex : List Addr
  fn : Str → Bool
  calm : Bool
  pn : List (Addr × Obj)
  xe : Value → Shared → Prop
def frs (l : List Env) : List Addr := l.filterMap (·.frame)
abbrev Cx.fs (X : Cx) : List Addr := frs X.outer

def Vis (sc : Scope) (x : Str) : Prop := sc.names.lookup x = some .local ∨ sc.names.lookup x = some .cell ∨ sc.names.lookup x = some .free
def Loc (sc : Scope) (x : Str) : Prop := sc.names.lookup x = some .local ∨ sc.names.lookup x = some .cell
def Look (env : Env) (h : Heap) (m : Str → Option Value) (x : Str) (u : Value) : Prop :=
  (env.kindOf x = some .local ∧ m x = some u) ∨ ((env.kindOf x = some .cell ∨ env.kindOf x = some .free) ∧ ∃ c, env.cells.lookup x = some c ∧ h.IsCell c (some u))

structure Cx.Ok (X : Cx) : Prop where
  mod : Mod X.K X.mg X.base
  kind : X.env.scope.kind = .function
  glob : X.env.globals = mainGlobals
  blt : X.env.builtins = builtinsNs
  above : X.s_0.heap.objs.size ≤ X.env.locals
  inj : ∀ x y c, X.env.cells.lookup x = some c → X.env.cells.lookup y = some c → x = y
  has : ∀ x, (X.env.kindOf x = some .cell ∨ X.env.kindOf x = some .free) → ∃ c, X.env.cells.lookup x = some c
  cab : ∀ x c, X.fn x = true → X.env.cells.lookup x = some c → X.s_0.heap.objs.size ≤ c
  hd : X.calm = true → X.A.handled = none
  frames : X.A.frames = some X.stack
  stk : X.stack = X.outer ∨ (X.stack = X.env :: X.outer ∧ X.env.frame = some X.env.locals)
  exf : ∀ b ∈ X.ex, b ≠ X.env.locals ∧ ∀ x c, X.env.cells.lookup x = some c → c ≠ b
  bs : ∀ b o, X.base.get? b = some o → X.s_0.heap.get? b = some o ∧ X.H_0 b = none
  bsz : X.base.objs.size ≤ X.s_0.heap.objs.size
  noex : ∀ b o, X.base.get? b = some o → b ∉ X.ex
  exfs : ∀ b ∈ X.ex, b ∉ X.fs
  funs : X.s_0.heap.FunFrames X.base X.outer
  frf : ∀ b ∈ X.fs, X.H_0 b = none

structure Inv (X : Cx) (pins : List (Addr × Obj)) (σ : List (Option V)) (H : Hp) (s : Shared) : Prop where
  ok : X.Ok
  os : s.os = X.s_0.os
  bare : AllBare s.gens
  base : Un X.fs X.ex X.H_0 H X.s_0.heap s.heap
  loc : ∃ m, s.heap.Ns X.env.locals m ∧ ∀ (i : Nat) (x : Str) (v : V), X.N[i]? = some x → σ[i]? = some (some v) → Vis X.env.scope x → ∃ u, RelV v u ∧ Look X.env s.heap m x u
  cell : ∀ x c, X.env.cells.lookup x = some c → ∃ v, s.heap.IsCell c v
  free : H X.env.locals = none
  freeC : ∀ x c, X.env.cells.lookup x = some c → H c = none
  pin : ∀ p ∈ X.pn ++ pins, s.heap.get? p.1 = some p.2 ∧ H p.1 = none ∧ p.1 ≠ X.env.locals ∧ p.1 ∉ X.fs ∧ ∀ v, p.2.data ≠ .cell v
  hok : HOk X.prog X.w H s.heap
  len : σ.length = X.N.length

section
variable {X : Cx} {pins : List (Addr × Obj)} {σ : List (Option V)} {H H' : Hp} {s : Shared} {h' : Heap}

theorem Cx.Ok.nofr (ok : X.Ok) {b : Addr} {o : Obj} (e : X.base.get? b = some o) : b ∉ X.fs := fun hb => by
  have := (ok.funs.mem hb).1
  rw [e] at this; cases this
theorem Inv.bs (I : Inv X pins σ H s) : ∀ b o, X.base.get? b = some o → s.heap.get? b = some o ∧ H b = none := fun b o e =>
  ⟨I.base.keep b o (I.ok.bs b o e).1 (I.ok.bs b o e).2 (I.ok.nofr e) (I.ok.noex b o e), I.base.free b o (I.ok.bs b o e).1 (I.ok.bs b o e).2 (I.ok.noex b o e)⟩
theorem Inv.bk (I : Inv X pins σ H s) : ∀ b o, X.base.get? b = some o → s.heap.get? b = some o := fun b o e => (I.bs b o e).1
theorem Inv.mod (I : Inv X pins σ H s) : Mod X.K X.mg X.base := I.ok.mod
theorem Inv.kIn (I : Inv X pins σ H s) : X.K.In s.heap := I.ok.mod.kin.keeps I.bk
theorem Inv.lt (I : Inv X pins σ H s) : X.env.locals < s.heap.objs.size := let ⟨_, hn, _⟩ := I.loc; hn.lt
theorem Inv.sz (I : Inv X pins σ H s) : X.s_0.heap.objs.size ≤ s.heap.objs.size := Nat.le_trans I.ok.above (Nat.le_of_lt I.lt)
theorem Inv.nofs (I : Inv X pins σ H s) {a : Addr} (h : s.heap.objs.size ≤ a) : a ∉ X.fs := fun hb => by
  obtain ⟨_, o, ho, _⟩ := I.ok.funs.mem hb
  exact absurd (Nat.lt_of_lt_of_le (Heap.lt_size ho) (Nat.le_trans I.sz h)) (Nat.lt_irrefl _)
theorem Inv.cne (I : Inv X pins σ H s) : ∀ x c, X.env.cells.lookup x = some c → c ≠ X.env.locals := fun x c e z => by
  obtain ⟨v, o, ho, hd⟩ := I.cell x c e
  obtain ⟨m, ⟨o', es, ep, ho', hd', _⟩, _⟩ := I.loc
  rw [z, ho'] at ho; cases ho; rw [hd'] at hd; cases hd
theorem Inv.funs (I : Inv X pins σ H s) : s.heap.FunFrames X.base X.outer := by
  have all : ∀ (l : List Env), (∀ b ∈ frs l, b ∈ X.fs) → X.s_0.heap.FunFrames X.base l → s.heap.FunFrames X.base l := by
    intro l
    induction l with
    | nil => intro _ _; trivial
    | cons env r ih =>
      intro hs hl
      obtain ⟨hk, ⟨L, o, hf, hn, ho, hd⟩, hr⟩ := hl
      have hL : L ∈ X.fs := hs L (by unfold frs; rw [List.filterMap_cons, hf]; exact List.mem_cons_self)
      obtain ⟨sl, e⟩ := I.base.slot L o ho (I.ok.frf L hL) hL fun z => I.ok.exfs L z hL
      exact ⟨hk, ⟨L, _, hf, hn, e, hd⟩, ih (fun b hb => hs b (by unfold frs; rw [List.filterMap_cons, hf]; exact List.mem_cons_of_mem _ hb)) hr⟩
  exact all X.outer (fun _ hb => hb) I.ok.funs

theorem Inv.stack (I : Inv X pins σ H s) : s.heap.FunFrames X.base X.stack := by
  rcases I.ok.stk with e | ⟨e, hf⟩
  · rw [e]; exact I.funs
  · rw [e]
    obtain ⟨m, hn, _⟩ := I.loc
    refine .cons (by rw [I.ok.kind]; decide) hf hn ?_ I.funs
    exact Heap.get?_none_of_le (Nat.le_trans I.ok.bsz I.ok.above)
theorem Inv.stkSub (I : Inv X pins σ H s) : ∀ b ∈ frs X.stack, b ∈ X.env.locals :: X.fs := fun b hb => by
  rcases I.ok.stk with e | ⟨e, hf⟩
  · rw [e] at hb; exact List.mem_cons_of_mem _ hb
  · rw [e] at hb
    unfold frs at hb
    rw [List.filterMap_cons, hf] at hb
    exact hb
theorem Inv.stkFree (I : Inv X pins σ H s) : ∀ b ∈ frs X.stack, H b = none := fun b hb => by
  rcases List.mem_cons.mp (I.stkSub b hb) with e | hb
  · rw [e]; exact I.free
  · obtain ⟨_, o, ho, _⟩ := I.ok.funs.mem hb
    exact I.base.free b o ho (I.ok.frf b hb) fun z => I.ok.exfs b z hb

theorem Inv.step {g' : Array GenState} {t' : Nat} {d' : Drawn} {ch : List Addr} (I : Inv X pins σ H s)
    (hch : ∀ b ∈ ch, (b ∈ X.ex ∨ X.s_0.heap.objs.size ≤ b) ∧ b ≠ X.env.locals ∧ (∀ x c, X.env.cells.lookup x = some c → c ≠ b) ∧ ∀ p ∈ X.pn ++ pins, p.1 ≠ b)
    (keep : ∀ b o, b ≠ X.env.locals → b ∉ X.fs → b ∉ ch → s.heap.get? b = some o → H b = none → h'.get? b = some o)
    (slot : ∀ b o, b ≠ X.env.locals → b ∈ X.fs → b ∉ ch → s.heap.get? b = some o → H b = none → ∃ sl, h'.get? b = some { o with slots := sl }) (free : ∀ b o, b ∉ ch → s.heap.get? b = some o → H b = none → H' b = none)
    (there : ∀ b o, b ∉ ch → s.heap.get? b = some o → ∃ o', h'.get? b = some o')
    (tups : ∀ b xs, H b = some (.tup xs) → H' b = some (.tup xs)) (frzs : ∀ b o u, H b = some (.frz o u) → H' b = some (.frz o u)) (tbls : ∀ b ps, H b = some (.tbl ps) → ∃ more, H' b = some (.tbl (ps ++ more)))
    (ns : ∀ m, s.heap.Ns X.env.locals m → h'.Ns X.env.locals m) (hok : HOk X.prog X.w H' h') (hg : AllBare g') :
    Inv X pins σ H' { s with heap := h', gens := g', drawn := d', toks := t' } := by
  have neL : ∀ b o, X.s_0.heap.get? b = some o → b ≠ X.env.locals := fun b o e => Nat.ne_of_lt (Nat.lt_of_lt_of_le (Heap.lt_size e) I.ok.above)
  have neC : ∀ b o, X.s_0.heap.get? b = some o → b ∉ X.ex → b ∉ ch := fun b o e hx hb => by
    rcases (hch b hb).1 with z | z
    · exact hx z
    · exact absurd (Nat.lt_of_lt_of_le (Heap.lt_size e) z) (Nat.lt_irrefl _)
  have cellK : ∀ x c, X.env.cells.lookup x = some c → ∀ v, s.heap.IsCell c v → h'.IsCell c v := fun x c e v ⟨o, ho, hd⟩ => by
    have nch : c ∉ ch := fun z => (hch c z).2.2.1 x c e rfl
    by_cases hc : c ∈ X.fs
    · obtain ⟨sl, q⟩ := slot c o (I.cne x c e) hc nch ho (I.freeC x c e)
      exact ⟨_, q, hd⟩
    · exact ⟨o, keep c o (I.cne x c e) hc nch ho (I.freeC x c e), hd⟩
  refine ⟨I.ok, I.os, hg, ⟨fun b o e n hb hx => ?_, fun b o e n hb hx => ?_, fun b o e n hx => ?_, fun b o e hx => ?_, fun b xs e => tups b xs (I.base.tups b xs e), fun b o xs e => frzs b o xs (I.base.frzs b o xs e), fun b ps e => ?_⟩, ?_, fun x c e => ?_, ?_, fun x c e => ?_, fun p hp => ?_, hok, I.len⟩
  · exact keep b o (neL b o e) hb (neC b o e hx) (I.base.keep b o e n hb hx) (I.base.free b o e n hx)
  · obtain ⟨sl, e1⟩ := I.base.slot b o e n hb hx
    obtain ⟨sl', e2⟩ := slot b _ (neL b o e) hb (neC b o e hx) e1 (I.base.free b o e n hx)
    exact ⟨sl', e2⟩
  · obtain ⟨o', e1⟩ := I.base.there b o e hx
    exact free b o' (neC b o e hx) e1 (I.base.free b o e n hx)
  · obtain ⟨o', e1⟩ := I.base.there b o e hx
    exact there b o' (neC b o e hx) e1
  · obtain ⟨m1, e1⟩ := I.base.tbls b ps e
    obtain ⟨m2, e2⟩ := tbls b _ e1
    exact ⟨m1 ++ m2, by rw [e2, Array.append_assoc]⟩
  · obtain ⟨m, hn, hl⟩ := I.loc
    refine ⟨m, ns m hn, fun i x v e1 e2 e3 => ?_⟩
    obtain ⟨u, r, l⟩ := hl i x v e1 e2 e3
    refine ⟨u, r, ?_⟩
    rcases l with l | ⟨k, c, e, z⟩
    · exact .inl l
    · exact .inr ⟨k, c, e, cellK x c e _ z⟩
  · obtain ⟨v, z⟩ := I.cell x c e
    exact ⟨v, cellK x c e v z⟩
  · obtain ⟨m, ⟨o, _, _, ho, _⟩, _⟩ := I.loc
    exact free _ o (fun z => (hch _ z).2.1 rfl) ho I.free
  · obtain ⟨v, o, ho, hd⟩ := I.cell x c e
    exact free c o (fun z => (hch c z).2.2.1 x c e rfl) ho (I.freeC x c e)
  · obtain ⟨e, n, ne, nf, d⟩ := I.pin p hp
    have nch : p.1 ∉ ch := fun z => (hch p.1 z).2.2.2 p hp rfl
    exact ⟨keep p.1 p.2 ne nf nch e n, free p.1 p.2 nch e n, ne, nf, d⟩
theorem Inv.un {t' : Nat} (I : Inv X pins σ H s) (u : Un X.fs [] H H' s.heap h') (hok : HOk X.prog X.w H' h') : Inv X pins σ H' { s with heap := h', toks := t' } := by
  obtain ⟨m, ⟨o, es, ep, ho, r⟩, _⟩ := id I.loc
  obtain ⟨sl, hL⟩ := u.any ho I.free (by simp)
  exact I.step (g' := s.gens) (d' := s.drawn) (ch := []) (fun _ z => nomatch z) (fun b o _ hb _ e n => u.keep b o e n hb (by simp)) (fun b o _ hb _ e n => u.slot b o e n hb (by simp)) (fun b o _ e n => u.free b o e n (by simp)) (fun b o _ e => u.there b o e (by simp)) u.tups u.frzs u.tbls (fun m' hm => by
    obtain ⟨o', es', ep', ho', r'⟩ := hm
    rw [ho] at ho'; cases ho'
    exact ⟨_, es', ep', hL, r'⟩) hok I.bare
theorem Inv.call {g' : Array GenState} {t' : Nat} {d' : Drawn} {ch : List Addr} (I : Inv X pins σ H s) (u : Un (frs X.stack) ch H H' s.heap h') (hok : HOk X.prog X.w H' h') (hg : AllBare g')
    (hch : ∀ b ∈ ch, (b ∈ X.ex ∨ X.s_0.heap.objs.size ≤ b) ∧ b ≠ X.env.locals ∧ (∀ x c, X.env.cells.lookup x = some c → c ≠ b) ∧ ∀ p ∈ X.pn ++ pins, p.1 ≠ b) :
    Inv X pins σ H' { s with heap := h', gens := g', drawn := d', toks := t' } := by
  obtain ⟨m, ⟨o, es, ep, ho, r⟩, _⟩ := id I.loc
  obtain ⟨sl, hL⟩ := u.any ho I.free fun z => (hch _ z).2.1 rfl
  exact I.step (ch := ch) hch (fun b o hL hb hc e n => u.keep b o e n (fun z => (List.mem_cons.mp (I.stkSub b z)).elim hL hb) hc) (fun b o _ _ hc e n => u.any e n hc) (fun b o hc e n => u.free b o e n hc) (fun b o hc e => u.there b o e hc) u.tups u.frzs u.tbls (fun m' hm => by
    obtain ⟨o', es', ep', ho', r'⟩ := hm
    rw [ho] at ho'; cases ho'
    exact ⟨_, es', ep', hL, r'⟩) hok hg
theorem Inv.turned {t' : Nat} {it : Addr} (I : Inv X pins σ H s) (k : ∀ b o, b ≠ it → s.heap.get? b = some o → h'.get? b = some o) (hn : H it = none) (hL : it ≠ X.env.locals)
    (h1 : it ∈ X.ex ∨ X.s_0.heap.objs.size ≤ it) (h2 : ∀ x c, X.env.cells.lookup x = some c → c ≠ it) (h3 : ∀ p ∈ X.pn ++ pins, p.1 ≠ it) : Inv X pins σ H { s with heap := h', toks := t' } := by
  have nit : ∀ b u, H b = some u → b ≠ it := fun b u e z => by rw [z, hn] at e; cases e
  refine I.step (g' := s.gens) (d' := s.drawn) (ch := [it]) (fun b hb => ?_) (fun b o _ _ hc e _ => k b o (fun z => hc (by simp [z])) e) (fun b o _ _ hc e _ => ⟨o.slots, k b o (fun z => hc (by simp [z])) e⟩) (fun _ _ _ _ n => n)
    (fun b o hc e => ⟨o, k b o (fun z => hc (by simp [z])) e⟩) (fun _ _ e => e) (fun _ _ _ e => e) (fun b ps e => ⟨#[], by rw [e]; simp⟩) (fun m hm => ?_) (fun b u e => ?_) I.bare
  · have e : b = it := by simpa using hb
    subst e
    exact ⟨h1, hL, h2, h3⟩
  · obtain ⟨o, es, ep, ho, r⟩ := hm
    exact ⟨o, es, ep, k _ o (Ne.symm hL) ho, r⟩
  · refine (I.hok b u e).stay (fun c v hc q => k c v ?_ q) (fun _ q => q) fun _ _ q => q
    rcases hc with z | z
    · rw [z]; exact nit b u e
    · exact nit c _ z
theorem Inv.tok (I : Inv X pins σ H s) (t : Nat) : Inv X pins σ H { s with toks := t } := I.un (h' := s.heap) (t' := t) Un.refl I.hok
theorem Inv.kept {t' : Nat} (I : Inv X pins σ H s) (k : ∀ b u, s.heap.get? b = some u → h'.get? b = some u) : Inv X pins σ H { s with heap := h', toks := t' } := I.un (Un.kept k) (I.hok.kept k)
theorem Inv.laid {a : Addr} {o : HO} {t' : Nat} (I : Inv X pins σ H s) (k : ∀ b u, s.heap.get? b = some u → h'.get? b = some u) (hp : s.heap.objs.size ≤ a) (new : ObjOk X.prog X.w (upd H a o) h' a o) :
    Inv X pins σ (upd H a o) { s with heap := h', toks := t' } := I.un (Un.laid k hp (I.hok.fresh hp)) (I.hok.laid k hp new)
theorem Inv.write {x e : Addr} {o : HO} {t' : Nat} (I : Inv X pins σ H s) (mu : Mut (H x)) (he : e = x ∨ H e = some (.own x)) (k : ∀ b u, b ≠ e → s.heap.get? b = some u → h'.get? b = some u) (heo : ∃ u, h'.get? e = some u)
    (new : ObjOk X.prog X.w (upd H x o) h' x o) : Inv X pins σ (upd H x o) { s with heap := h', toks := t' } := I.un (Un.write mu he k heo) (I.hok.write mu he k heo new)
theorem Inv.weak {σ' : List (Option V)} (I : Inv X pins σ H s) (hl : σ'.length = σ.length) (w : ∀ (i : Nat) v, σ'[i]? = some (some v) → σ[i]? = some (some v)) : Inv X pins σ' H s :=
  ⟨I.ok, I.os, I.bare, I.base, let ⟨m, hn, hl'⟩ := I.loc; ⟨m, hn, fun i x v e1 e2 e3 => hl' i x v e1 (w i v e2) e3⟩, I.cell, I.free, I.freeC, I.pin, I.hok, hl.trans I.len⟩
theorem Inv.pins_of {pins' : List (Addr × Obj)} (I : Inv X pins σ H s) (h : ∀ p ∈ pins', s.heap.get? p.1 = some p.2 ∧ H p.1 = none ∧ p.1 ≠ X.env.locals ∧ p.1 ∉ X.fs ∧ ∀ v, p.2.data ≠ .cell v) : Inv X pins' σ H s :=
  ⟨I.ok, I.os, I.bare, I.base, I.loc, I.cell, I.free, I.freeC, fun p hp => (List.mem_append.mp hp).elim (fun z => I.pin p (List.mem_append_left _ z)) (h p), I.hok, I.len⟩

theorem nodup_ix {N : List Str} (hN : N.Nodup) {i j : Nat} {x : Str} (a : N[i]? = some x) (b : N[j]? = some x) : i = j := by
  obtain ⟨h1, e1⟩ := List.getElem?_eq_some_iff.mp a
  obtain ⟨h2, e2⟩ := List.getElem?_eq_some_iff.mp b
  exact (List.getElem_inj hN).mp (e1.trans e2.symm)

theorem store_ok2 {M : Model} {A : Around} {E : Value → Shared → Prop} {i : Nat} {x : Str} {v : V} {u : Value} {Q : Unit → Shared → Prop} (I : Inv X pins σ H s) (hN : X.N.Nodup) (hi : X.N[i]? = some x) (hx : Loc X.env.scope x) (r : RelV v u)
    (h : ∀ s', Inv X pins (σ.set i (some v)) H s' → (∃ a, Heap.SameBut a s.heap s'.heap ∧ (a = X.env.locals ∨ X.env.cells.lookup x = some a)) → Q () s') (hf : X.fn x = true ∨ X.env.scope.names.lookup x = some .local := by first | exact .inl rfl | exact .inr rfl | assumption) : wpAny M A (storeName X.env x u) Q E s := by
  obtain ⟨m, hn, hl⟩ := id I.loc
  have hcls : (X.env.scope.kind == .class || (X.env.scope.kind == .module && X.env.locals != X.env.globals)) = false := by rw [I.ok.kind]; rfl
  have hiσ : i < σ.length := by rw [I.len]; exact (List.getElem?_eq_some_iff.mp hi).1
  have cne := I.cne
  have tracked : ∀ {a : Addr} {h' : Heap}, (∃ o, s.heap.get? a = some o ∧ H a = none) → Heap.SameBut a s.heap h' → HOk X.prog X.w H h' := fun {a h'} ha hs b ob e => by
    obtain ⟨_, _, hfree⟩ := ha
    refine (I.hok b ob e).stay (fun c w' hc q => (hs.2 c ?_).trans q) (fun _ q => q) fun _ _ q => q
    rintro rfl
    rcases hc with rfl | hc
    · rw [hfree] at e; cases e
    · rw [hfree] at hc; cases hc
  rcases hx with hk | hk
  · refine wpAny_storeName_local hk hn (fun h' hn' hs => ?_) hcls
    obtain ⟨oL, _, _, hoL, _⟩ := id hn
    refine h _ ⟨I.ok, I.os, I.bare, ⟨fun b o e n hb hx => ?_, fun b o e n hb hx => ?_, I.base.free, fun b o e hx => ?_, I.base.tups, I.base.frzs, I.base.tbls⟩, ⟨_, hn', fun j y v' e1 e2 e3 => ?_⟩, fun y c e => ?_, I.free, I.freeC, fun p hp => ?_, tracked ⟨oL, hoL, I.free⟩ hs, by simpa using I.len⟩ ⟨_, hs, .inl rfl⟩
    · exact (hs.2 b (Nat.ne_of_lt (Nat.lt_of_lt_of_le (Heap.lt_size e) I.ok.above))).trans (I.base.keep b o e n hb hx)
    · obtain ⟨sl, e1⟩ := I.base.slot b o e n hb hx
      exact ⟨sl, (hs.2 b (Nat.ne_of_lt (Nat.lt_of_lt_of_le (Heap.lt_size e) I.ok.above))).trans e1⟩
    · obtain ⟨o', e1⟩ := I.base.there b o e hx
      exact ⟨o', (hs.2 b (Nat.ne_of_lt (Nat.lt_of_lt_of_le (Heap.lt_size e) I.ok.above))).trans e1⟩
    · by_cases hj : j = i
      · subst hj
        rw [hi] at e1; cases e1
        rw [List.getElem?_set_self hiσ] at e2
        cases e2
        exact ⟨u, r, .inl ⟨hk, by simp⟩⟩
      · rw [List.getElem?_set_ne (Ne.symm hj)] at e2
        obtain ⟨u', r', q⟩ := hl j y v' e1 e2 e3
        refine ⟨u', r', ?_⟩
        rcases q with ⟨k, e⟩ | ⟨k, c, e, z⟩
        · refine .inl ⟨k, ?_⟩
          have : y ≠ x := fun e => hj (nodup_ix hN e1 (e ▸ hi))
          simp [this, e]
        · exact .inr ⟨k, c, e, z.sameBut hs (cne y c e)⟩
    · obtain ⟨w', z⟩ := I.cell y c e
      exact ⟨w', z.sameBut hs (cne y c e)⟩
    · obtain ⟨e, n, ne, nf, d⟩ := I.pin p hp
      exact ⟨(hs.2 p.1 ne).trans e, n, ne, nf, d⟩
  · have hfn : X.fn x = true := by
      rcases hf with z | z
      · exact z
      · rw [z] at hk; cases hk
    obtain ⟨c, hc⟩ := I.ok.has x (.inl hk)
    obtain ⟨w', z⟩ := I.cell x c hc
    refine wpAny_storeName_cell I.ok.kind hk hc z (fun h' hc' hs => ?_)
    obtain ⟨oc, hoc, hocd⟩ := id z
    refine h { s with heap := h' } ⟨I.ok, I.os, I.bare, ⟨fun b o e n hb hx => ?_, fun b o e n hb hx => ?_, I.base.free, fun b o e hx => ?_, I.base.tups, I.base.frzs, I.base.tbls⟩, ⟨m, hn.sameBut hs (Ne.symm (cne x c hc)), fun j y v' e1 e2 e3 => ?_⟩, fun y c' e => ?_, I.free, I.freeC, fun p hp => ?_, tracked ⟨oc, hoc, I.freeC x c hc⟩ hs, by simpa using I.len⟩ ⟨c, hs, .inr hc⟩
    · exact (hs.2 b (Nat.ne_of_lt (Nat.lt_of_lt_of_le (Heap.lt_size e) (I.ok.cab x c hfn hc)))).trans (I.base.keep b o e n hb hx)
    · obtain ⟨sl, e1⟩ := I.base.slot b o e n hb hx
      exact ⟨sl, (hs.2 b (Nat.ne_of_lt (Nat.lt_of_lt_of_le (Heap.lt_size e) (I.ok.cab x c hfn hc)))).trans e1⟩
    · obtain ⟨o', e1⟩ := I.base.there b o e hx
      exact ⟨o', (hs.2 b (Nat.ne_of_lt (Nat.lt_of_lt_of_le (Heap.lt_size e) (I.ok.cab x c hfn hc)))).trans e1⟩
    · by_cases hj : j = i
      · subst hj
        rw [hi] at e1; cases e1
        rw [List.getElem?_set_self hiσ] at e2
        cases e2
        exact ⟨u, r, .inr ⟨.inl hk, c, hc, hc'⟩⟩
      · rw [List.getElem?_set_ne (Ne.symm hj)] at e2
        obtain ⟨u', r', q⟩ := hl j y v' e1 e2 e3
        refine ⟨u', r', ?_⟩
        rcases q with q | ⟨k, c', e, z'⟩
        · exact .inl q
        · refine .inr ⟨k, c', e, z'.sameBut hs ?_⟩
          rintro rfl
          exact hj (nodup_ix hN e1 (I.ok.inj _ _ _ e hc ▸ hi))
    · by_cases hcc : c' = c
      · subst hcc; exact ⟨_, hc'⟩
      · obtain ⟨w2, z2⟩ := I.cell y c' e
        exact ⟨w2, z2.sameBut hs hcc⟩
    · obtain ⟨e, n, ne, nf, d⟩ := I.pin p hp
      refine ⟨(hs.2 p.1 ?_).trans e, n, ne, nf, d⟩
      intro q
      rw [q, hoc] at e
      have q' : oc = p.2 := Option.some.inj e
      exact d w' (by rw [← q']; exact hocd)
theorem store_ok {M : Model} {A : Around} {E : Value → Shared → Prop} {i : Nat} {x : Str} {v : V} {u : Value} {Q : Unit → Shared → Prop} (I : Inv X pins σ H s) (hN : X.N.Nodup) (hi : X.N[i]? = some x) (hx : Loc X.env.scope x) (r : RelV v u)
    (h : ∀ s', Inv X pins (σ.set i (some v)) H s' → Q () s') (hf : X.fn x = true ∨ X.env.scope.names.lookup x = some .local := by first | exact .inl rfl | exact .inr rfl | assumption) : wpAny M A (storeName X.env x u) Q E s :=
  store_ok2 I hN hi hx r (fun s' I' _ => h s' I') hf
theorem Inv.call' {s' : Shared} {ch : List Addr} (I : Inv X pins σ H s) (ho : s'.os = s.os) (u : Un (frs X.stack) ch H H' s.heap s'.heap) (hok : HOk X.prog X.w H' s'.heap) (hg : AllBare s'.gens)
    (hch : ∀ b ∈ ch, (b ∈ X.ex ∨ X.s_0.heap.objs.size ≤ b) ∧ b ≠ X.env.locals ∧ (∀ x c, X.env.cells.lookup x = some c → c ≠ b) ∧ ∀ p ∈ X.pn ++ pins, p.1 ≠ b) : Inv X pins σ H' s' := by
  obtain ⟨h', g', d', t', o'⟩ := s'
  have e : o' = s.os := ho
  subst e
  exact I.call (g' := g') (t' := t') (d' := d') u hok hg hch
end

abbrev XK := Value → Option Addr → Hp → Prop
abbrev St := List (Option V)
abbrev VK := V → Hp → Prop
abbrev TE := St → Hp → VK → Prop
abbrev TT := St → Hp → (Bool → Hp → Prop) → Prop
abbrev TA := St → Hp → (List V → Hp → Prop) → Prop
structure Ends where
  nx : St → Hp → Prop
  rt : VK
  bk : St → Hp → Prop := fun _ _ => False
  ct : St → Hp → Prop := fun _ _ => False
abbrev TS := Ends → St → Hp → Prop

def EP (X : Cx) (pins : List (Addr × Obj)) (σ : St) (Q : VK) (u : Value) (s' : Shared) : Prop := ∃ v H', Inv X pins σ H' s' ∧ RelV v u ∧ Q v H'
def TP (X : Cx) (pins : List (Addr × Obj)) (σ : St) (Q : Bool → Hp → Prop) (b : Bool) (s' : Shared) : Prop := ∃ H', Inv X pins σ H' s' ∧ Q b H'
def AP (X : Cx) (pins : List (Addr × Obj)) (σ : St) (Q : List V → Hp → Prop) (us : List Value) (s' : Shared) : Prop := ∃ vs H', Inv X pins σ H' s' ∧ Vals vs us ∧ Q vs H'
def SP (X : Cx) (pins : List (Addr × Obj)) (D : Ends) (f : Flow) (s' : Shared) : Prop :=
  match f with
  | .next => ∃ σ' H', Inv X pins σ' H' s' ∧ D.nx σ' H'
  | .brk => ∃ σ' H', Inv X pins σ' H' s' ∧ D.bk σ' H'
  | .cont => ∃ σ' H', Inv X pins σ' H' s' ∧ D.ct σ' H'
  | .ret u => ∃ v σ' H', Inv X pins σ' H' s' ∧ RelV v u ∧ D.rt v H'

def PE (X : Cx) (e : Expr) (t : TE) : Prop :=
  ∀ (pins : List (Addr × Obj)) (s : Shared) (σ : St) (H : Hp) (Q : VK), Inv X pins σ H s → t σ H Q → wpAny (model X.prog X.w) X.A (eval e X.env) (EP X pins σ Q) X.xe s
def PT (X : Cx) (e : Expr) (t : TT) : Prop :=
  ∀ (pins : List (Addr × Obj)) (s : Shared) (σ : St) (H : Hp) (Q : Bool → Hp → Prop), Inv X pins σ H s → t σ H Q → wpAny (model X.prog X.w) X.A (isTrue e X.env (eval e X.env)) (TP X pins σ Q) X.xe s
def PW (X : Cx) (e : Expr) (t : TT) : Prop :=
  ∀ (whole : Sem Value) (pins : List (Addr × Obj)) (s : Shared) (σ : St) (H : Hp) (Q : Bool → Hp → Prop), Inv X pins σ H s → t σ H Q → wpAny (model X.prog X.w) X.A (isTrue e X.env whole) (TP X pins σ Q) X.xe s
theorem PW.pt {X : Cx} {e : Expr} {t : TT} (h : PW X e t) : PT X e t := h _
def PA (X : Cx) (es : List Expr) (t : TA) : Prop :=
  ∀ (pos : Pos) (pins : List (Addr × Obj)) (s : Shared) (σ : St) (H : Hp) (Q : List V → Hp → Prop), Inv X pins σ H s → t σ H Q → wpAny (model X.prog X.w) X.A (spliced (backTo pos (starEach es X.env))) (AP X pins σ Q) X.xe s
def PS (X : Cx) (st : Stmt) (t : TS) : Prop :=
  ∀ (pins : List (Addr × Obj)) (s : Shared) (σ : St) (H : Hp) (D : Ends), Inv X pins σ H s → t D σ H → wpAny (model X.prog X.w) X.A (exec st X.env) (SP X pins D) X.xe s
def PSs (X : Cx) (st : List Stmt) (t : TS) : Prop :=
  ∀ (pins : List (Addr × Obj)) (s : Shared) (σ : St) (H : Hp) (D : Ends), Inv X pins σ H s → t D σ H → wpAny (model X.prog X.w) X.A (execs st X.env) (SP X pins D) X.xe s
theorem thn {α : Type} {t : Sem α} {Q Q' : α → Shared → Prop} {M : Model} {A : Around} {E : Value → Shared → Prop} {s : Shared} (h : wpAny M A t Q E s) (hQ : ∀ a s, Q a s → Q' a s) : wpAny M A t Q' E s := wpAny_mono h hQ fun _ _ x => x
end L2

namespace L2
open PySem PySem.Spec PyProof.Rows
section
variable {X : Cx}

def tVar (i : Nat) : TE := fun σ H Q => ∃ v, σ[i]? = some (some v) ∧ Q v H
def tC (v : V) : TE := fun _ H Q => Q v H
theorem pe_var {i : Nat} {x : Str} {pos : Pos} (hN : X.N[i]? = some x) (hv : Vis X.env.scope x) (hd : (x == ("__debug__" : Str)) = false := by decide) (hcd : (x == ("__classdict__" : Str)) = false := by decide) : PE X (.Name x pos) (tVar i) := by
  intro pins s σ H Q I h
  obtain ⟨v, e, h⟩ := h
  obtain ⟨m, hn, hl⟩ := I.loc
  obtain ⟨u, r, l⟩ := hl i x v hN e hv
  have fin : EP X pins σ Q u s := ⟨v, H, I, r, h⟩
  rcases l with ⟨hk, hm⟩ | ⟨hk, c, hc, hcell⟩
  · exact wpAny_Name (wpAny_loadName_local I.ok.kind hk hn hm fin) hd
  · rcases hk with hk | hk
    · exact wpAny_Name (wpAny_loadName_cell I.ok.kind hk hc hcell fin) hd
    · exact wpAny_Name (wpAny_loadName_free I.ok.kind hk hc hcell fin hcd) hd
theorem pe_int {i j pos} : PE X (.Constant (.int i) j pos) (tC (.int i)) := fun _ _ _ H _ I h => wpAny_Constant_int ⟨.int i, H, I.tok _, ⟨_, rfl⟩, h⟩
theorem pe_bl {b j pos} : PE X (.Constant (.bool b) j pos) (tC (.bl b)) := fun _ _ _ H _ I h => Constant_bool ⟨.bl b, H, I, rfl, h⟩
theorem pe_non {j pos} : PE X (.Constant .none j pos) (tC .non) := fun _ _ _ H _ I h => Constant_none ⟨.non, H, I, rfl, h⟩
def Gl (X : Cx) (x : Str) : Prop := X.env.kindOf x = some .globalImplicit
theorem ld_glob {E : Value → Shared → Prop} {pins : List (Addr × Obj)} {s : Shared} {σ : St} {H : Hp} {x : Str} {u : Value} {pos : Pos} {Q : Value → Shared → Prop} (I : Inv X pins σ H s) (hg : Gl X x) (hm : X.mg x = some u) (h : Q u s)
    (hd : (x == ("__debug__" : Str)) = false := by decide) : wpAny (model X.prog X.w) X.A (eval (.Name x pos) X.env) Q E s :=
  Calls.Name_function_global I.ok.kind hg (Calls.loadGlobal_global (by rw [I.ok.glob]; exact I.mod.glob.keeps I.bk) hm h) hd
theorem ld_blt {E : Value → Shared → Prop} {pins : List (Addr × Obj)} {s : Shared} {σ : St} {H : Hp} {x : Str} {u : Value} {pos : Pos} {Q : Value → Shared → Prop} (I : Inv X pins σ H s) (hg : Gl X x) (hm : X.mg x = none) (hv : bootBuiltins x = some u) (h : Q u s)
    (hn : x ≠ "__name__" := by decide) (hd : (x == ("__debug__" : Str)) = false := by decide) : wpAny (model X.prog X.w) X.A (eval (.Name x pos) X.env) Q E s := by
  obtain ⟨mb, h1, h2⟩ := I.mod.blt
  exact Calls.Name_function_global I.ok.kind hg (Calls.loadGlobal_builtin (by rw [I.ok.glob]; exact I.mod.glob.keeps I.bk) hm (by rw [I.ok.blt]; exact h1.keeps I.bk) ((h2 x hn).trans hv) h) hd
theorem pe_glob {x : Str} {v : V} {u : Value} {pos : Pos} (hg : Gl X x) (hm : X.mg x = some u) (r : RelV v u) (hd : (x == ("__debug__" : Str)) = false := by decide) : PE X (.Name x pos) (tC v) :=
  fun _ _ _ H _ I h => ld_glob I hg hm ⟨v, H, I, r, h⟩ hd
variable {a b : Expr} {ta tb : TE} {pos : Pos}
def PC (X : Cx) (op : CmpOp) (a b : Expr) (t : TE) : Prop :=
  ∀ (pins : List (Addr × Obj)) (s : Shared) (σ : St) (H : Hp) (Q : VK), Inv X pins σ H s → t σ H Q →
    wpAny (model X.prog X.w) X.A (eval a X.env) (fun v s₁ => wpAny (model X.prog X.w) X.A (eval b X.env) (fun u s₂ => wpAny (model X.prog X.w) X.A (compareOp op v u) (EP X pins σ Q) X.xe s₂) X.xe s₁) X.xe s
theorem nobehind (b : Expr) {op : CmpOp} (h : op ≠ .In) (h2 : op ≠ .NotIn) : behindInMarks op b = false := by
  have e1 : (op == CmpOp.In) = false := by cases op <;> first | rfl | exact absurd rfl h
  have e2 : (op == CmpOp.NotIn) = false := by cases op <;> first | rfl | exact absurd rfl h2
  cases b <;> simp [behindInMarks, e1, e2]
def tIsN (ta : TE) : TE := fun σ H Q => ta σ H fun x H1 => Q (.bl (decide (x = .non))) H1
def tNotN (ta : TE) : TE := fun σ H Q => ta σ H fun x H1 => Q (.bl (!decide (x = .non))) H1
theorem RelV.none_iff {x : V} {v : Value} (r : RelV x v) : (v == Value.none) = decide (x = .non) := by
  cases x with
  | non => cases r; rfl
  | bl _ => cases r; rfl
  | int _ => obtain ⟨t, rfl⟩ := r; rfl
  | str _ => obtain ⟨t, rfl⟩ := r; rfl
  | byt _ => obtain ⟨t, rfl⟩ := r; rfl
  | flt _ => obtain ⟨t, rfl⟩ := r; rfl
  | ref _ => cases r; rfl
  | ty _ => cases r; rfl
theorem pc_isN {j pos'} (ha : PE X a ta) : PC X .Is a (.Constant .none j pos') (tIsN ta) := by
  intro pins s σ H Q I h
  refine thn (ha pins s σ H _ I h) fun v s1 ⟨x, H1, I1, r1, q1⟩ => ?_
  exact Constant_none (is_none_gen ⟨.bl _, H1, I1, by rw [r1.none_iff]; rfl, q1⟩)
theorem pc_notN {j pos'} (ha : PE X a ta) : PC X .IsNot a (.Constant .none j pos') (tNotN ta) := by
  intro pins s σ H Q I h
  refine thn (ha pins s σ H _ I h) fun v s1 ⟨x, H1, I1, r1, q1⟩ => ?_
  exact Constant_none (isnot_none_gen ⟨.bl _, H1, I1, by rw [r1.none_iff]; rfl, q1⟩)
def tB (t : TE) : TT := fun σ H Q => t σ H fun x H1 => ∃ c, x = .bl c ∧ Q c H1
theorem pe_cmp {op : CmpOp} {t : TE} (h : PC X op a b t) (h1 : behindInMarks op b = false := by first | exact nobehind _ (by decide) (by decide) | rfl) : PE X (.Compare a [op] [b] pos) t := fun pins s σ H Q I hw => wpAny_Compare1 (h pins s σ H Q I hw) h1
theorem pt_cmp {op : CmpOp} {t : TE} (h : PC X op a b t) (h1 : behindInMarks op b = false := by first | exact nobehind _ (by decide) (by decide) | rfl) : PT X (.Compare a [op] [b] pos) (tB t) := by
  intro pins s σ H Q I hw
  refine wpAny_isTrue_Compare1 (thn (h pins s σ H _ I hw) fun v s1 h1 => thn h1 fun u s2 h2 => thn h2 fun c s3 ⟨x, H1, I1, r1, q1⟩ => ?_) h1
  obtain ⟨d, rfl, q⟩ := q1
  cases r1
  exact wpAny_truthy_bool ⟨H1, I1, q⟩
theorem pt_val {e : Expr} {t : TE} (h : PE X e t) (he : ∀ whole, isTrue e X.env whole = (do let v ← whole; standAt e.pos; holding [v] (truthy v)) := by intro _; rfl) : PT X e (tB t) := by
  intro pins s σ H Q I hw
  refine isTrue_plain (thn (h pins s σ H _ I hw) fun v s1 ⟨x, H1, I1, r1, q1⟩ => ?_) (he _)
  obtain ⟨d, rfl, q⟩ := q1
  cases r1
  exact wpAny_truthy_bool ⟨H1, I1, q⟩

variable {tA tB' : TT} {rest : List Expr}
def tAnd (t u : TT) : TT := fun σ H Q => t σ H fun c H1 => if c = true then u σ H1 Q else Q false H1
def tOr (t u : TT) : TT := fun σ H Q => t σ H fun c H1 => if c = true then Q true H1 else u σ H1 Q
def tNot (t : TT) : TT := fun σ H Q => t σ H fun c H1 => Q (!c) H1
theorem pw_and1 (ha : PT X a tA) : PW X (.BoolOp .And [a] pos) tA := by
  intro wh pins s σ H Q I h
  refine isTrue_and (thn (ha pins s σ H Q I h) fun c s1 e => ?_)
  cases c with
  | true => exact isTrue_and_nil e
  | false => exact e
theorem pw_or1 (ha : PT X a tA) : PW X (.BoolOp .Or [a] pos) tA := by
  intro wh pins s σ H Q I h
  refine isTrue_or (thn (ha pins s σ H Q I h) fun c s1 e => ?_)
  cases c with
  | false => exact isTrue_or_nil e
  | true => exact e
theorem pw_and (ha : PT X a tA) (hb : PW X (.BoolOp .And (b :: rest) pos) tB') : PW X (.BoolOp .And (a :: b :: rest) pos) (tAnd tA tB') := by
  intro wh pins s σ H Q I h
  refine isTrue_and (thn (ha pins s σ H _ I h) fun c s1 ⟨H1, I1, q1⟩ => ?_)
  cases c with
  | true => exact hb wh pins s1 σ H1 Q I1 q1
  | false => exact ⟨H1, I1, q1⟩
theorem pw_or (ha : PT X a tA) (hb : PW X (.BoolOp .Or (b :: rest) pos) tB') : PW X (.BoolOp .Or (a :: b :: rest) pos) (tOr tA tB') := by
  intro wh pins s σ H Q I h
  refine isTrue_or (thn (ha pins s σ H _ I h) fun c s1 ⟨H1, I1, q1⟩ => ?_)
  cases c with
  | true => exact ⟨H1, I1, q1⟩
  | false => exact hb wh pins s1 σ H1 Q I1 q1
theorem pt_not (ha : PT X a tA) : PT X (.UnaryOp .Not a pos) (tNot tA) := by
  intro pins s σ H Q I h
  exact isTrue_not (ha pins s σ H (fun c H1 => Q (!c) H1) I h)
def tOrV (ta tb : TE) : TE := fun σ H Q => ta σ H fun x H1 => ∃ c, x = .bl c ∧ if c = true then Q (.bl true) H1 else tb σ H1 Q
theorem pe_one {op} {t : TE} (h : PE X a t) : PE X (.BoolOp op [a] pos) t := fun pins s σ H Q I hw => BoolOp_one (h pins s σ H Q I hw)
theorem pe_or (ha : PE X a ta) (hb : PE X (.BoolOp .Or (b :: rest) pos) tb) : PE X (.BoolOp .Or (a :: b :: rest) pos) (tOrV ta tb) := by
  intro pins s σ H Q I h
  refine BoolOp_or (thn (ha pins s σ H _ I h) fun v s1 ⟨x, H1, I1, r1, q1⟩ => ?_)
  obtain ⟨c, rfl, q1⟩ := q1
  cases r1
  refine wpAny_truthy_bool ?_
  cases c with
  | false => exact hb pins s1 σ H1 Q I1 q1
  | true => exact ⟨.bl true, H1, I1, rfl, q1⟩
end
end L2

namespace L2
open PySem PySem.Spec PyProof.Rows

def SqL (K : PySem.W.Frag) (H : Hp) (a : Addr) (xs : List V) : Prop :=
  Rd H a (.lst xs) ∨
    ∃ (o : Obj) (its : Array Value) (n : Nat), K.lookup a = some o ∧ o.cls = .type "list" ∧ o.dict = none ∧ o.data = .seq its n ∧ its.size ≤ sizeLine ∧ Vals xs its.toList
def SqT (K : PySem.W.Frag) (H : Hp) (a : Addr) (xs : List V) : Prop :=
  Rd H a (.tup xs) ∨
    ∃ (o : Obj) (its : Array Value) (n : Nat), K.lookup a = some o ∧ o.cls = .type "tuple" ∧ o.data = .seq its n ∧ its.size ≤ sizeLine ∧ Vals xs its.toList
def absV : Value → Option V
  | .none => some .non
  | .bool b => some (.bl b)
  | .int i _ => some (.int i)
  | .str x _ => some (.str x)
  | .bytes b _ => some (.byt b)
  | .float b _ => some (.flt b)
  | .ref a => some (.ref a)
  | .type n => some (.ty n)
  | _ => none
theorem RelV.abs {x : V} {u : Value} (r : RelV x u) : absV u = some x := by
  cases x with
  | non => cases r; rfl
  | bl _ => cases r; rfl
  | int _ => obtain ⟨t, rfl⟩ := r; rfl
  | str _ => obtain ⟨t, rfl⟩ := r; rfl
  | byt _ => obtain ⟨t, rfl⟩ := r; rfl
  | flt _ => obtain ⟨t, rfl⟩ := r; rfl
  | ref _ => cases r; rfl
  | ty _ => cases r; rfl
theorem RelV.inj {x y : V} {u : Value} (r : RelV x u) (q : RelV y u) : x = y := Option.some.inj (r.abs.symm.trans q.abs)
theorem Vals.inj : ∀ {xs ys : List V} {us : List Value}, Vals xs us → Vals ys us → xs = ys
  | _, _, _, .nil, .nil => rfl
  | _, _, _, .cons r t, .cons r' t' => by rw [r.inj r', Vals.inj t t']
section
variable {X : Cx} {pins : List (Addr × Obj)} {σ : St} {H : Hp} {s : Shared} {a : Addr} {xs ys : List V}
theorem SqL.of {K : PySem.W.Frag} (h : H a = some (.lst xs)) : SqL K H a xs := .inl (.inl h)
theorem SqT.of {K : PySem.W.Frag} (h : H a = some (.tup xs)) : SqT K H a xs := .inl (.inl h)
theorem Inv.list (I : Inv X pins σ H s) (h : SqL X.K H a xs) : ∃ its : List Value, Vals xs its ∧ PlainL s.heap a its.toArray ∧ xs.length ≤ sizeLine := by
  rcases h with h | ⟨o, its, n, hk, hc, hd, hs, hz, r⟩
  · obtain ⟨z, its, n, r, e⟩ := h.ok I.hok
    exact ⟨its, r, ⟨_, n, e, rfl, rfl, rfl⟩, z⟩
  · refine ⟨its.toList, r, ⟨o, n, I.kIn a o hk, hc, hd, by simpa using hs⟩, ?_⟩
    have e := r.length
    simp only [Array.length_toList] at e
    omega
theorem Inv.tuple (I : Inv X pins σ H s) (h : SqT X.K H a xs) : ∃ its : List Value, Vals xs its ∧ IsTup s.heap a its.toArray ∧ xs.length ≤ sizeLine := by
  rcases h with h | ⟨o, its, n, hk, hc, hs, hz, r⟩
  · obtain ⟨z, its, r, p⟩ := h.ok I.hok
    exact ⟨its, r, p, z⟩
  · refine ⟨its.toList, r, ⟨o, I.kIn a o hk, hc, n, by simpa using hs⟩, ?_⟩
    have e := r.length
    simp only [Array.length_toList] at e
    omega
theorem Inv.list_inj (I : Inv X pins σ H s) (h : SqL X.K H a xs) (h' : SqL X.K H a ys) : xs = ys := by
  obtain ⟨its, r, ⟨o, n, e, _, _, d⟩, _⟩ := I.list h
  obtain ⟨its', r', ⟨o', n', e', _, _, d'⟩, _⟩ := I.list h'
  rw [e] at e'; cases e'
  rw [d] at d'
  injection d' with d1 _
  have : its = its' := by simpa using congrArg Array.toList d1
  subst this
  exact r.inj r'
end

abbrev Cx.wish (X : Cx) (E : Value → Shared → Prop) : Cx := { X with xe := E }
abbrev Cx.nox (X : Cx) : Cx := X.wish fun _ _ => False
theorem Cx.Ok.wish {X : Cx} (ok : X.Ok) (E : Value → Shared → Prop) : (X.wish E).Ok :=
  ⟨ok.mod, ok.kind, ok.glob, ok.blt, ok.above, ok.inj, ok.has, ok.cab, ok.hd, ok.frames, ok.stk, ok.exf, ok.bs, ok.bsz, ok.noex, ok.exfs, ok.funs, ok.frf⟩
theorem Cx.Ok.unwish {X : Cx} {E : Value → Shared → Prop} (ok : (X.wish E).Ok) : X.Ok :=
  ⟨ok.mod, ok.kind, ok.glob, ok.blt, ok.above, ok.inj, ok.has, ok.cab, ok.hd, ok.frames, ok.stk, ok.exf, ok.bs, ok.bsz, ok.noex, ok.exfs, ok.funs, ok.frf⟩
section
variable {X : Cx} {pins : List (Addr × Obj)} {σ : St} {H : Hp} {s : Shared} {E : Value → Shared → Prop}
theorem Inv.wish (I : Inv X pins σ H s) (E : Value → Shared → Prop) : Inv (X.wish E) pins σ H s := ⟨I.ok.wish E, I.os, I.bare, I.base, I.loc, I.cell, I.free, I.freeC, I.pin, I.hok, I.len⟩
theorem Inv.unwish (I : Inv (X.wish E) pins σ H s) : Inv X pins σ H s := ⟨I.ok.unwish, I.os, I.bare, I.base, I.loc, I.cell, I.free, I.freeC, I.pin, I.hok, I.len⟩
theorem SP.unwish {D : Ends} {f : Flow} {s' : Shared} (h : SP (X.wish E) pins D f s') : SP X pins D f s' := by
  cases f with
  | next => obtain ⟨σ', H', I, q⟩ := h; exact ⟨σ', H', I.unwish, q⟩
  | brk => obtain ⟨σ', H', I, q⟩ := h; exact ⟨σ', H', I.unwish, q⟩
  | cont => obtain ⟨σ', H', I, q⟩ := h; exact ⟨σ', H', I.unwish, q⟩
  | ret u => obtain ⟨v, σ', H', I, r, q⟩ := h; exact ⟨v, σ', H', I.unwish, r, q⟩
theorem PSs.nox {st : List Stmt} {t : TS} (h : PSs X.nox st t) : PSs X st t := fun pins s σ H D I hw =>
  wpAny_mono (h pins s σ H D (I.wish _) hw) (fun _ _ q => q.unwish) fun _ _ z => False.elim z
end

section
variable {X : Cx} {st : Stmt} {rest : List Stmt} {t u : TS} {e : Expr} {te : TE} {pos : Pos}
def tNext : TS := fun D σ H => D.nx σ H
def tSeq (t u : TS) : TS := fun D σ H => t { D with nx := u D } σ H
theorem pss_nil : PSs X [] tNext := fun _ _ σ H _ I h => wpAny_execs_nil ⟨σ, H, I, h⟩
theorem pss_cons (h1 : PS X st t) (h2 : PSs X rest u) : PSs X (st :: rest) (tSeq t u) := by
  intro pins s σ H D I h
  refine wpAny_execs_cons (thn (h1 pins s σ H { D with nx := u D } I h) fun f s1 q => ?_)
  cases f with
  | next =>
    obtain ⟨σ', H', I', q⟩ := q
    exact h2 pins s1 σ' H' D I' q
  | ret v => exact q
  | brk => exact q
  | cont => exact q
theorem pss_one (h1 : PS X st t) : PSs X [st] t := by
  intro pins s σ H D I h
  refine wpAny_execs_cons (thn (h1 pins s σ H D I h) fun f s1 q => ?_)
  cases f with
  | next => exact wpAny_execs_nil q
  | ret v => exact q
  | brk => exact q
  | cont => exact q
def tCont : TS := fun D σ H => D.ct σ H
theorem ps_continue : PS X (.Continue pos) tCont := fun _ _ σ H _ I h => wpAny_Continue ⟨σ, H, I, h⟩
theorem Inv.quiet {pins : List (Addr × Obj)} {σ : St} {H : Hp} {s : Shared} (I : Inv X pins σ H s) : interactive X.env = false := by simp [interactive, I.ok.kind]
def tDrop (te : TE) : TS := fun D σ H => te σ H fun _ H1 => D.nx σ H1
theorem ps_expr (he : PE X e te) (hs : swapsWith e none pos.line X.env = pure false := by rfl) : PS X (.Expr e pos) (tDrop te) := by
  intro pins s σ H D I h
  exact wpAny_Expr_any (thn (he pins s σ H _ I h) fun v s1 ⟨x, H1, I1, r1, q1⟩ => ⟨σ, H1, I1, q1⟩) I.quiet hs
def tRet (te : TE) : TS := fun D σ H => te σ H D.rt
theorem ps_ret (he : PE X e te) : PS X (.Return (some e) pos) (tRet te) := by
  intro pins s σ H D I h
  exact wpAny_Return_some (thn (he pins s σ H _ I h) fun v s1 ⟨x, H1, I1, r1, q1⟩ => ⟨x, σ, H1, I1, r1, q1⟩)
def tIfS (c : TT) (t u : TS) : TS := fun D σ H => c σ H fun b H1 => if b = true then t D σ H1 else u D σ H1
theorem ps_if {c : Expr} {a b : List Stmt} {tc : TT} (hc : PT X c tc) (ha : PSs X a t) (hb : PSs X b u) : PS X (.If c a b pos) (tIfS tc t u) := by
  intro pins s σ H D I h
  refine wpAny_If (thn (hc pins s σ H _ I h) fun d s1 ⟨H1, I1, q1⟩ => ?_)
  cases d with
  | true => exact ha pins s1 σ H1 D I1 q1
  | false => exact hb pins s1 σ H1 D I1 q1
end

abbrev TG := V → St → Hp → (St → Hp → Prop) → Prop
abbrev TGs := List V → St → Hp → (St → Hp → Prop) → Prop
def PG (X : Cx) (target : Expr) (t : TG) : Prop :=
  ∀ (pins : List (Addr × Obj)) (s : Shared) (σ : St) (H : Hp) (v : V) (u : Value) (Q : St → Hp → Prop), Inv X pins σ H s → RelV v u → t v σ H Q →
    wpAny (model X.prog X.w) X.A (assign target X.env u) (fun _ s' => ∃ σ' H', Inv X pins σ' H' s' ∧ Q σ' H') X.xe s
def PGs (X : Cx) (ts : List Expr) (t : TGs) : Prop :=
  ∀ (pins : List (Addr × Obj)) (s : Shared) (σ : St) (H : Hp) (vs : List V) (us : List Value) (Q : St → Hp → Prop), Inv X pins σ H s → Vals vs us → t vs σ H Q →
    wpAny (model X.prog X.w) X.A (assignInOrder ((assignEach ts X.env).map (·.2)) us) (fun _ s' => ∃ σ' H', Inv X pins σ' H' s' ∧ Q σ' H') X.xe s
abbrev TSet := V → V → V → Hp → (Hp → Prop) → Prop
def PSet (X : Cx) (t : TSet) : Prop :=
  ∀ (pins : List (Addr × Obj)) (s : Shared) (σ : St) (H : Hp) (o i v : V) (ov iv u : Value) (Q : Hp → Prop), Inv X pins σ H s → RelV o ov → RelV i iv → RelV v u → t o i v H Q →
    wpAny (model X.prog X.w) X.A (setItem ov iv u) (fun _ s' => ∃ H', Inv X pins σ H' s' ∧ Q H') X.xe s
abbrev TIp := V → V → Hp → VK → Prop
def PIp (X : Cx) (op : Operator) (t : TIp) : Prop :=
  ∀ (pins : List (Addr × Obj)) (s : Shared) (σ : St) (H : Hp) (x y : V) (v u : Value) (Q : VK), Inv X pins σ H s → RelV x v → RelV y u → t x y H Q →
    wpAny (model X.prog X.w) X.A (inplaceOp op v u) (EP X pins σ Q) X.xe s
section
variable {X : Cx} {pos : Pos}
def gName (i : Nat) : TG := fun v σ H Q => Q (σ.set i (some v)) H
theorem pg_name {i : Nat} {x : Str} (hN : X.N.Nodup) (hi : X.N[i]? = some x) (hx : Loc X.env.scope x) (hf : X.fn x = true ∨ X.env.scope.names.lookup x = some .local := by first | exact .inl rfl | exact .inr rfl | assumption) : PG X (.Name x pos) (gName i) := by
  intro pins s σ H v u Q I r h
  exact wpAny_assign_Name (store_ok I hN hi hx r (fun s' I' => ⟨_, H, I', h⟩) hf)
def gNil : TGs := fun vs σ H Q => vs = [] ∧ Q σ H
def gCons (t : TG) (u : TGs) : TGs := fun vs σ H Q => ∃ v r, vs = v :: r ∧ t v σ H fun σ' H' => u r σ' H' Q
theorem pgs_nil : PGs X [] gNil := by
  intro pins s σ H vs us Q I r h
  obtain ⟨e, h⟩ := h
  subst e
  cases r
  exact assignInOrder_nil ⟨σ, H, I, h⟩
theorem pgs_cons {e : Expr} {es : List Expr} {t : TG} {u : TGs} (h1 : PG X e t) (h2 : PGs X es u)
    (hs : (assignEach (e :: es) X.env).map (·.2) = assign e X.env :: (assignEach es X.env).map (·.2) := by rfl) : PGs X (e :: es) (gCons t u) := by
  intro pins s σ H vs us Q I r h
  obtain ⟨v, vr, e1, h⟩ := h
  subst e1
  cases r with
  | cons r rr =>
    rw [hs]
    refine assignInOrder_cons (thn (h1 pins s σ H _ _ _ I r h) fun _ s1 ⟨σ1, H1, I1, q1⟩ => ?_)
    exact h2 pins s1 σ1 H1 _ _ Q I1 rr q1
def gTup (K : PySem.W.Frag) (n : Nat) (t : TGs) : TG := fun v σ H Q => ∃ a xs, v = .ref a ∧ SqT K H a xs ∧ xs.length = n ∧ t xs σ H Q
theorem pg_tup {es : List Expr} {k : Nat} {t : TGs} {n : Nat} (hc : X.calm = true) (h : PGs X es t)
    (hn : (assignEach es X.env).length = n := by rfl) (hst : (assignEach es X.env).findIdx? (·.1) = none := by rfl) : PG X (.Tuple es k pos) (gTup X.K n t) := by
  intro pins s σ H v u Q I r hw
  obtain ⟨a, xs, e1, hq, hl, hw⟩ := hw
  subst e1
  cases r
  obtain ⟨its, rv, ht, hz⟩ := I.tuple hq
  refine assign_Tuple_tuple (I.ok.hd hc) ht (by simp [hn, ← hl, rv.length]) hst fun h' hx => ?_
  have I1 : Inv X pins σ H { s with heap := h' } := I.kept (t' := s.toks) fun b o e => hx b o (Nat.ne_of_lt (Heap.lt_size e)) e
  exact h pins _ σ H xs _ Q I1 (by simpa using rv) hw
def gSub (to ti : TE) (t : TSet) : TG := fun v σ H Q => to σ H fun o H1 => ti σ H1 fun i H2 => t o i v H2 fun H3 => Q σ H3
theorem pg_sub {o i : Expr} {to ti : TE} {t : TSet} (ho : PE X o to) (hi : PE X i ti) (hs : PSet X t)
    (ha : ∀ v, assign (.Subscript o i pos) X.env v = (do
      let ov ← holding [v] (eval o X.env)
      let iv ← holding [v, ov] (eval i X.env)
      standAt pos
      holding [v, ov, iv] (setItem ov iv v)
      release [v, ov, iv] []) := by intro _; rfl) : PG X (.Subscript o i pos) (gSub to ti t) := by
  intro pins s σ H v u Q I r h
  rw [ha]
  refine wpAny_bind (wpAny_holding (thn (ho pins s σ H _ I h) fun ov s1 ⟨x, H1, I1, r1, q1⟩ => ?_))
  refine wpAny_bind (wpAny_holding (thn (hi pins s1 σ H1 _ I1 q1) fun iv s2 ⟨y, H2, I2, r2, q2⟩ => ?_))
  refine wpAny_bind (wpAny_standAt (wpAny_bind (wpAny_holding (thn (hs pins s2 σ H2 x y v ov iv u _ I2 r1 r2 r q2) fun _ s3 ⟨H3, I3, q3⟩ => ?_))))
  exact wpAny_release ⟨σ, H3, I3, q3⟩
def tAsg (te : TE) (g : TG) : TS := fun D σ H => te σ H fun x H1 => g x σ H1 D.nx
theorem ps_asg {tg e : Expr} {te : TE} {g : TG} (he : PE X e te) (hg : PG X tg g) (hs : swapsWithSole [tg] e pos.line X.env = pure false := by rfl) (hw : swappedStores [tg] e X.env = pure none := by rfl)
    (h1 : (assignEach [tg] X.env).map (·.2) = [assign tg X.env] := by rfl) : PS X (.Assign [tg] e pos) (tAsg te g) := by
  intro pins s σ H D I h
  refine wpAny_Assign_stores (thn (he pins s σ H _ I h) fun v s1 ⟨x, H1, I1, r1, q1⟩ => ?_) hs hw
  rw [h1]
  exact thn (hg pins s1 σ H1 x v _ I1 r1 q1) fun _ s2 q => q
theorem ps_set {i : Nat} {x : Str} {e : Expr} {te : TE} {pos' : Pos} (hN : X.N.Nodup) (hi : X.N[i]? = some x) (hx : Loc X.env.scope x) (he : PE X e te) (hs : swapsWith e (some (.Name x pos')) pos.line X.env = pure false := by rfl) (hf : X.fn x = true ∨ X.env.scope.names.lookup x = some .local := by first | exact .inl rfl | exact .inr rfl | assumption) :
    PS X (.Assign [.Name x pos'] e pos) (tAsg te (gName i)) := by
  intro pins s σ H D I h
  refine wpAny_Assign_Name (thn (he pins s σ H _ I h) fun v s1 ⟨y, H1, I1, r1, q1⟩ => ?_) hs
  exact store_ok I1 hN hi hx r1 (fun s2 I2 => ⟨_, H1, I2, q1⟩) hf
def tAug (i : Nat) (te : TE) (ti : TIp) : TS := fun D σ H => ∃ x, σ[i]? = some (some x) ∧ te σ H fun y H1 => ti x y H1 fun z H2 => D.nx (σ.set i (some z)) H2
theorem ps_aug {i : Nat} {x : Str} {e : Expr} {te : TE} {op : Operator} {ti : TIp} {pos' : Pos} (hN : X.N.Nodup) (hi : X.N[i]? = some x) (hx : Loc X.env.scope x) (he : PE X e te) (ho : PIp X op ti) (hf : X.fn x = true ∨ X.env.scope.names.lookup x = some .local := by first | exact .inl rfl | exact .inr rfl | assumption) :
    PS X (.AugAssign (.Name x pos') op e pos) (tAug i te ti) := by
  intro pins s σ H D I h
  obtain ⟨v, e1, h⟩ := h
  obtain ⟨m, hn, hl⟩ := I.loc
  have vis : Vis X.env.scope x := by rcases hx with k | k; exact .inl k; exact .inr (.inl k)
  obtain ⟨u, r, l⟩ := hl i x v hi e1 vis
  refine wpAny_AugAssign_Name ?_
  have go : wpAny (model X.prog X.w) X.A (eval e X.env) (fun w s₂ => wpAny (model X.prog X.w) X.A (inplaceOp op u w) (fun r s₃ => wpAny (model X.prog X.w) X.A (storeName X.env x r) (fun _ => SP X pins D .next) X.xe s₃) X.xe s₂) X.xe s := by
    refine thn (he pins s σ H _ I h) fun w s1 ⟨y, H1, I1, r1, q1⟩ => ?_
    refine thn (ho pins s1 σ H1 v y u w _ I1 r r1 q1) fun z s2 ⟨zv, H2, I2, r2, q2⟩ => ?_
    exact store_ok I2 hN hi hx r2 (fun s3 I3 => ⟨_, H2, I3, q2⟩) hf
  rcases l with ⟨hk, hm⟩ | ⟨hk, c, hc, hcell⟩
  · exact wpAny_loadName_local I.ok.kind hk hn hm go
  · rcases hk with hk | hk
    · exact wpAny_loadName_cell I.ok.kind hk hc hcell go
    · rcases hx with k | k
      · have : X.env.scope.names.lookup x = some .free := hk
        rw [k] at this; cases this
      · have : X.env.scope.names.lookup x = some .free := hk
        rw [k] at this; cases this
def ipI (f : Int → Int → Int) : TIp := fun x y H Q => ∃ i j, x = .int i ∧ y = .int j ∧ Q (.int (f i j)) H
theorem ip_add : PIp X .Add (ipI fun i j => i + j) := by
  intro pins s σ H x y v u Q I r1 r2 h
  obtain ⟨i, j, e1, e2, q⟩ := h
  subst e1; subst e2
  obtain ⟨t, rfl⟩ := r1
  obtain ⟨t', rfl⟩ := r2
  exact iadd_int ⟨.int _, H, I.tok _, ⟨_, rfl⟩, q⟩
end

section
variable {X : Cx} {pos : Pos}
def tWhile (c : TT) (tb : TS) : TS := fun D σ H => ∃ W : Nat → St → Hp → Prop, (∃ m, W m σ H) ∧ ∀ m σ H, W m σ H →
  c σ H fun b H1 => if b = true then ∃ N : St → Hp → Prop, (∀ σ' H', N σ' H' → ∃ m', m' < m ∧ W m' σ' H') ∧ tb { D with nx := N, ct := N, bk := D.nx } σ H1 else D.nx σ H1
theorem ps_while {c : Expr} {body : List Stmt} {tc : TT} {tb : TS} (hp : PassesOwn (model X.prog X.w) X.A X.env X.xe) (hc : PT X c tc) (hb : PSs X body tb) : PS X (.While c body [] pos) (tWhile tc tb) := by
  intro pins s σ H D I h
  obtain ⟨W, ⟨m0, w0⟩, turn⟩ := h
  refine wpAny_While (codeAny_whileLoop (fun n s' => ∃ σ' H', Inv X pins σ' H' s' ∧ W n σ' H') ?_ m0 ⟨σ, H, I, w0⟩)
  rintro n s1 ⟨σ1, H1, I1, w1⟩
  refine wpAny_passesOwn hp (thn (hc pins s1 σ1 H1 _ I1 (turn n σ1 H1 w1)) fun b s2 ⟨H2, I2, q2⟩ => ?_)
  cases b with
  | true =>
    obtain ⟨N, hN, q2⟩ := q2
    rw [if_pos rfl]
    refine wpAny_passesOwn hp (thn (hb pins s2 σ1 H2 _ I2 q2) fun f s3 q3 => ?_)
    cases f with
    | next =>
      obtain ⟨σ3, H3, I3, n3⟩ := q3
      obtain ⟨m', hm, w3⟩ := hN σ3 H3 n3
      exact ⟨m', hm, σ3, H3, I3, w3⟩
    | cont =>
      obtain ⟨σ3, H3, I3, n3⟩ := q3
      obtain ⟨m', hm, w3⟩ := hN σ3 H3 n3
      exact ⟨m', hm, σ3, H3, I3, w3⟩
    | brk => exact q3
    | ret v => exact q3
  | false =>
    rw [if_neg Bool.false_ne_true]
    exact wpAny_execs_nil ⟨σ1, H2, I2, q2⟩
end

structure It where
  go : Nat → Hp → Prop
  yld : Nat → Hp → V → Hp → Prop
  stop : Nat → Hp → Prop
def FpOk (X : Cx) (pins : List (Addr × Obj)) (H : Hp) (b : Addr) : Prop :=
  H b = none ∧ b ≠ X.env.locals ∧ b ∉ X.fs ∧ (b ∈ X.ex ∨ X.s_0.heap.objs.size ≤ b) ∧ (∀ x c, X.env.cells.lookup x = some c → c ≠ b) ∧ ∀ p ∈ X.pn ++ pins, p.1 ≠ b
theorem Inv.fpOk {X : Cx} {pins : List (Addr × Obj)} {σ : St} {H H' : Hp} {s : Shared} {b : Addr} (I : Inv X pins σ H s) (hb : s.heap.objs.size ≤ b) (hn : H' b = none) : FpOk X pins H' b := by
  refine ⟨hn, Nat.ne_of_gt (Nat.lt_of_lt_of_le I.lt hb), I.nofs hb, .inr (Nat.le_trans I.sz hb), fun x c e z => ?_, fun p hp z => ?_⟩
  · obtain ⟨v, q⟩ := I.cell x c e
    exact absurd (Nat.lt_of_lt_of_le q.lt (by rw [z]; exact hb)) (Nat.lt_irrefl _)
  · exact absurd (Nat.lt_of_lt_of_le (Heap.lt_size (I.pin p hp).1) (by rw [z]; exact hb)) (Nat.lt_irrefl _)
structure Turn (P : Program) (w : World) (K : PySem.W.Frag) (tg : Expr) (J : It) (fp : List Addr) (it : Addr) (tn : Nat → Heap → Prop) : Prop where
  mem : it ∈ fp
  obj : ∀ i h, tn i h → ∀ b ∈ fp, ∃ o, h.get? b = some o ∧ ∀ v, o.data ≠ .cell v
  keep : ∀ i h h', tn i h → (∀ b ∈ fp, ∀ o, h.get? b = some o → h'.get? b = some o) → tn i h'
  item : ∀ (X : Cx), X.prog = P → X.w = w → X.K = K → X.calm = true → ∀ (i : Nat) (pins : List (Addr × Obj)) (s : Shared) (σ : St) (H : Hp) (E : Value → Shared → Prop), Inv X pins σ H s → (∀ b ∈ fp, FpOk X pins H b) → tn i s.heap → J.go i H →
    wpAny (model P w) X.A (pyNext (.ref it)) (fun r s1 => ∃ u, r = some u ∧
      wpAny (model P w) X.A (letOwnedTupleGo tg (.ref it) u) (fun _ s2 => ∃ x H', Inv X pins σ H' s2 ∧ RelV x u ∧ J.yld i H x H' ∧ tn (i + 1) s2.heap ∧ ∀ b ∈ fp, H' b = none) E s1) E s
  done : ∀ (X : Cx), X.prog = P → X.w = w → X.K = K → X.calm = true → ∀ (i : Nat) (pins : List (Addr × Obj)) (s : Shared) (σ : St) (H : Hp) (E : Value → Shared → Prop), Inv X pins σ H s → (∀ b ∈ fp, FpOk X pins H b) → tn i s.heap → J.stop i H →
    wpAny (model P w) X.A (pyNext (.ref it)) (fun r s1 => r = none ∧ Inv X pins σ H s1) E s
  self : ∀ (A : Around) (i : Nat) (s : Shared) (Q : Value → Shared → Prop) (E : Value → Shared → Prop), tn i s.heap → Q (.ref it) s → wpAny (model P w) A (pyIter (.ref it)) Q E s
abbrev TI := St → Hp → (It → Hp → Prop) → Prop
def PIE (X : Cx) (pins : List (Addr × Obj)) (σ : St) (tg : Expr) (R : It → Hp → Prop) (itv : Value) (s2 : Shared) : Prop :=
  ∃ (it : Addr) (fp : List Addr) (tn : Nat → Heap → Prop) (J : It) (H' : Hp), itv = .ref it ∧ Inv X pins σ H' s2 ∧ Turn X.prog X.w X.K tg J fp it tn ∧ tn 0 s2.heap ∧ (∀ b ∈ fp, FpOk X pins H' b) ∧ R J H'
def PI (X : Cx) (tg iter : Expr) (wi : TI) : Prop :=
  ∀ (pins : List (Addr × Obj)) (s : Shared) (σ : St) (H : Hp) (R : It → Hp → Prop), Inv X pins σ H s → wi σ H R →
    wpAny (model X.prog X.w) X.A (eval iter X.env) (fun v s1 => wpAny (model X.prog X.w) X.A (pyIter v) (PIE X pins σ tg R) X.xe s1) X.xe s

theorem go_of {M : Model} {A : Around} {E : Value → Shared → Prop} {s : Shared} {tg : Expr} {it : Addr} {u : Value} {o : Obj} {n : String} {vs : Array Value} {Q : Unit → Shared → Prop} (ho : s.heap.get? it = some o) (hc : o.cls = .type n) (hd : o.data = .fields vs)
    (hn : ["enumerate", "zip", "dict_itemiterator", "dict_reverseitemiterator", "odict_iterator", "itertools.zip_longest", "itertools.pairwise"].contains n = false) (hQ : Q () s) : wpAny M A (letOwnedTupleGo tg (.ref it) u) Q E s := by
  unfold letOwnedTupleGo
  cases tg <;> first
    | exact wpAny_pure hQ
    | (cases u <;> first
        | exact wpAny_pure hQ
        | (refine wpAny_bind (wpAny_load ho ?_)
           rw [hc, hd]
           show wpAny M A (if (["enumerate", "zip", "dict_itemiterator", "dict_reverseitemiterator", "odict_iterator", "itertools.zip_longest", "itertools.pairwise"].contains n && vs[0]? == some (rawInt _)) = true then _ else _) Q E s
           rw [if_neg (by intro h; rw [hn, Bool.false_and] at h; cases h)]
           exact wpAny_pure hQ))

def Itl (K : PySem.W.Frag) (a : Addr) : It :=
  ⟨fun i H => ∃ xs x, SqL K H a xs ∧ xs[i]? = some x, fun i H x H' => H' = H ∧ ∀ xs, SqL K H a xs → xs[i]? = some x, fun i H => ∃ xs, SqL K H a xs ∧ xs.length ≤ i⟩
def Itr (lo : Int) (n : Nat) : It := ⟨fun i _ => i < n, fun i H x H' => H' = H ∧ x = .int (lo + i), fun i _ => n ≤ i⟩
theorem turn_list {P : Program} {w : World} {K : PySem.W.Frag} {tg : Expr} (a it : Addr) : Turn P w K tg (Itl K a) [it] it (fun i h => h.IsListIter it a i) where
  mem := by simp
  obj := fun i h st b hb => by
    have e : b = it := by simpa using hb
    subst e
    obtain ⟨o, e, c, d⟩ := st
    exact ⟨o, e, fun v z => by rw [d] at z; cases z⟩
  keep := fun i h h' st k => st.at fun o e => k it (by simp) o e
  item := by
    intro X hP hw hK hc i pins s σ H E I hf st hg
    subst hP hw hK
    obtain ⟨xs, x, hq, hx⟩ := hg
    obtain ⟨its, rv, p, hz⟩ := I.list hq
    obtain ⟨u, hu, ru⟩ := rv.get hx
    obtain ⟨f0, f1, f2, f3, f4, f5⟩ := hf it (by simp)
    refine wpAny_pyNext_list_item st p.isList (x := u) (by simpa using hu) fun h' st' sb => ?_
    have I1 : Inv X pins σ H { s with heap := h' } := I.turned (t' := s.toks) (fun b o hb e => (sb.2 b hb).trans e) f0 f1 f3 f4 f5
    obtain ⟨o, e, c, d⟩ := id st'
    exact ⟨u, rfl, go_of (s := { s with heap := h' }) e c d (by decide) ⟨x, H, I1, ru, ⟨rfl, fun ys hy => by rw [I.list_inj hy hq]; exact hx⟩, st', fun b hb => (hf b hb).1⟩⟩
  done := by
    intro X hP hw hK hc i pins s σ H E I hf st hg
    subst hP hw hK
    obtain ⟨xs, hq, hx⟩ := hg
    obtain ⟨its, rv, p, hz⟩ := I.list hq
    obtain ⟨f0, f1, f2, f3, f4, f5⟩ := hf it (by simp)
    have hl := rv.length
    exact wpAny_pyNext_list_end (I.ok.hd hc) st p.isList (by simp; omega) fun h' eb => ⟨rfl, I.turned (t' := s.toks) (fun b o hb e => eb b o hb e) f0 f1 f3 f4 f5⟩
  self := fun _ _ _ _ _ st h => wpAny_pyIter_listiter st h
theorem turn_range {P : Program} {w : World} {K : PySem.W.Frag} {tg : Expr} (it : Addr) (lo : Int) (n : Nat) : Turn P w K tg (Itr lo n) [it] it (fun i h => IsRangeIter h it (lo + (i : Nat) * 1) ((n : Int) - (i : Nat)) 1) where
  mem := by simp
  obj := fun i h st b hb => by
    have e : b = it := by simpa using hb
    subst e
    exact ⟨_, st, fun v z => by
      have z' : Data.fields _ = Data.cell v := z
      cases z'⟩
  keep := fun i h h' st k => k it (by simp) _ st
  item := by
    intro X hP hw hK hc i pins s σ H E I hf st hg
    subst hP hw hK
    obtain ⟨f0, f1, f2, f3, f4, f5⟩ := hf it (by simp)
    have W := Walks.range (prog := X.prog) (w := X.w) (I.ok.hd hc) it lo 1 n
    refine W.item i s _ _ hg st fun v h' tk hv st' kk => ?_
    obtain ⟨t, rfl⟩ := hv
    have I1 : Inv X pins σ H { s with heap := h', toks := tk } := I.turned (fun b o hb e => kk b o (by simpa using hb) e) f0 f1 f3 f4 f5
    refine ⟨_, rfl, go_of (s := { s with heap := h', toks := tk }) (n := "range_iterator") st' rfl rfl (by decide) ⟨.int (lo + i), H, I1, ⟨t, ?_⟩, ⟨rfl, rfl⟩, st', fun b hb => (hf b hb).1⟩⟩
    rw [Int.mul_one]
  done := by
    intro X hP hw hK hc i pins s σ H E I hf st hg
    subst hP hw hK
    obtain ⟨f0, f1, f2, f3, f4, f5⟩ := hf it (by simp)
    exact wpAny_pyNext_range_end (I.ok.hd hc) st (by have : n ≤ i := hg; omega) fun h' eb => ⟨rfl, I.turned (t' := s.toks) (fun b o hb e => eb b o hb e) f0 f1 f3 f4 f5⟩
  self := fun _ _ _ _ _ st h => wpAny_pyIter_rangeiter st h
end L2

namespace L2
open PySem PySem.Spec PyProof.Rows
section
variable {X : Cx} {tg : Expr}
def iList (K : PySem.W.Frag) (tl : TE) : TI := fun σ H R => tl σ H fun x H1 => ∃ a, x = .ref a ∧ (∃ xs, SqL K H1 a xs) ∧ R (Itl K a) H1
theorem pi_list {l : Expr} {tl : TE} (hl : PE X l tl) : PI X tg l (iList X.K tl) := by
  intro pins s σ H R I h
  refine thn (hl pins s σ H _ I h) fun v s1 ⟨x, H1, I1, r1, q1⟩ => ?_
  obtain ⟨a, e, ⟨xs, hq⟩, q⟩ := q1
  subst e
  cases r1
  obtain ⟨its, rv, p, hz⟩ := I1.list hq
  refine wpAny_pyIter_list p.isList ?_
  refine ⟨s1.heap.objs.size, [s1.heap.objs.size], _, _, H1, rfl, I1.kept (t' := s1.toks) fun b o e => Heap.get?_push_of_some _ e, turn_list a _, ⟨_, Heap.get?_push_size _ rfl, rfl, rfl⟩, fun b hb => ?_, q⟩
  have e : b = s1.heap.objs.size := by simpa using hb
  subst e
  exact I1.fpOk (Nat.le_refl _) (I1.hok.fresh (Nat.le_refl _))
theorem range_it {pins : List (Addr × Obj)} {σ : St} {H : Hp} {s : Shared} {R : It → Hp → Prop} {E : Value → Shared → Prop} {lo hi : Int} {t u v : Tok} {tk : Nat} (I : Inv X pins σ H s) (h1 : -(2 ^ 62) ≤ lo) (h2 : lo < 2 ^ 62) (h3 : -(2 ^ 62) ≤ hi) (h4 : hi < 2 ^ 62)
    (q : R (Itr lo (hi - lo).toNat) H) : wpAny (model X.prog X.w) X.A (pyIter (.ref s.heap.objs.size)) (PIE X pins σ tg R) E { s with heap := s.heap.push { cls := .type "range", data := .fields #[.int lo t, .int hi u, .int 1 v] }, toks := tk } := by
  refine wpAny_pyIter_range (IsRange.new ..) (small_one h1 h2 h3 h4) ?_
  have I1 : Inv X pins σ H { s with heap := s.heap.push { cls := .type "range", data := .fields #[.int lo t, .int hi u, .int 1 v] }, toks := tk } := I.kept fun b o e => Heap.get?_push_of_some _ e
  refine ⟨(s.heap.push { cls := .type "range", data := .fields #[.int lo t, .int hi u, .int 1 v] }).objs.size, [(s.heap.push { cls := .type "range", data := .fields #[.int lo t, .int hi u, .int 1 v] }).objs.size], _, _, H, rfl,
    I1.kept (t' := tk) fun b o e => Heap.get?_push_of_some _ e, turn_range _ lo (hi - lo).toNat, ?_, fun b hb => ?_, q⟩
  · have e1 : lo + ((0 : Nat) : Int) * 1 = lo := by simp
    have e2 : (((hi - lo).toNat : Nat) : Int) - ((0 : Nat) : Int) = Builtin.Range.rangeSize lo hi 1 := by rw [rangeSize_one]; split <;> omega
    show IsRangeIter _ _ (lo + ((0 : Nat) : Int) * 1) ((((hi - lo).toNat : Nat) : Int) - ((0 : Nat) : Int)) 1
    rw [e1, e2]
    exact Heap.get?_push_size _ rfl
  · have e : b = (s.heap.push { cls := .type "range", data := .fields #[.int lo t, .int hi u, .int 1 v] }).objs.size := by simpa using hb
    subst e
    exact I1.fpOk (Nat.le_refl _) (I1.hok.fresh (Nat.le_refl _))
def iRng1 (ta : TA) : TI := fun σ H R => ta σ H fun vs H1 => ∃ j : Int, vs = [.int j] ∧ -(2 ^ 62) ≤ j ∧ j < 2 ^ 62 ∧ R (Itr 0 j.toNat) H1
def iRng2 (ta : TA) : TI := fun σ H R => ta σ H fun vs H1 => ∃ i j : Int, vs = [.int i, .int j] ∧ (-(2 ^ 62) ≤ i ∧ i < 2 ^ 62 ∧ -(2 ^ 62) ≤ j ∧ j < 2 ^ 62) ∧ R (Itr i (j - i).toNat) H1
theorem pi_range1 {a : Expr} {ta : TA} {p pos : Pos} (hg : Gl X "range") (hm : X.mg "range" = none) (ha : PA X [a] ta) (hs : starEach [a] X.env = [(false, eval a X.env)] := by rfl) : PI X tg (.Call (.Name "range" p) [a] [] pos) (iRng1 ta) := by
  intro pins s σ H R I h
  refine Call_ (ld_blt I hg hm boot_range (PyProof.Rows.callWith_type1 (thn (ha pos pins s σ H _ I h) fun us s1 ⟨vs, H1, I1, r1, q1⟩ => ?_) hs rfl))
  obtain ⟨j, e, q1, q2, q⟩ := q1
  subst e
  cases r1 with
  | cons r rr =>
    cases rr
    obtain ⟨t, rfl⟩ := r
    exact call_range_1 (range_it I1 (by omega) (by omega) q1 q2 (by simpa using q))
theorem pi_range2 {a b : Expr} {ta : TA} {p pos : Pos} (hg : Gl X "range") (hm : X.mg "range" = none) (ha : PA X [a, b] ta) (hs : starEach [a, b] X.env = [(false, eval a X.env), (false, eval b X.env)] := by rfl) (hs2 : starEach [b] X.env = [(false, eval b X.env)] := by rfl) :
    PI X tg (.Call (.Name "range" p) [a, b] [] pos) (iRng2 ta) := by
  intro pins s σ H R I h
  refine Call_ (ld_blt I hg hm boot_range (PyProof.Rows.callWith_type1 (thn (ha pos pins s σ H _ I h) fun us s1 ⟨vs, H1, I1, r1, q1⟩ => ?_) (by rw [hs, hs2]) (by rw [hs2]; rfl)))
  obtain ⟨i, j, e, ⟨q1, q2, q3, q4⟩, q⟩ := q1
  subst e
  cases r1 with
  | cons r rr =>
    cases rr with
    | cons r' rr =>
      cases rr
      obtain ⟨t, rfl⟩ := r
      obtain ⟨t', rfl⟩ := r'
      exact call_range_2 (range_it I1 q1 q2 q3 q4 q)

def tFor (wi : TI) (g : TG) (tb : TS) : TS := fun D σ H => wi σ H fun J H1 => ∃ W : Nat → Nat → St → Hp → Prop, (∃ m, W 0 m σ H1) ∧ ∀ i m σ H, W i m σ H →
  (J.stop i H ∧ D.nx σ H) ∨ (J.go i H ∧ ∃ N : St → Hp → Prop, (∀ σ' H', N σ' H' → ∃ m', m' < m ∧ W (i + 1) m' σ' H') ∧ ∀ x H', J.yld i H x H' → g x σ H' fun σ2 H2 => tb { D with nx := N, ct := N, bk := D.nx } σ2 H2)
def pinsAt (fp : List Addr) (h : Heap) : List (Addr × Obj) := fp.filterMap fun b => (h.get? b).map fun o => (b, o)
theorem mem_pinsAt {fp : List Addr} {h : Heap} {b : Addr} {o : Obj} (hb : b ∈ fp) (e : h.get? b = some o) : (b, o) ∈ pinsAt fp h := List.mem_filterMap.mpr ⟨b, hb, by rw [e]; rfl⟩
theorem of_pinsAt {fp : List Addr} {h : Heap} {p : Addr × Obj} (hp : p ∈ pinsAt fp h) : p.1 ∈ fp ∧ h.get? p.1 = some p.2 := by
  obtain ⟨b, hb, e⟩ := List.mem_filterMap.mp hp
  cases q : h.get? b with
  | none => rw [q] at e; cases e
  | some o =>
    rw [q] at e
    have e' : (b, o) = p := Option.some.inj e
    subst e'
    exact ⟨hb, q⟩
theorem Inv.pinned {pins : List (Addr × Obj)} {σ : St} {H : Hp} {s : Shared} {fp : List Addr} (I : Inv X pins σ H s) (hf : ∀ b ∈ fp, FpOk X pins H b) (ho : ∀ b ∈ fp, ∃ o, s.heap.get? b = some o ∧ ∀ v, o.data ≠ .cell v) : Inv X (pins ++ pinsAt fp s.heap) σ H s :=
  I.pins_of fun p hp => (List.mem_append.mp hp).elim (fun z => I.pin p (List.mem_append_right _ z)) fun z => by
    obtain ⟨hb, e⟩ := of_pinsAt z
    obtain ⟨f0, f1, f2, _⟩ := hf p.1 hb
    obtain ⟨o, e', d⟩ := ho p.1 hb
    rw [e] at e'; cases e'
    exact ⟨e, f0, f1, f2, d⟩
theorem Inv.unpinned {pins pl : List (Addr × Obj)} {σ : St} {H : Hp} {s : Shared} (I : Inv X (pins ++ pl) σ H s) : Inv X pins σ H s := I.pins_of fun p hp => I.pin p (List.mem_append_right _ (List.mem_append_left _ hp))
theorem ps_for {iter : Expr} {body : List Stmt} {wi : TI} {g : TG} {tb : TS} {pos : Pos} (hp : PassesOwn (model X.prog X.w) X.A X.env X.xe) (hc : X.calm = true) (hi : PI X tg iter wi) (hg : PG X tg g) (hb : PSs X body tb)
    (hs : ∀ x, foldedSetIterable iter X.env x = pure x := by intro _; rfl) : PS X (.For tg iter body [] pos) (tFor wi g tb) := by
  intro pins s σ H D I h
  refine wpAny_For (thn (hi pins s σ H _ I h) fun v s1 h1 => thn h1 fun itv s2 h2 => ?_) hs
  obtain ⟨it, fp, tn, J, H2, e, I2, T, st2, f2, W, ⟨m0, w0⟩, turn⟩ := h2
  subst e
  -- what stays true of the iterator's objects through the loop
  have stat : ∀ {H' : Hp}, (∀ b ∈ fp, H' b = none) → ∀ b ∈ fp, FpOk X pins H' b := fun hn b hb => ⟨hn b hb, (f2 b hb).2⟩
  refine codeAny_forLoop_any (fun n s' => ∃ i σ' H', Inv X pins σ' H' s' ∧ tn i s'.heap ∧ (∀ b ∈ fp, H' b = none) ∧ W i n σ' H') ?_ m0 ⟨0, σ, H2, I2, st2, fun b hb => (f2 b hb).1, w0⟩
  rintro n s3 ⟨i, σ3, H3, I3, st3, fr3, w3⟩
  rcases turn i n σ3 H3 w3 with ⟨stop, qn⟩ | ⟨go, N, hN, step⟩
  · refine wpAny_passesOwn hp (thn (T.done X rfl rfl rfl hc i pins s3 σ3 H3 X.xe I3 (stat fr3) st3 stop) fun r s4 ⟨hr, I4⟩ => ?_)
    subst hr
    exact wpAny_execs_nil ⟨σ3, H3, I4, qn⟩
  · refine wpAny_passesOwn hp (thn (T.item X rfl rfl rfl hc i pins s3 σ3 H3 X.xe I3 (stat fr3) st3 go) fun r s4 ⟨u, hr, h4⟩ => ?_)
    subst hr
    refine wpAny_passesOwn hp (thn h4 fun _ s5 ⟨x, H5, I5, r5, y5, st5, fr5⟩ => ?_)
    have I5' := I5.pinned (stat fr5) (T.obj _ _ st5)
    refine wpAny_passesOwn hp (thn (hg _ s5 σ3 H5 x u _ I5' r5 (step x H5 y5)) fun _ s6 ⟨σ6, H6, I6, q6⟩ => ?_)
    refine wpAny_passesOwn hp (thn (hb _ s6 σ6 H6 _ I6 q6) fun f s7 q7 => ?_)
    have again : ∀ {σ7 : St} {H7 : Hp}, Inv X (pins ++ pinsAt fp s5.heap) σ7 H7 s7 → N σ7 H7 → ∃ m, m < n ∧ ∃ i σ' H', Inv X pins σ' H' s7 ∧ tn i s7.heap ∧ (∀ b ∈ fp, H' b = none) ∧ W i m σ' H' := fun {σ7 H7} I7 n7 => by
      obtain ⟨m', hm, w7⟩ := hN σ7 H7 n7
      refine ⟨m', hm, i + 1, σ7, H7, I7.unpinned, T.keep _ _ _ st5 fun b hb o e => (I7.pin (b, o) (List.mem_append_right _ (List.mem_append_right _ (mem_pinsAt hb e)))).1, fun b hb => ?_, w7⟩
      obtain ⟨o, e, d⟩ := T.obj _ _ st5 b hb
      exact (I7.pin (b, o) (List.mem_append_right _ (List.mem_append_right _ (mem_pinsAt hb e)))).2.1
    cases f with
    | next => obtain ⟨σ7, H7, I7, n7⟩ := q7; exact again I7 n7
    | cont => obtain ⟨σ7, H7, I7, n7⟩ := q7; exact again I7 n7
    | brk => obtain ⟨σ7, H7, I7, q7⟩ := q7; exact ⟨σ7, H7, I7.unpinned, q7⟩
    | ret v => obtain ⟨x7, σ7, H7, I7, r7, q7⟩ := q7; exact ⟨x7, σ7, H7, I7.unpinned, r7, q7⟩
end

end L2

namespace L2
open PySem PySem.Spec PyProof.Rows

abbrev R2 := V → V → Hp → VK → Prop
def OpR (X : Cx) (f : Value → Value → Sem Value) (r : R2) : Prop :=
  ∀ (pins : List (Addr × Obj)) (s : Shared) (σ : St) (H : Hp) (x y : V) (v u : Value) (Q : VK), Inv X pins σ H s → RelV x v → RelV y u → r x y H Q →
    wpAny (model X.prog X.w) X.A (f v u) (EP X pins σ Q) X.xe s
def UnR (X : Cx) (f : Value → Sem Value) (r : V → Hp → VK → Prop) : Prop :=
  ∀ (pins : List (Addr × Obj)) (s : Shared) (σ : St) (H : Hp) (x : V) (v : Value) (Q : VK), Inv X pins σ H s → RelV x v → r x H Q →
    wpAny (model X.prog X.w) X.A (f v) (EP X pins σ Q) X.xe s
def CallR (X : Cx) (f : Value) (r : List V → Hp → VK → Prop) : Prop :=
  ∀ (pins : List (Addr × Obj)) (s : Shared) (σ : St) (H : Hp) (xs : List V) (us : List Value) (Q : VK), Inv X pins σ H s → Vals xs us → r xs H Q →
    wpAny (model X.prog X.w) X.A (call f us) (EP X pins σ Q) X.xe s
def tOp (r : R2) (ta tb : TE) : TE := fun σ H Q => ta σ H fun x H1 => tb σ H1 fun y H2 => r x y H2 Q
def tUn (r : V → Hp → VK → Prop) (ta : TE) : TE := fun σ H Q => ta σ H fun x H1 => r x H1 Q
def rI (C : Int → Int → Prop) (g : Int → Int → V) : R2 := fun x y H Q => ∃ i j, x = .int i ∧ y = .int j ∧ C i j ∧ Q (g i j) H
def rI0 (g : Int → Int → V) : R2 := fun x y H Q => ∃ i j, x = .int i ∧ y = .int j ∧ Q (g i j) H
def rU (g : Int → V) : V → Hp → VK → Prop := fun x H Q => ∃ i, x = .int i ∧ Q (g i) H

section
variable {X : Cx} {a b c : Expr} {ta tb tc : TE} {pos : Pos}

theorem binT (ha : PE X a ta) (hb : PE X b tb) {pins : List (Addr × Obj)} {s : Shared} {σ : St} {H : Hp} {R : V → V → Hp → Prop} (I : Inv X pins σ H s)
    (h : ta σ H fun x H1 => tb σ H1 fun y H2 => R x y H2) {Q : Value → Shared → Prop} {f : Value → Value → Sem Value}
    (hf : ∀ v u s2 x y H2, Inv X pins σ H2 s2 → RelV x v → RelV y u → R x y H2 → wpAny (model X.prog X.w) X.A (f v u) Q X.xe s2) :
    wpAny (model X.prog X.w) X.A (eval a X.env) (fun v s₁ => wpAny (model X.prog X.w) X.A (eval b X.env) (fun u s₂ => wpAny (model X.prog X.w) X.A (f v u) Q X.xe s₂) X.xe s₁) X.xe s := by
  refine thn (ha pins s σ H _ I h) fun v s1 ⟨x, H1, I1, r1, q1⟩ => ?_
  refine thn (hb pins s1 σ H1 _ I1 q1) fun u s2 ⟨y, H2, I2, r2, q2⟩ => ?_
  exact hf v u s2 x y H2 I2 r1 r2 q2

theorem pe_op {op : Operator} {r : R2} (ho : OpR X (binaryOp op) r) (ha : PE X a ta) (hb : PE X b tb) : PE X (.BinOp a op b pos) (tOp r ta tb) := by
  intro pins s σ H Q I h
  exact wpAny_BinOp (binT ha hb I h fun v u s2 x y H2 I2 rx ry q => ho pins s2 σ H2 x y v u Q I2 rx ry q)
theorem pe_un {op : UnaryOp} {r : V → Hp → VK → Prop} (ho : UnR X (unaryOp op) r) (ha : PE X a ta) : PE X (.UnaryOp op a pos) (tUn r ta) := by
  intro pins s σ H Q I h
  exact UnaryOp_ (thn (ha pins s σ H _ I h) fun v s1 ⟨x, H1, I1, r1, q1⟩ => ho pins s1 σ H1 x v Q I1 r1 q1)
theorem opI {f : Value → Value → Sem Value} {C : Int → Int → Prop} {g : Int → Int → Int}
    (rule : ∀ (i j : Int) (t u : Tok) (s : Shared) (Q : Value → Shared → Prop) (E : Value → Shared → Prop), C i j → Q (.int (g i j) s.toks) { s with toks := s.toks + 1 } → wpAny (model X.prog X.w) X.A (f (.int i t) (.int j u)) Q E s) :
    OpR X f (rI C fun i j => .int (g i j)) := by
  intro pins s σ H x y v u Q I rx ry h
  obtain ⟨i, j, rfl, rfl, hc, q⟩ := h
  obtain ⟨t, rfl⟩ := rx
  obtain ⟨t', rfl⟩ := ry
  exact rule i j t t' s _ _ hc ⟨.int (g i j), H, I.tok _, ⟨_, rfl⟩, q⟩
theorem opI0 {f : Value → Value → Sem Value} {g : Int → Int → Int}
    (rule : ∀ (i j : Int) (t u : Tok) (s : Shared) (Q : Value → Shared → Prop) (E : Value → Shared → Prop), Q (.int (g i j) s.toks) { s with toks := s.toks + 1 } → wpAny (model X.prog X.w) X.A (f (.int i t) (.int j u)) Q E s) :
    OpR X f (rI0 fun i j => .int (g i j)) := by
  intro pins s σ H x y v u Q I rx ry h
  obtain ⟨i, j, rfl, rfl, q⟩ := h
  obtain ⟨t, rfl⟩ := rx
  obtain ⟨t', rfl⟩ := ry
  exact rule i j t t' s _ _ ⟨.int (g i j), H, I.tok _, ⟨_, rfl⟩, q⟩
theorem opB0 {f : Value → Value → Sem Value} {g : Int → Int → Bool}
    (rule : ∀ (i j : Int) (t u : Tok) (s : Shared) (Q : Value → Shared → Prop) (E : Value → Shared → Prop), Q (.bool (g i j)) s → wpAny (model X.prog X.w) X.A (f (.int i t) (.int j u)) Q E s) :
    OpR X f (rI0 fun i j => .bl (g i j)) := by
  intro pins s σ H x y v u Q I rx ry h
  obtain ⟨i, j, rfl, rfl, q⟩ := h
  obtain ⟨t, rfl⟩ := rx
  obtain ⟨t', rfl⟩ := ry
  exact rule i j t t' s _ _ ⟨.bl (g i j), H, I, rfl, q⟩

def CDiv (i j : Int) : Prop := 0 < j ∧ j < 1073741824
def CPow (i j : Int) : Prop := 0 ≤ j ∧ j ≤ 1000000 ∧ i.natAbs < 2 ^ 64
def CMul (i j : Int) : Prop := (-(2 ^ 64) < i ∧ i < 2 ^ 64) ∨ (-(2 ^ 64) < j ∧ j < 2 ^ 64)
theorem CMul.ok {i j : Int} (h : CMul i j) : IntMulOk i j := by
  rcases h with ⟨h1, h2⟩ | ⟨h1, h2⟩
  · exact .of_left (intBits_le_64 h1 h2)
  · exact .of_right (intBits_le_64 h1 h2)
theorem two_pow_nn (k : Nat) : (0 : Int) ≤ 2 ^ k := by
  rw [two_pow_cast]
  exact Int.natCast_nonneg _

theorem op_add : OpR X (binaryOp .Add) (rI0 fun i j => .int (i + j)) := opI0 fun _ _ _ _ _ _ _ q => add_int q
theorem op_sub : OpR X (binaryOp .Sub) (rI0 fun i j => .int (i - j)) := opI0 fun _ _ _ _ _ _ _ q => sub_int q
theorem op_mul : OpR X (binaryOp .Mult) (rI CMul fun i j => .int (i * j)) := opI fun _ _ _ _ _ _ _ hc q => mul_int q hc.ok
theorem op_fdiv : OpR X (binaryOp .FloorDiv) (rI CDiv fun i j => .int (i / j)) := opI fun i j _ _ _ _ _ hc q => by
  have h1 : (0 : Int) < j := hc.1
  have h2 : j < 1073741824 := hc.2
  exact floordiv_int (by omega) (by rw [Int.fdiv_eq_ediv_of_nonneg i (by omega)]; exact q) (.inl (PyProof.noPylong_small (by omega)))
theorem op_mod : OpR X (binaryOp .Mod) (rI (fun _ j => 0 < j) fun i j => .int (i % j)) := opI fun i j _ _ _ _ _ hc q => by
  have h1 : (0 : Int) < j := hc
  exact mod_int' (by omega) (by rw [Int.fmod_eq_emod_of_nonneg i (by omega)]; exact q)
theorem op_shl : OpR X (binaryOp .LShift) (rI CPow fun i j => .int (i * 2 ^ j.toNat)) := opI fun _ _ _ _ _ _ _ hc q => lshift_int_small hc.1 hc.2.1 hc.2.2 q
theorem op_shr : OpR X (binaryOp .RShift) (rI (fun _ j => 0 ≤ j) fun i j => .int (i / 2 ^ j.toNat)) := opI fun i j _ _ _ _ _ hc q =>
  rshift_int hc (by rw [Int.fdiv_eq_ediv_of_nonneg i (two_pow_nn _)]; exact q)
theorem op_and : OpR X (binaryOp .BitAnd) (rI0 fun i j => .int (Builtin.bitAnd i j)) := opI0 fun _ _ _ _ _ _ _ q => and_int q
theorem op_or : OpR X (binaryOp .BitOr) (rI0 fun i j => .int (Builtin.bitOr i j)) := opI0 fun _ _ _ _ _ _ _ q => or_int q
theorem unI {f : Value → Sem Value} {g : Int → Int}
    (rule : ∀ (i : Int) (t : Tok) (s : Shared) (Q : Value → Shared → Prop) (E : Value → Shared → Prop), Q (.int (g i) s.toks) { s with toks := s.toks + 1 } → wpAny (model X.prog X.w) X.A (f (.int i t)) Q E s) :
    UnR X f (rU fun i => .int (g i)) := by
  intro pins s σ H x v Q I rx h
  obtain ⟨i, rfl, q⟩ := h
  obtain ⟨t, rfl⟩ := rx
  exact rule i t s _ _ ⟨.int (g i), H, I.tok _, ⟨_, rfl⟩, q⟩
theorem un_neg : UnR X (unaryOp .USub) (rU fun i => .int (-i)) := unI fun _ _ _ _ _ q => neg_int q
end

def scal : V → V → Bool
  | .non, .non => true | .non, .int _ => true | .int _, .non => true | .non, .bl _ => true | .bl _, .non => true | .non, .str _ => true | .str _, .non => true
  | .int _, .int _ => true | .bl _, .bl _ => true | .str _, .str _ => true | .byt _, .byt _ => true
  | .int _, .str _ => true | .str _, .int _ => true | .bl _, .str _ => true | .str _, .bl _ => true
  | _, _ => false
def rEq : R2 := fun x y H Q => scal x y = true ∧ Q (.bl (decide (x = y))) H
def rNe : R2 := fun x y H Q => scal x y = true ∧ Q (.bl (!decide (x = y))) H

theorem dec_int {i j : Int} : decide (V.int i = V.int j) = (i == j) := by
  rw [Bool.eq_iff_iff]
  simp
theorem dec_bl {i j : Bool} : decide (V.bl i = V.bl j) = (i == j) := by
  rw [Bool.eq_iff_iff]
  simp
theorem dec_str {i j : Str} : decide (V.str i = V.str j) = (i == j) := by
  rw [Bool.eq_iff_iff]
  simp
theorem dec_byt {i j : Array UInt8} : decide (V.byt i = V.byt j) = (i.toList == j.toList) := by
  rw [Bool.eq_iff_iff]
  cases i
  cases j
  simp

section
variable {X : Cx} {a b c : Expr} {ta tb tc : TE} {pos : Pos}
theorem fin_bl {pins : List (Addr × Obj)} {σ : St} {H : Hp} {s : Shared} {Q : VK} {k k' : Bool} (I : Inv X pins σ H s) (q : Q (.bl k) H) (e : k = k') : EP X pins σ Q (.bool k') s := by
  subst e
  exact ⟨.bl k, H, I, rfl, q⟩
theorem op_eq : OpR X (compareOp .Eq) rEq := by
  intro pins s σ H x y v u Q I rx ry h
  obtain ⟨hs, q⟩ := h
  cases x with
  | non =>
    cases rx
    cases y with
    | non => cases ry; exact PySem.EqNone.eq_none_none (fin_bl I q (by simp))
    | bl j => cases ry; exact PySem.EqNone.eq_none_bool (fin_bl I q (by simp))
    | int j => obtain ⟨t', rfl⟩ := ry; exact PySem.EqNone.eq_none_int (fin_bl I q (by simp))
    | str j => obtain ⟨t', rfl⟩ := ry; exact PySem.EqNone.eq_none_str (fin_bl I q (by simp))
    | _ => exact absurd (show false = true from hs) Bool.false_ne_true
  | bl i =>
    cases rx
    cases y with
    | non => cases ry; exact PySem.EqNone.eq_bool_none (fin_bl I q (by simp))
    | bl j => cases ry; exact eq_bool (fin_bl I q dec_bl)
    | str j => obtain ⟨t', rfl⟩ := ry; exact PySem.EqMixed.eq_bool_str (fin_bl I q (by simp))
    | _ => exact absurd (show false = true from hs) Bool.false_ne_true
  | int i =>
    obtain ⟨t, rfl⟩ := rx
    cases y with
    | non => cases ry; exact PySem.EqNone.eq_int_none (fin_bl I q (by simp))
    | int j => obtain ⟨t', rfl⟩ := ry; exact eq_int (fin_bl I q dec_int)
    | str j => obtain ⟨t', rfl⟩ := ry; exact PySem.EqMixed.eq_int_str (fin_bl I q (by simp))
    | _ => exact absurd (show false = true from hs) Bool.false_ne_true
  | str i =>
    obtain ⟨t, rfl⟩ := rx
    cases y with
    | non => cases ry; exact PySem.EqNone.eq_str_none (fin_bl I q (by simp))
    | bl j => cases ry; exact PySem.EqMixed.eq_str_bool (fin_bl I q (by simp))
    | int j => obtain ⟨t', rfl⟩ := ry; exact PySem.EqMixed.eq_str_int (fin_bl I q (by simp))
    | str j => obtain ⟨t', rfl⟩ := ry; exact eq_str (fin_bl I q dec_str)
    | _ => exact absurd (show false = true from hs) Bool.false_ne_true
  | byt i =>
    obtain ⟨t, rfl⟩ := rx
    cases y with
    | byt j => obtain ⟨t', rfl⟩ := ry; exact PySem.W.eq_bytes (fin_bl I q dec_byt)
    | _ => exact absurd (show false = true from hs) Bool.false_ne_true
  | _ => cases y <;> exact absurd (show false = true from hs) Bool.false_ne_true
theorem op_ne : OpR X (compareOp .NotEq) rNe := by
  intro pins s σ H x y v u Q I rx ry h
  obtain ⟨hs, q⟩ := h
  cases x with
  | non =>
    cases rx
    cases y with
    | non => cases ry; exact PySem.EqNone.ne_none_none (fin_bl I q (by simp))
    | bl j => cases ry; exact PySem.EqNone.ne_none_bool (fin_bl I q (by simp))
    | int j => obtain ⟨t', rfl⟩ := ry; exact PySem.EqNone.ne_none_int (fin_bl I q (by simp))
    | str j => obtain ⟨t', rfl⟩ := ry; exact PySem.EqNone.ne_none_str (fin_bl I q (by simp))
    | _ => exact absurd (show false = true from hs) Bool.false_ne_true
  | bl i =>
    cases rx
    cases y with
    | non => cases ry; exact PySem.EqNone.ne_bool_none (fin_bl I q (by simp))
    | bl j => cases ry; exact ne_bool (fin_bl I q (congrArg not dec_bl))
    | str j => obtain ⟨t', rfl⟩ := ry; exact PySem.EqMixed.ne_bool_str (fin_bl I q (by simp))
    | _ => exact absurd (show false = true from hs) Bool.false_ne_true
  | int i =>
    obtain ⟨t, rfl⟩ := rx
    cases y with
    | non => cases ry; exact PySem.EqNone.ne_int_none (fin_bl I q (by simp))
    | int j => obtain ⟨t', rfl⟩ := ry; exact ne_int (fin_bl I q (congrArg not dec_int))
    | str j => obtain ⟨t', rfl⟩ := ry; exact PySem.EqMixed.ne_int_str (fin_bl I q (by simp))
    | _ => exact absurd (show false = true from hs) Bool.false_ne_true
  | str i =>
    obtain ⟨t, rfl⟩ := rx
    cases y with
    | non => cases ry; exact PySem.EqNone.ne_str_none (fin_bl I q (by simp))
    | bl j => cases ry; exact PySem.EqMixed.ne_str_bool (fin_bl I q (by simp))
    | int j => obtain ⟨t', rfl⟩ := ry; exact PySem.EqMixed.ne_str_int (fin_bl I q (by simp))
    | str j => obtain ⟨t', rfl⟩ := ry; exact ne_str (fin_bl I q (congrArg not dec_str))
    | _ => exact absurd (show false = true from hs) Bool.false_ne_true
  | byt i =>
    obtain ⟨t, rfl⟩ := rx
    cases y with
    | byt j => obtain ⟨t', rfl⟩ := ry; exact PySem.W.ne_bytes (fin_bl I q (congrArg not dec_byt))
    | _ => exact absurd (show false = true from hs) Bool.false_ne_true
  | _ => cases y <;> exact absurd (show false = true from hs) Bool.false_ne_true

theorem op_lt : OpR X (compareOp .Lt) (rI0 fun i j => .bl (decide (i < j))) := opB0 fun _ _ _ _ _ _ _ q => lt_int q
theorem op_le : OpR X (compareOp .LtE) (rI0 fun i j => .bl (decide (i ≤ j))) := opB0 fun _ _ _ _ _ _ _ q => le_int q
theorem op_gt : OpR X (compareOp .Gt) (rI0 fun i j => .bl (decide (j < i))) := opB0 fun _ _ _ _ _ _ _ q => gt_int q
theorem op_ge : OpR X (compareOp .GtE) (rI0 fun i j => .bl (decide (j ≤ i))) := opB0 fun _ _ _ _ _ _ _ q => ge_int q
theorem nomark (b : Expr) {op : CmpOp} (h : op ≠ .In := by decide) (h2 : op ≠ .NotIn := by decide) : behindInMarks op b = false := by
  have e1 : (op == CmpOp.In) = false := by cases op <;> first | rfl | exact absurd rfl h
  have e2 : (op == CmpOp.NotIn) = false := by cases op <;> first | rfl | exact absurd rfl h2
  cases b <;> simp [behindInMarks, e1, e2]
theorem pe_cmpR {op : CmpOp} {r : R2} (ho : OpR X (compareOp op) r) (ha : PE X a ta) (hb : PE X b tb) (hm : behindInMarks op b = false) : PE X (.Compare a [op] [b] pos) (tOp r ta tb) := by
  intro pins s σ H Q I h
  exact wpAny_Compare1 (binT ha hb I h fun v u s2 x y H2 I2 rx ry q => ho pins s2 σ H2 x y v u Q I2 rx ry q) hm
def tTest (t : TE) : TT := fun σ H Q => t σ H fun x H' => ∃ k, x = .bl k ∧ Q k H'
theorem pt_cmpR {op : CmpOp} {r : R2} (ho : OpR X (compareOp op) r) (ha : PE X a ta) (hb : PE X b tb) (hm : behindInMarks op b = false) : PT X (.Compare a [op] [b] pos) (tTest (tOp r ta tb)) := by
  intro pins s σ H Q I h
  refine wpAny_isTrue_Compare1 (thn (ha pins s σ H _ I h) fun v s1 ⟨x, H1, I1, r1, q1⟩ => thn (hb pins s1 σ H1 _ I1 q1) fun u s2 ⟨y, H2, I2, r2, q2⟩ =>
    thn (ho pins s2 σ H2 x y v u _ I2 r1 r2 q2) fun c s3 ⟨z, H3, I3, r3, k, e, q3⟩ => ?_) hm
  subst e
  cases r3
  exact wpAny_truthy_bool ⟨H3, I3, q3⟩
theorem line63 : (sizeLine : Nat) < 2 ^ 63 := by rw [sizeLine_eq]; decide
theorem vals1 {x : V} {us : List Value} (r : Vals [x] us) : ∃ u, us = [u] ∧ RelV x u := by
  cases r with
  | cons r1 r2 => cases r2; exact ⟨_, rfl, r1⟩
theorem vals2 {x y : V} {us : List Value} (r : Vals [x, y] us) : ∃ u w', us = [u, w'] ∧ RelV x u ∧ RelV y w' := by
  cases r with
  | cons r1 r2 =>
    cases r2 with
    | cons r3 r4 => cases r4; exact ⟨_, _, rfl, r1, r3⟩
theorem call_max2 (hc : X.calm = true) : CallR X (.builtin "max") (fun xs H Q => ∃ i j, xs = [.int i, .int j] ∧ Q (.int (if j > i then j else i)) H) := by
  intro pins s σ H xs us Q I r h
  obtain ⟨i, j, rfl, q⟩ := h
  obtain ⟨u, w', rfl, ⟨t, rfl⟩, ⟨t', rfl⟩⟩ := vals2 r
  refine max_two_ints (I.ok.hd hc) fun h' tk k => ⟨_, H, I.kept k, ?_, q⟩
  by_cases hj : j > i
  · rw [if_pos hj, if_pos hj]; exact ⟨_, rfl⟩
  · rw [if_neg hj, if_neg hj]; exact ⟨_, rfl⟩
theorem call_min2 (hc : X.calm = true) : CallR X (.builtin "min") (fun xs H Q => ∃ i j, xs = [.int i, .int j] ∧ Q (.int (if j < i then j else i)) H) := by
  intro pins s σ H xs us Q I r h
  obtain ⟨i, j, rfl, q⟩ := h
  obtain ⟨u, w', rfl, ⟨t, rfl⟩, ⟨t', rfl⟩⟩ := vals2 r
  refine min_two_ints (I.ok.hd hc) fun h' tk k => ⟨_, H, I.kept k, ?_, q⟩
  by_cases hj : j < i
  · rw [if_pos hj, if_pos hj]; exact ⟨_, rfl⟩
  · rw [if_neg hj, if_neg hj]; exact ⟨_, rfl⟩
end
end L2

namespace L2
open PySem PySem.Spec PyProof.Rows

structure ObjM (h : Heap) (x dx C : Addr) (mA : Str → Option Value) : Prop where
  obj : h.get? x = some (PySem.W.instObj C dx)
  ns : h.Ns1 dx mA
  ne : dx ≠ x

theorem lookIn_ns {h : Heap} {dx : Addr} {mA : Str → Option Value} (n : h.Ns1 dx mA) : ∃ od, h.get? dx = some od ∧ ∀ name, PySem.W.lookIn name od = some (mA name) := by
  obtain ⟨o, es, ep, ho, hd, hk, _, hm⟩ := n
  refine ⟨o, ho, fun name => ?_⟩
  have e := hm name
  unfold nsFind findBy at e
  rw [← Array.find?_toList] at e
  unfold PySem.W.lookIn
  rw [hd]
  dsimp only
  split
  · rename_i y q
    rw [q] at e
    exact congrArg some e
  · rename_i q
    rw [q] at e
    have a : es.toList.any (·.refKey) = false := by
      rw [List.any_eq_false]
      intro y hy
      obtain ⟨z, t, hkey⟩ := hk y (Array.mem_toList_iff.mp hy)
      simp [DictEntry.refKey, hkey]
    have a' : ¬ es.toList.any (·.refKey) = true := by rw [a]; exact Bool.false_ne_true
    rw [if_neg a']
    exact congrArg some e

theorem ObjM.look {h : Heap} {x dx C : Addr} {mA : Str → Option Value} (I : ObjM h x dx C mA) : ∃ od, PySem.W.InstAt h x (PySem.W.instObj C dx) C (some od) ∧ ∀ name, PySem.W.lookIn name od = some (mA name) :=
  let ⟨od, ho, hl⟩ := lookIn_ns I.ns
  ⟨od, ⟨I.obj, rfl, rfl, ho⟩, hl⟩

section
variable {prog : Program} {w : World} {A : Around} {E : Value → Shared → Prop} {s : Shared} {K : PySem.W.Frag} {x dx C f : Addr} {mA : Str → Option Value} {name : Str} {v : Value}

theorem get_map {expr : Bool} {Q : Value → Shared → Prop} (X : K.In s.heap) (I : ObjM s.heap x dx C mA) (hg : PySem.W.plainGet K C name = true) (hh : PySem.W.hasDictIn K C = true)
    (ha : PySem.W.findIn K (.ref C) name = some none) (hv : mA name = some v) (hv' : PySem.W.handedIn v = true) (h : Q v { s with toks := s.toks + 1 }) :
    wpAny (model prog w) A (getAttr (.ref x) name expr) Q E s := by
  obtain ⟨od, J, hl⟩ := I.look
  exact PySem.W.get_value X J (PySem.W.plainGet_of hg).1 (PySem.W.findObj_own hh ha rfl (by rw [hl, hv])) hv' h

theorem get_meth {pl : Sem Bool} {Q : Value × List Value → Shared → Prop} (X : K.In s.heap) (I : ObjM s.heap x dx C mA) (hg : PySem.W.plainGet K C name = true)
    (hf : PySem.W.findIn K (.ref C) name = some (some (.ref f))) (ht : PySem.W.isFn K (.ref f) = true) (hv : mA name = none) (h : Q (.ref f, [.ref x]) s) :
    wpAny (model prog w) A (getMethod (.ref x) name pl) Q E s := by
  obtain ⟨od, J, hl⟩ := I.look
  exact PySem.W.method_fn X J (PySem.W.plainGet_of hg).1 (PySem.W.plainGet_of hg).2 hf (beq_iff_eq.mp ht) (by show (PySem.W.lookIn name od).map (·.isSome) = some false; rw [hl, hv]; rfl) h

theorem set_map {ns : List Str} {Q : Unit → Shared → Prop} (X : K.In s.heap) (I : ObjM s.heap x dx C mA)
    (hs : PySem.W.findIn K (.ref C) "__setattr__" = some (some (.builtin "object.__setattr__"))) (hp : PySem.W.plainOver K C = true) (ht : PySem.W.takerIn K C name = some none) (hh : PySem.W.hasDictIn K C = true)
    (hw : PySem.Within mA ns) (hsz : ns.length ≤ sizeLine)
    (h : ∀ h', ObjM h' x dx C (fun y => if y = name then some v else mA y) → Heap.SameBut dx s.heap h' → Q () { s with heap := h', toks := s.toks + 2 }) :
    wpAny (model prog w) A (setAttr (.ref x) name v) Q E s := by
  obtain ⟨od, J, hl⟩ := I.look
  refine PySem.W.set_plain X J hs (PySem.W.osa_open (s := { s with toks := s.toks + 1 }) (r := none) X J hp ht fun b => ?_)
  obtain ⟨cd, hc, hd'⟩ := PySem.W.any_some hh
  have hx : s.heap.get? x = some ⟨.ref C, some dx, .plain, #[]⟩ := I.obj
  refine wpAny_bind (wpAny_pure (wpAny_bind (wpAny_bind (wpAny_loadPart hx (wpAny_bind (PySem.W.Looks.here (s := { s with toks := s.toks + 1 }) (PySem.W.looks_clsIn X hc) ?_))))))
  rw [hd']
  refine wpAny_pure (a := some dx) (wpAny_bind (wpAny_pure (wpAny_bind ?_)))
  refine wpAny_nsSet1 (s := { s with toks := s.toks + 1 }) I.ns fun h' hn2 hs2 => ?_
  obtain ⟨oD, esD, epD, hoD, hdD, hcD⟩ := hn2.count (PySem.Within.cons name v hw)
  refine wpAny_bind (wpAny_lookBehind hoD (by rw [hdD]; exact pastItsLine_dict (Nat.le_trans hcD (by rw [List.length_cons]; omega))) ?_)
  exact wpAny_pure (h _ ⟨(hs2.2 _ (Ne.symm I.ne)).trans I.obj, hn2, I.ne⟩ hs2)

theorem make_map {R : Result → Shared → Prop} {vs : List Value} {kw : List (Str × Value)} (X : K.In s.heap) (hm : PySem.W.makesIn K C = true)
    (hi : PySem.W.findIn K (.ref C) "__init__" = some (some (.ref f))) (hf : PySem.W.typeIn K (.ref f) = some (.type "function"))
    (h : codeAny (model prog w) (A.under (.builtin "type.__call__" ⟨.ref C :: vs, kw⟩)) (.call (.ref f) ⟨.ref (s.heap.objs.size + 1) :: vs, kw⟩) (PySem.W.InitBack (s.heap.objs.size + 1) R)
      { s with heap := (s.heap.push PySem.W.emptyDict).push (PySem.W.instObj C s.heap.objs.size) }) :
    codeAny (model prog w) A (.call (.ref C) ⟨vs, kw⟩) R s := by
  obtain ⟨hh, g, d, t, os⟩ := s
  exact PySem.W.make_core (PySem.W.makes_of X hm) (PySem.W.looks_findIn X hi) (fun self => PySem.W.bind_fn X self hf) (.inl rfl) h
end

def putF (f : Str) (v : V) : List (Str × V) → List (Str × V)
  | [] => [(f, v)]
  | (g, x) :: r => if g = f then (g, v) :: r else (g, x) :: putF f v r
theorem lookup_putF (f g : Str) (v : V) : ∀ fs : List (Str × V), (putF f v fs).lookup g = if g = f then some v else fs.lookup g
  | [] => by
    show List.lookup g [(f, v)] = _
    by_cases h : g = f
    · have hb : (g == f) = true := beq_iff_eq.mpr h
      simp only [List.lookup, hb, if_pos h]
    · have hb : (g == f) = false := beq_eq_false_iff_ne.mpr h
      simp only [List.lookup, hb, if_neg h]
  | (k, x) :: r => by
    have ih := lookup_putF f g v r
    rw [show putF f v ((k, x) :: r) = (if k = f then (k, v) :: r else (k, x) :: putF f v r) from rfl]
    by_cases hk : k = f
    · rw [if_pos hk]
      by_cases h : g = k
      · have hb : (g == k) = true := beq_iff_eq.mpr h
        simp only [List.lookup, hb, if_pos (h.trans hk)]
      · have hb : (g == k) = false := beq_eq_false_iff_ne.mpr h
        simp only [List.lookup, hb, if_neg (fun e : g = f => h (e.trans hk.symm))]
    · rw [if_neg hk]
      by_cases h : g = k
      · have hb : (g == k) = true := beq_iff_eq.mpr h
        simp only [List.lookup, hb, if_neg (fun e : g = f => hk (h.symm.trans e))]
      · have hb : (g == k) = false := beq_eq_false_iff_ne.mpr h
        simp only [List.lookup, hb]
        exact ih
theorem keys_putF (f : Str) (v : V) : ∀ fs : List (Str × V), f ∈ (putF f v fs).map (·.1) ∧ ∀ g, g ∈ fs.map (·.1) → g ∈ (putF f v fs).map (·.1)
  | [] => ⟨by simp [putF], fun g h => by simp at h⟩
  | (k, x) :: r => by
    obtain ⟨i1, i2⟩ := keys_putF f v r
    rw [show putF f v ((k, x) :: r) = (if k = f then (k, v) :: r else (k, x) :: putF f v r) from rfl]
    by_cases hk : k = f
    · rw [if_pos hk]
      subst hk
      exact ⟨by simp, fun g h => by simpa using h⟩
    · rw [if_neg hk]
      refine ⟨?_, fun g h => ?_⟩
      · rw [List.map_cons]
        exact List.mem_cons_of_mem _ i1
      · rw [List.map_cons] at h ⊢
        rcases List.mem_cons.mp h with e | e
        · exact List.mem_cons.mpr (.inl e)
        · exact List.mem_cons_of_mem _ (i2 g e)
theorem length_putF (f : Str) (v : V) : ∀ fs : List (Str × V), (putF f v fs).length ≤ fs.length + 1
  | [] => by simp [putF]
  | (k, x) :: r => by
    have ih := length_putF f v r
    rw [show putF f v ((k, x) :: r) = (if k = f then (k, v) :: r else (k, x) :: putF f v r) from rfl]
    by_cases hk : k = f
    · rw [if_pos hk, List.length_cons, List.length_cons]; omega
    · rw [if_neg hk, List.length_cons, List.length_cons]; omega

theorem RelO.some_of {v : V} {o : Option Value} (r : RelO (some v) o) : ∃ u, o = some u ∧ RelV v u := by
  cases o with
  | none => exact (show False from r).elim
  | some u => exact ⟨u, rfl, r⟩
theorem RelO.none_of {o : Option Value} (r : RelO none o) : o = none := by
  cases o with
  | none => rfl
  | some u => exact (show False from r).elim
theorem handed_of {v : V} {u : Value} (r : RelV v u) : PySem.W.handedIn u = true := by
  cases v with
  | non => cases (show u = Value.none from r); rfl
  | bl b => cases (show u = Value.bool b from r); rfl
  | int i => obtain ⟨t, e⟩ := (show ∃ t, u = Value.int i t from r); cases e; rfl
  | str x => obtain ⟨t, e⟩ := (show ∃ t, u = Value.str x t from r); cases e; rfl
  | byt b => obtain ⟨t, e⟩ := (show ∃ t, u = Value.bytes b t from r); cases e; rfl
  | flt b => obtain ⟨t, e⟩ := (show ∃ t, u = Value.float b t from r); cases e; rfl
  | ref a => cases (show u = Value.ref a from r); rfl
  | ty n => cases (show u = Value.type n from r); rfl

section
variable {P : Program} {w : World} {H H' : Hp} {h h' : Heap} {a C dx : Addr} {fs fs' : List (Str × V)}
theorem ins_get (hok : HOk P w H h) (e : H a = some (.ins C dx fs)) : ∃ mA, ObjM h a dx C mA ∧ (∀ f, RelO (fs.lookup f) (mA f)) ∧ PySem.Within mA (fs.map (·.1)) ∧ fs.length ≤ 1000 ∧ H dx = some (.own a) := by
  obtain ⟨d, z, ne, ob, mA, n, r, q⟩ := (show ObjOk P w H h a (.ins C dx fs) from hok a _ e)
  exact ⟨mA, ⟨ob, n, ne⟩, r, q, z, d⟩
end

structure Cls (K : PySem.W.Frag) (C : Addr) : Prop where
  pg : PySem.W.plainGet K C Str.empty = true
  hd : PySem.W.hasDictIn K C = true
  po : PySem.W.plainOver K C = true
  sa : PySem.W.findIn K (.ref C) "__setattr__" = some (some (.builtin "object.__setattr__"))
theorem Cls.get {K : PySem.W.Frag} {C : Addr} (c : Cls K C) (f : Str) : PySem.W.plainGet K C f = true := c.pg
def NoAttr (K : PySem.W.Frag) (C : Addr) (f : Str) : Prop := PySem.W.findIn K (.ref C) f = some none
theorem NoAttr.taker {K : PySem.W.Frag} {C : Addr} {f : Str} (n : NoAttr K C f) : PySem.W.takerIn K C f = some none := by
  unfold PySem.W.takerIn
  rw [show PySem.W.findIn K (.ref C) f = some none from n]
  rfl
structure Meth (K : PySem.W.Frag) (C : Addr) (m : Str) (f : Addr) : Prop where
  at_ : PySem.W.findIn K (.ref C) m = some (some (.ref f))
  fn : PySem.W.isFn K (.ref f) = true
  kp : PySem.W.keepIn K (.ref f) = true

section
variable {X : Cx} {pins : List (Addr × Obj)} {σ : St} {H : Hp} {s : Shared} {a C dx : Addr} {fs : List (Str × V)} {f : Str} {v : V} {A : Around} {E : Value → Shared → Prop}

theorem getattr_ok {b : Bool} {Q : Value → Shared → Prop} (I : Inv X pins σ H s) (e : H a = some (.ins C dx fs)) (c : Cls X.K C) (n : NoAttr X.K C f) (l : fs.lookup f = some v)
    (h : ∀ u s', Inv X pins σ H s' → RelV v u → Q u s') : wpAny (model X.prog X.w) A (getAttr (.ref a) f b) Q E s := by
  obtain ⟨mA, O, r, _, _, _⟩ := ins_get I.hok e
  obtain ⟨u, hu, ru⟩ := RelO.some_of (v := v) (o := mA f) (by rw [← l]; exact r f)
  exact get_map I.kIn O (c.get f) c.hd n hu (handed_of ru) (h u _ (I.tok _) ru)

theorem getmeth_ok {m : Str} {g : Addr} {pl : Sem Bool} {Q : Value × List Value → Shared → Prop} (I : Inv X pins σ H s) (e : H a = some (.ins C dx fs)) (c : Cls X.K C) (k : Meth X.K C m g) (l : fs.lookup m = none)
    (h : Q (.ref g, [.ref a]) s) : wpAny (model X.prog X.w) A (getMethod (.ref a) m pl) Q E s := by
  obtain ⟨mA, O, r, _, _, _⟩ := ins_get I.hok e
  have hn : mA m = none := RelO.none_of (by rw [← l]; exact r m)
  exact get_meth I.kIn O (c.get m) k.at_ k.fn hn h

theorem setattr_ok {y : V} {u : Value} {Q : Unit → Shared → Prop} (I : Inv X pins σ H s) (e : H a = some (.ins C dx fs)) (c : Cls X.K C) (n : NoAttr X.K C f) (hl : fs.length < 1000) (ry : RelV y u)
    (h : ∀ s', Inv X pins σ (upd H a (.ins C dx (putF f y fs))) s' → Q () s') : wpAny (model X.prog X.w) A (setAttr (.ref a) f u) Q E s := by
  obtain ⟨mA, O, r, wi, _, ho⟩ := ins_get I.hok e
  have hz : (fs.map (·.1)).length ≤ sizeLine := by rw [List.length_map, sizeLine_eq]; omega
  refine set_map I.kIn O c.sa c.po n.taker c.hd wi hz fun h' O' sb => h _ ?_
  have hd : ∃ o, h'.get? dx = some o := let ⟨o, _, _, e', _⟩ := O'.ns; ⟨o, e'⟩
  refine I.write (x := a) (e := dx) (by rw [e]; exact True.intro) (.inr ho) (fun b q hb z => (sb.2 b hb).trans z) hd ?_
  refine ⟨by rw [upd_ne O.ne]; exact ho, ?_, O.ne, O'.obj, _, O'.ns, fun g => ?_, fun g hg => ?_⟩
  · have := length_putF f y fs; omega
  · show RelO ((putF f y fs).lookup g) (if g = f then some u else mA g)
    rw [lookup_putF]
    by_cases q : g = f
    · rw [if_pos q, if_pos q]; exact ry
    · rw [if_neg q, if_neg q]; exact r g
  · by_cases q : g = f
    · rw [q]; exact (keys_putF f y fs).1
    · refine (keys_putF f y fs).2 g (wi g fun z => hg ?_)
      show (if g = f then some u else mA g) = none
      rw [if_neg q]; exact z

theorem Inv.made (I : Inv X pins σ H s) : Inv X pins σ (upd (upd H s.heap.objs.size (.own (s.heap.objs.size + 1))) (s.heap.objs.size + 1) (.ins C s.heap.objs.size []))
    { s with heap := (s.heap.push PySem.W.emptyDict).push (PySem.W.instObj C s.heap.objs.size) } := by
  have e1 : (s.heap.push PySem.W.emptyDict).get? s.heap.objs.size = some PySem.W.emptyDict := Heap.get?_push_size s.heap rfl
  have e2 : ((s.heap.push PySem.W.emptyDict).push (PySem.W.instObj C s.heap.objs.size)).get? (s.heap.objs.size + 1) = some (PySem.W.instObj C s.heap.objs.size) := by
    have := Heap.get?_push_size (s.heap.push PySem.W.emptyDict) (o := PySem.W.instObj C s.heap.objs.size) rfl
    rwa [Heap.size_push] at this
  have e3 : (s.heap.push PySem.W.emptyDict).Ns s.heap.objs.size (fun _ => none) := ⟨PySem.W.emptyDict, #[], _, e1, rfl, (fun e he => absurd he (by simp)), fun _ => rfl⟩
  have I1 := I.laid (a := s.heap.objs.size) (o := .own (s.heap.objs.size + 1)) (h' := s.heap.push PySem.W.emptyDict) (t' := s.toks) (fun b u q => Heap.get?_push_of_some _ q) (Nat.le_refl _) ⟨_, e1⟩
  refine I1.laid (a := s.heap.objs.size + 1) (o := .ins C s.heap.objs.size []) (t' := s.toks) (fun b u q => Heap.get?_push_of_some _ q) (Nat.le_of_eq (Heap.size_push _ _)) ?_
  have ne : s.heap.objs.size ≠ s.heap.objs.size + 1 := Nat.ne_of_lt (Nat.lt_succ_self _)
  refine ⟨by rw [upd_ne ne, upd_same], Nat.zero_le _, ne, e2, fun _ => none, (Heap.Ns1.of_empty e3).at fun o q => Heap.get?_push_of_some _ q, fun _ => True.intro, fun y hy => absurd rfl hy⟩

theorem attr_of {prog : Program} {w : World} {env : Env} {e : Expr} {f : Str} {pos : Pos} {s : Shared} {Q : Value → Shared → Prop} (hb : attributeBase e f env (eval e env) = eval e env)
    (h : wpAny (model prog w) A (eval e env) (fun o s₁ => wpAny (model prog w) A (getAttr o f true) Q E s₁) E s) : wpAny (model prog w) A (eval (.Attribute e f pos) env) Q E s :=
  Attribute_any_ h (by rw [arm_eval_Attribute, hb])
end

def tFld (K : PySem.W.Frag) (ta : TE) (f : Str) : TE := fun σ H Q => ta σ H fun x H1 => ∃ a C dx fs v, x = .ref a ∧ H1 a = some (.ins C dx fs) ∧ Cls K C ∧ NoAttr K C f ∧ fs.lookup f = some v ∧ Q v H1
def sFld (K : PySem.W.Frag) (ta tv : TE) (f : Str) : TS := fun D σ H => tv σ H fun y H1 => ta σ H1 fun x H2 => ∃ a C dx fs, x = .ref a ∧ H2 a = some (.ins C dx fs) ∧ Cls K C ∧ NoAttr K C f ∧ fs.length < 1000 ∧
  D.nx σ (upd H2 a (.ins C dx (putF f y fs)))
section
variable {X : Cx} {o e value : Expr} {f : Str} {pos pos' tpos : Pos} {ta tv : TE}
theorem pe_fld (he : PE X e ta) (hb : attributeBase e f X.env (eval e X.env) = eval e X.env) : PE X (.Attribute e f pos) (tFld X.K ta f) := by
  intro pins s σ H Q I h
  refine attr_of hb (thn (he pins s σ H _ I h) fun u s1 ⟨x, H1, I1, rx, a, C, dx, fs, v, ex, ea, c, n, l, q⟩ => ?_)
  subst ex
  obtain rfl : u = Value.ref a := rx
  exact getattr_ok I1 ea c n l fun u' s2 I2 ru => ⟨v, H1, I2, ru, q⟩
theorem ps_fld (ha : PE X o ta) (hv : PE X value tv) (hs : swapsWith value (some (.Attribute o f pos')) pos.line X.env = pure false) : PS X (.Assign [.Attribute o f pos'] value pos) (sFld X.K ta tv f) := by
  intro pins s σ H D I h
  refine plainObj_wpAny_Assign_Attribute (thn (hv pins s σ H _ I h) fun u s1 ⟨y, H1, I1, ry, q⟩ => thn (ha pins s1 σ H1 _ I1 q) fun ov s2 ⟨x, H2, I2, rx, a, C, dx, fs, ex, ea, c, n, l, q2⟩ => ?_) hs
  subst ex
  obtain rfl : ov = Value.ref a := rx
  exact setattr_ok I2 ea c n l ry fun s3 I3 => ⟨σ, _, I3, q2⟩
end

section
variable {X : Cx} {pins : List (Addr × Obj)} {σ : St} {H : Hp} {s : Shared} {A : Around} {E : Value → Shared → Prop} {Q : Value → Shared → Prop} {c : Value} {b : Bool}
end
end L2

namespace L2
open PySem PySem.Spec PyProof.Rows

structure Room (k : Nat) (A : Around) : Prop where
  hd : A.handled = none
  dp : A.depth + 3 * k + 5 < recursionLimit
  un : A.units + 16 * k + 200 < cLine
theorem Room.mono {j k : Nat} {A : Around} (r : Room k A) (h : j ≤ k) : Room j A := ⟨r.hd, by have := r.dp; omega, by have := r.un; omega⟩
theorem Room.deeper {k : Nat} {A : Around} (r : Room (k + 1) A) (env : Env) : Room k (A.deeper env) :=
  ⟨r.hd, by have := r.dp; show A.depth + 1 + 3 * k + 5 < _; omega, by have := r.un; show A.units + 3 + 16 * k + 200 < _; omega⟩
theorem make_depth {A : Around} {C : Addr} {us : List Value} {kw : List (Str × Value)} : (A.under (.builtin "type.__call__" ⟨.ref C :: us, kw⟩)).depth = A.depth + 1 := by
  first | rfl | simp [Around.under, Code.weight, Code.isCreation, Code.isGuard, Code.isCaller, Code.frames, Code.isFrame, guardIds]
theorem make_units {A : Around} {C : Addr} {us : List Value} {kw : List (Str × Value)} : (A.under (.builtin "type.__call__" ⟨.ref C :: us, kw⟩)).units = A.units + 1 := by
  first | rfl | simp [Around.under, Code.cUnits, Code.frames, Code.isFrame]
theorem Room.make {k : Nat} {A : Around} (r : Room (k + 1) A) (C : Addr) (us : List Value) (kw : List (Str × Value)) : Room k (A.under (.builtin "type.__call__" ⟨.ref C :: us, kw⟩)) :=
  ⟨r.hd, by have := r.dp; rw [make_depth]; omega, by have := r.un; rw [make_units]; omega⟩
theorem Room.depth {k : Nat} {A : Around} (r : Room k A) : A.depth < recursionLimit := by have := r.dp; omega
theorem Room.units {k : Nat} {A : Around} (r : Room k A) : A.units + 64 < cLine := by have := r.un; omega
def tNil : TA := fun _ H Q => Q [] H
def tCons (ta : TE) (tr : TA) : TA := fun σ H Q => ta σ H fun x H1 => tr σ H1 fun xs H2 => Q (x :: xs) H2
section
variable {X : Cx} {e : Expr} {es : List Expr} {te : TE} {t : TA} {pos : Pos}
theorem pa_nil : PA X [] tNil := fun _ _ _ _ H Q I h => Calls.spliced_nil ⟨[], H, I, .nil, h⟩
theorem pa_cons (ha : PE X e te) (hr : PA X es t) (hs : starEach (e :: es) X.env = (false, eval e X.env) :: starEach es X.env := by rfl) : PA X (e :: es) (tCons te t) := by
  intro pos pins s σ H Q I h
  rw [hs]
  show wpAny _ _ (spliced ((false, eval e X.env) :: backTo pos (starEach es X.env))) _ _ s
  refine Calls.spliced_cons (thn (ha pins s σ H _ I h) fun u s1 ⟨x, H1, I1, r1, q1⟩ => ?_)
  exact thn (hr pos pins s1 σ H1 _ I1 q1) fun us s2 ⟨xs, H2, I2, r2, q2⟩ => ⟨x :: xs, H2, I2, .cons r1 r2, q2⟩

def tTup (t : TA) : TE := fun σ H Q => t σ H fun xs H1 => xs.length ≤ sizeLine ∧ ∀ p, H1 p = none → Q (.ref p) (upd H1 p (.tup xs))
def tLst (t : TA) : TE := fun σ H Q => t σ H fun xs H1 => xs.length ≤ sizeLine ∧ ∀ p, H1 p = none → Q (.ref p) (upd H1 p (.lst xs))
theorem pe_tup {x1} (h : PA X es t) : PE X (.Tuple es x1 pos) (tTup t) := by
  intro pins s σ H Q I hq
  refine wpAny_Tuple_spliced (thn (h pos pins s σ H _ I hq) fun us s1 ⟨xs, H1, I1, r, z, q⟩ => ⟨by rw [← r.length]; exact z, ?_⟩)
  have hf : H1 s1.heap.objs.size = none := I1.hok.fresh (Nat.le_refl _)
  refine ⟨.ref s1.heap.objs.size, upd H1 s1.heap.objs.size (.tup xs), I1.laid (t' := s1.toks) (fun b u e => Heap.get?_push_of_some _ e) (Nat.le_refl _) ?_, rfl, q _ hf⟩
  exact ⟨z, us, r, ⟨_, Heap.get?_push_size _ rfl, rfl, _, rfl⟩⟩
theorem pe_lst (h : PA X es t) : PE X (.List es pos) (tLst t) := by
  intro pins s σ H Q I hq
  refine wpAny_List_spliced (thn (h pos pins s σ H _ I hq) fun us s1 ⟨xs, H1, I1, r, z, q⟩ => ⟨by rw [← r.length]; exact z, ?_⟩)
  have hf : H1 s1.heap.objs.size = none := I1.hok.fresh (Nat.le_refl _)
  refine ⟨.ref s1.heap.objs.size, upd H1 s1.heap.objs.size (.lst xs), I1.laid (t' := s1.toks) (fun b u e => Heap.get?_push_of_some _ e) (Nat.le_refl _) ?_, rfl, q _ hf⟩
  exact ⟨z, us, 0, r, Heap.get?_push_size _ rfl⟩
end

abbrev Sp := List V → Hp → VK → XK → Prop
abbrev CXT := List Env → Hp → Shared → XK → Value → Shared → Prop

structure Env0 (P : Program) (w : World) (K : PySem.W.Frag) (mg : Str → Option Value) (base : Heap) (A : Around) (outer : List Env) (s : Shared) (H : Hp) : Prop where
  frames : A.frames = some outer
  mod : Mod K mg base
  bs : ∀ b o, base.get? b = some o → s.heap.get? b = some o ∧ H b = none
  bsz : base.objs.size ≤ s.heap.objs.size
  funs : s.heap.FunFrames base outer
  frf : ∀ b ∈ frs outer, H b = none
  hok : HOk P w H s.heap
  bare : AllBare s.gens
def CE (outer : List Env) (P : Program) (w : World) (H : Hp) (s : Shared) (Q : VK) (u : Value) (s' : Shared) : Prop :=
  ∃ v H', s'.os = s.os ∧ AllBare s'.gens ∧ Un (frs outer) [] H H' s.heap s'.heap ∧ HOk P w H' s'.heap ∧ RelV v u ∧ Q v H'
def CR (CX : CXT) (outer : List Env) (P : Program) (w : World) (H : Hp) (s : Shared) (Q : VK) (E : XK) (r : Result) (s' : Shared) : Prop :=
  match r with
  | .ok (.ret u) => CE outer P w H s Q u s'
  | .ok _ => False
  | .error e => CX outer H s E e s'
structure FnOk (P : Program) (w : World) (K : PySem.W.Frag) (mg : Str → Option Value) (base : Heap) (CX : CXT) (k : Nat) (f : Addr) (fd : FuncData) (ps : List Str) (sp : Sp) : Prop where
  len : ∀ vs H Q E, sp vs H Q E → vs.length = ps.length
  run : ∀ (A : Around) (outer : List Env) (s : Shared) (H : Hp) (args : Args) (us : List Value) (vs : List V) (Q : VK) (E : XK), Room k A → Env0 P w K mg base A outer s H → BindsTo s fd args (ps.zip us) → Vals vs us → sp vs H Q E →
    codeAny (model P w) A (.call (.ref f) args) (CR CX outer P w H s Q E) s
theorem Env0.make {P : Program} {w : World} {K : PySem.W.Frag} {mg : Str → Option Value} {base : Heap} {A : Around} {outer : List Env} {s : Shared} {H : Hp} (e : Env0 P w K mg base A outer s H) (C : Addr) (us : List Value) (kw : List (Str × Value)) :
    Env0 P w K mg base (A.under (.builtin "type.__call__" ⟨.ref C :: us, kw⟩)) outer s H := ⟨by first | exact e.frames | (simpa [Around.under, Code.envs, Code.isFrame, pushEnvs] using e.frames), e.mod, e.bs, e.bsz, e.funs, e.frf, e.hok, e.bare⟩
section
variable {X : Cx} {pins : List (Addr × Obj)} {σ : St} {H : Hp} {s s' : Shared}
theorem Inv.env0 (I : Inv X pins σ H s) : Env0 X.prog X.w X.K X.mg X.base X.A X.stack s H :=
  ⟨I.ok.frames, I.ok.mod, I.bs, Nat.le_trans I.ok.bsz I.sz, I.stack, I.stkFree, I.hok, I.bare⟩
theorem Inv.after {Q : VK} {u : Value} (I : Inv X pins σ H s) (h : CE X.stack X.prog X.w H s Q u s') : EP X pins σ Q u s' := by
  obtain ⟨v, H', os, bare, un, hok, r, q⟩ := h
  obtain ⟨hh, g, d, t, os'⟩ := s'
  obtain rfl : os' = s.os := os
  exact ⟨v, H', I.call (h' := hh) (g' := g) (d' := d) (t' := t) (ch := []) un hok bare (fun b z => absurd z (by simp)), r, q⟩
end

def tCall (sp : Sp) (dvs : List V) (E : XK) (t : TA) : TE := fun σ H Q => t σ H fun vs H1 => sp (vs ++ dvs) H1 Q E
def tMeth (C : Addr) (m : Str) (sp : Sp) (dvs : List V) (E : XK) (ta : TE) (t : TA) : TE := fun σ H Q => ta σ H fun x H1 => ∃ a dx fs, x = .ref a ∧ H1 a = some (.ins C dx fs) ∧ fs.lookup m = none ∧
  t σ H1 fun vs H2 => sp (x :: (vs ++ dvs)) H2 Q E
def tMake (C : Addr) (sp : Sp) (dvs : List V) (E : XK) (t : TA) : TE := fun σ H Q => t σ H fun vs H1 => ∀ x dx, H1 x = none → H1 dx = none → dx ≠ x →
  sp (.ref x :: (vs ++ dvs)) (upd (upd H1 dx (.own x)) x (.ins C dx [])) (fun v H2 => v = .non ∧ Q (.ref x) H2) E

def Binds (K : PySem.W.Frag) (fd : FuncData) (ps : List Str) (ds : List Value) : Prop :=
  ∀ (s : Shared) (us : List Value), K.In s.heap → (us ++ ds).length = ps.length → BindsTo s fd ⟨us, []⟩ (ps.zip (us ++ ds))
theorem Binds.all {K : PySem.W.Frag} {fd : FuncData} {ps : List Str} (h : ∀ us : List Value, us.length = ps.length → bindArgs fd ⟨us, []⟩ = pure (ps.zip us)) : Binds K fd ps [] := fun s us _ hl => by
  rw [List.append_nil] at hl ⊢
  exact .of_eq (h us hl)

def Passes (CX : CXT) (X : Cx) (E : XK) : Prop := ∀ (pins : List (Addr × Obj)) (σ : St) (H : Hp) (s : Shared) (e : Value) (s' : Shared), Inv X pins σ H s → CX X.stack H s E e s' → X.xe e s'

section
variable {X : Cx} {CX : CXT} {k : Nat} {f C : Addr} {fd : FuncData} {ps : List Str} {sp : Sp} {dvs : List V} {ds : List Value} {E : XK} {x m : Str} {p pos apos : Pos} {e o : Expr} {es : List Expr} {ta : TE} {t : TA}

theorem run_fn {pins : List (Addr × Obj)} {σ : St} {H : Hp} {s : Shared} {Q : VK} {us : List Value} {vs : List V} (F : FnOk X.prog X.w X.K X.mg X.base CX k f fd ps sp) (hr : Room k X.A) (hb : Binds X.K fd ps ds) (hd : Vals dvs ds) (hx : Passes CX X E)
    (I : Inv X pins σ H s) (r : Vals vs us) (h : sp (vs ++ dvs) H Q E) : wpAny (model X.prog X.w) X.A (call (.ref f) us) (EP X pins σ Q) X.xe s := by
  have r2 : Vals (vs ++ dvs) (us ++ ds) := r.append hd
  have hl : (us ++ ds).length = ps.length := by rw [← r2.length]; exact F.len _ _ _ _ h
  refine wpAny_call (codeAny_mono (F.run X.A X.stack s H ⟨us, []⟩ (us ++ ds) (vs ++ dvs) Q E hr I.env0 (hb s us I.kIn hl) r2 h) fun r s' hq => ?_)
  cases r with
  | error e => exact hx pins σ H s e s' I hq
  | ok fl =>
    cases fl with
    | ret u => exact I.after hq
    | next => exact False.elim hq
    | brk => exact False.elim hq
    | cont => exact False.elim hq

theorem pe_call (F : FnOk X.prog X.w X.K X.mg X.base CX k f fd ps sp) (hr : Room k X.A) (hg : Gl X x) (hm : X.mg x = some (.ref f)) (hk : PySem.W.keepIn X.K (.ref f) = true) (hb : Binds X.K fd ps ds) (hd : Vals dvs ds) (hx : Passes CX X E)
    (ha : PA X (e :: es) t) (hdb : (x == ("__debug__" : Str)) = false := by decide) (he : starEach (e :: es) X.env = (false, eval e X.env) :: starEach es X.env := by rfl) (hpl : (backTo pos (starEach es X.env)).any (·.1) = false := by rfl) :
    PE X (.Call (.Name x p) (e :: es) [] pos) (tCall sp dvs E t) := by
  intro pins s σ H Q I h
  refine wpAny_Call_Name_kw (ld_glob I hg hm ?_ hdb)
  refine PySem.W.callWith_K (h₀ := X.base) I.ok.mod.kin hk (thn (ha pos pins s σ H _ I h) fun us s1 ⟨vs, H1, I1, r, q⟩ => ⟨I1.kIn, ?_⟩) he hpl
  exact run_fn F hr hb hd hx I1 r q
theorem pe_meth {pl : Sem Bool} (he : PE X o ta) (c : Cls X.K C) (hm : Meth X.K C m f) (F : FnOk X.prog X.w X.K X.mg X.base CX k f fd ps sp) (hr : Room k X.A) (hb : Binds X.K fd ps ds) (hd : Vals dvs ds) (hx : Passes CX X E) (ha : PA X (e :: es) t)
    (hst : starEach (e :: es) X.env = (false, eval e X.env) :: starEach es X.env := by rfl) (hpl : (backTo pos (starEach es X.env)).any (·.1) = false := by rfl)
    (ht : eval (.Call (.Attribute o m apos) (e :: es) [] pos) X.env = (do
      let ov ← eval o X.env
      standAt apos.atName
      let (f, first) ← holding [ov] (getMethod ov m pl)
      callWith pos f first (backTo pos (starEach (e :: es) X.env)) (backToKw pos (keywordEach [] X.env))) := by rfl) :
    PE X (.Call (.Attribute o m apos) (e :: es) [] pos) (tMeth C m sp dvs E ta t) := by
  intro pins s σ H Q I h
  refine PySem.W.methodCall_KW (pl := pl) (thn (he pins s σ H _ I h) fun u s1 ⟨x, H1, I1, rx, a, dx, fs, ex, ea, l, q⟩ => ?_) ht
  subst ex
  obtain rfl : u = Value.ref a := rx
  refine getmeth_ok I1 ea c hm l ?_
  refine PySem.W.callWith_K (first := [.ref a]) (h₀ := X.base) I.ok.mod.kin hm.kp (thn (ha pos pins s1 σ H1 _ I1 q) fun us s2 ⟨vs, H2, I2, r, q2⟩ => ⟨I2.kIn, ?_⟩) hst hpl
  exact run_fn (us := .ref a :: us) (vs := .ref a :: vs) F hr hb hd hx I2 (.cons rfl r) q2
theorem pe_meth0 {pl : Sem Bool} (he : PE X o ta) (c : Cls X.K C) (hm : Meth X.K C m f) (F : FnOk X.prog X.w X.K X.mg X.base CX k f fd ps sp) (hr : Room k X.A) (hb : Binds X.K fd ps ds) (hd : Vals dvs ds) (hx : Passes CX X E)
    (ht : eval (.Call (.Attribute o m apos) [] [] pos) X.env = (do
      let ov ← eval o X.env
      standAt apos.atName
      let (f, first) ← holding [ov] (getMethod ov m pl)
      callWith pos f first (backTo pos (starEach [] X.env)) (backToKw pos (keywordEach [] X.env))) := by rfl) :
    PE X (.Call (.Attribute o m apos) [] [] pos) (tMeth C m sp dvs E ta tNil) := by
  intro pins s σ H Q I h
  refine PySem.W.methodCall_KW (pl := pl) (thn (he pins s σ H _ I h) fun u s1 ⟨x, H1, I1, rx, a, dx, fs, ex, ea, l, q⟩ => ?_) ht
  subst ex
  obtain rfl : u = Value.ref a := rx
  refine getmeth_ok I1 ea c hm l ?_
  exact PySem.W.callWith_K0 (first := [.ref a]) I1.kIn hm.kp (run_fn (us := [.ref a]) (vs := [.ref a]) F hr hb hd hx I1 (.cons rfl .nil) q)

structure Mk (K : PySem.W.Frag) (C f : Addr) : Prop where
  makes : PySem.W.makesIn K C = true
  init : PySem.W.findIn K (.ref C) "__init__" = some (some (.ref f))
  fn : PySem.W.isFn K (.ref f) = true
  kp : PySem.W.keepIn K (.ref C) = true

theorem run_make {pins : List (Addr × Obj)} {σ : St} {H : Hp} {s : Shared} {Q : VK} {us : List Value} {vs : List V} (M : Mk X.K C f) (F : FnOk X.prog X.w X.K X.mg X.base CX k f fd ps sp) (hr : Room (k + 1) X.A) (hb : Binds X.K fd ps ds) (hd : Vals dvs ds)
    (hx : Passes CX X E) (I : Inv X pins σ H s) (r : Vals vs us)
    (h : ∀ x dx, H x = none → H dx = none → dx ≠ x → sp (.ref x :: (vs ++ dvs)) (upd (upd H dx (.own x)) x (.ins C dx [])) (fun v H2 => v = .non ∧ Q (.ref x) H2) E) :
    wpAny (model X.prog X.w) X.A (call (.ref C) us) (EP X pins σ Q) X.xe s := by
  have hq := h (s.heap.objs.size + 1) s.heap.objs.size (I.hok.fresh (Nat.le_succ _)) (I.hok.fresh (Nat.le_refl _)) (Nat.ne_of_lt (Nat.lt_succ_self _))
  have I2 := Inv.made (C := C) I
  have r2 : Vals (V.ref (s.heap.objs.size + 1) :: (vs ++ dvs)) (Value.ref (s.heap.objs.size + 1) :: (us ++ ds)) := .cons rfl (r.append hd)
  have hl : (Value.ref (s.heap.objs.size + 1) :: us ++ ds).length = ps.length := by
    have e := r2.length
    rw [F.len _ _ _ _ hq] at e
    exact e.symm
  refine wpAny_call (make_map (f := f) I.kIn M.makes M.init (beq_iff_eq.mp M.fn) (codeAny_mono (F.run _ X.stack _ _ ⟨Value.ref (s.heap.objs.size + 1) :: us, []⟩ (Value.ref (s.heap.objs.size + 1) :: (us ++ ds)) _ _ E (hr.make C us [])
    (I2.env0.make C us []) (hb _ (Value.ref (s.heap.objs.size + 1) :: us) I2.kIn hl) r2 hq) fun r s' hq' => ?_))
  cases r with
  | error e => exact hx pins σ _ _ e s' I2 hq'
  | ok fl =>
    cases fl with
    | ret u =>
      obtain ⟨v, H', I3, rv, ev, q3⟩ := I2.after hq'
      subst ev
      exact ⟨rv, ⟨V.ref (s.heap.objs.size + 1), H', I3, rfl, q3⟩⟩
    | next => exact False.elim hq'
    | brk => exact False.elim hq'
    | cont => exact False.elim hq'
theorem pe_make0 (M : Mk X.K C f) (F : FnOk X.prog X.w X.K X.mg X.base CX k f fd ps sp) (hr : Room (k + 1) X.A) (hg : Gl X x) (hm : X.mg x = some (.ref C)) (hb : Binds X.K fd ps ds) (hd : Vals dvs ds) (hx : Passes CX X E)
    (hdb : (x == ("__debug__" : Str)) = false := by decide) : PE X (.Call (.Name x p) [] [] pos) (tMake C sp dvs E tNil) := by
  intro pins s σ H Q I h
  refine wpAny_Call_Name_kw (ld_glob I hg hm ?_ hdb)
  exact PySem.W.callWith_K0 I.kIn M.kp (run_make (us := []) M F hr hb hd hx I .nil h)
end

section
variable {X : Cx} {CX : CXT} {k : Nat} {f C : Addr} {fd : FuncData} {ps ks : List Str} {sp : Sp} {E : XK} {x m : Str} {p pos apos kpos : Pos} {e o : Expr} {es : List Expr} {kws : List Keyword} {te ta : TE} {t tk : TA} {nm : Option Str}
variable {g : List Value → List Value → List Value} {gV : List V → List V → List V}
end

structure FnScope (N P : List Str) (sc : Scope) : Prop where
  kind : sc.kind = .function
  co : sc.isCoroutine = false
  gen : sc.isGenerator = false
  nd : N.Nodup
  pre : N.take P.length = P
  par : ∀ x ∈ P, sc.names.lookup x = some .local ∨ sc.names.lookup x = some .cell
  nofree : ∀ y ∈ sc.names, y.2 ≠ .free

theorem bindL_out {kindOf : Str → Option NameKind} {x : Str} : ∀ {binds : List (Str × Value)} {m : Str → Option Value}, (∀ v, (x, v) ∉ binds) → bindL kindOf binds m x = m x
  | [], _, _ => rfl
  | (n, v) :: r, m, h => by
    unfold bindL
    rw [bindL_out fun w hw => h w (List.mem_cons_of_mem _ hw)]
    split
    · have : x ≠ n := by rintro rfl; exact h v List.mem_cons_self
      simp [this]
    · rfl
theorem bindC_out {kindOf : Str → Option NameKind} {x : Str} : ∀ {binds : List (Str × Value)} {m : Str → Option Value}, (∀ v, (x, v) ∉ binds) → bindC kindOf binds m x = m x
  | [], _, _ => rfl
  | (n, v) :: r, m, h => by
    unfold bindC
    rw [bindC_out fun w hw => h w (List.mem_cons_of_mem _ hw)]
    split
    · rfl
    · have : x ≠ n := by rintro rfl; exact h v List.mem_cons_self
      simp [this]
theorem bindL_get {kindOf : Str → Option NameKind} {x : Str} {v : Value} : ∀ {P : List Str} {vs : List Value} {i : Nat} {m : Str → Option Value}, P.Nodup → P[i]? = some x → vs[i]? = some v → kindOf x = some .local →
    bindL kindOf (P.zip vs) m x = some v
  | [], _, _, _, _, h, _, _ => by simp at h
  | _ :: _, [], _, _, _, _, h, _ => by simp at h
  | p :: P, w :: vs, 0, m, nd, h1, h2, hk => by
    simp at h1 h2; subst h1; subst h2
    show bindL kindOf ((p, w) :: P.zip vs) m p = _
    unfold bindL
    rw [bindL_out fun v hv => (List.nodup_cons.mp nd).1 (List.of_mem_zip hv).1, if_pos hk]
    simp
  | p :: P, w :: vs, i + 1, m, nd, h1, h2, hk => by
    show bindL kindOf ((p, w) :: P.zip vs) m x = _
    unfold bindL
    exact bindL_get (i := i) (List.nodup_cons.mp nd).2 (by simpa using h1) (by simpa using h2) hk
theorem bindC_get {kindOf : Str → Option NameKind} {x : Str} {v : Value} : ∀ {P : List Str} {vs : List Value} {i : Nat} {m : Str → Option Value}, P.Nodup → P[i]? = some x → vs[i]? = some v → kindOf x ≠ some .local →
    bindC kindOf (P.zip vs) m x = some v
  | [], _, _, _, _, h, _, _ => by simp at h
  | _ :: _, [], _, _, _, _, h, _ => by simp at h
  | p :: P, w :: vs, 0, m, nd, h1, h2, hk => by
    simp at h1 h2; subst h1; subst h2
    show bindC kindOf ((p, w) :: P.zip vs) m p = _
    unfold bindC
    rw [bindC_out fun v hv => (List.nodup_cons.mp nd).1 (List.of_mem_zip hv).1, if_neg hk]
    simp
  | p :: P, w :: vs, i + 1, m, nd, h1, h2, hk => by
    show bindC kindOf ((p, w) :: P.zip vs) m x = _
    unfold bindC
    exact bindC_get (i := i) (List.nodup_cons.mp nd).2 (by simpa using h1) (by simpa using h2) hk

def start (N : List Str) (vs : List V) : St := vs.map some ++ List.replicate (N.length - vs.length) none

def cxOf (CX : CXT) (P : Program) (w : World) (K : PySem.W.Frag) (mg : Str → Option Value) (base : Heap) (N : List Str) (qual : Str) (scope : Scope) (f : Addr) (cd : Value) (A : Around) (outer : List Env) (s : Shared) (H : Hp) (E : XK) : Cx where
  prog := P
  w := w
  K := K
  mg := mg
  base := base
  A := A.deeper (envOfC qual scope s.heap.objs.size f cd)
  N := N
  s_0 := s
  H_0 := H
  env := envOfC qual scope s.heap.objs.size f cd
  outer := outer
  stack := envOfC qual scope s.heap.objs.size f cd :: outer
  ex := []
  calm := true
  fn := fun _ => true
  pn := []
  xe := fun e s' => wpAny (model P w) (A.deeper (envOfC qual scope s.heap.objs.size f cd)) (leaving (envOfC qual scope s.heap.objs.size f cd) e) (fun _ s'' => CX outer H s E e s'') (fun e' s'' => CX outer H s E e' s'') s'

theorem cell_has {sc : Scope} {n : Nat} {x : Str} (h : sc.names.lookup x = some .cell) : ∃ c, (cellsFrom n sc.names []).lookup x = some c := by
  have q := PySem.W.cellsFrom_some sc.names n [] (.inl h)
  exact Option.isSome_iff_exists.mp q

theorem inv_start {CX : CXT} {P : Program} {w : World} {K : PySem.W.Frag} {mg : Str → Option Value} {base : Heap} {N ps : List Str} {qual : Str} {scope : Scope} {f : Addr} {cd : Value} {A : Around} {outer : List Env} {s s1 : Shared} {H : Hp} {E : XK} {us : List Value} {vs : List V}
    (S : FnScope N ps scope) (hd : A.handled = none) (e0 : Env0 P w K mg base A outer s H) (hl : vs.length = ps.length) (r : Vals vs us)
    (x : InCallC s s.heap.objs.size (bindL (envOfC qual scope s.heap.objs.size f cd).kindOf (ps.zip us) fun _ => none) (cellsFrom (s.heap.objs.size + 1) scope.names []) (bindC (envOfC qual scope s.heap.objs.size f cd).kindOf (ps.zip us) fun _ => none) s1) :
    Inv (cxOf CX P w K mg base N qual scope f cd A outer s H E) [] (start N vs) H s1 := by
  have hpl : ps.length ≤ N.length := by have := congrArg List.length S.pre; rw [List.length_take] at this; omega
  obtain ⟨h1, tk, rfl, hk⟩ := x.done
  have noA : ∀ b : Addr, b ∉ (cxOf CX P w K mg base N qual scope f cd A outer s H E).ex := fun b z => absurd (show b ∈ ([] : List Addr) from z) (by simp)
  refine ⟨⟨e0.mod, S.kind, rfl, rfl, Nat.le_refl _, fun y z c h1 h2 => ?_, fun y hy => ?_, fun y c _ h => ?_, fun _ => hd, Around.frames_deeper e0.frames, .inr ⟨rfl, rfl⟩, fun b z => absurd z (noA b), e0.bs, e0.bsz, fun b _ _ => noA b, fun b z => absurd z (noA b), e0.funs, e0.frf⟩,
    rfl, e0.bare, Un.kept hk, ⟨_, x.toInCall.ns, fun i y v h1 h2 h3 => ?_⟩, fun y c h => ⟨_, x.cell y c h⟩, e0.hok.fresh (Nat.le_refl _), fun y c h => ?_, fun p hp => absurd (show p ∈ ([] : List (Addr × Obj)) from hp) (by simp), e0.hok.kept hk, ?_⟩
  · exact name_of_addr x.apart (PySem.mem_of_lookup h1) (PySem.mem_of_lookup h2)
  · have hy : scope.names.lookup y = some .cell ∨ scope.names.lookup y = some .free := hy
    rcases hy with hy | hy
    · exact cell_has hy
    · exact absurd rfl (S.nofree _ (PySem.mem_of_lookup hy))
  · exact Nat.le_of_lt (x.above y c (PySem.mem_of_lookup h))
  · have hi : i < vs.length := by
      unfold start at h2
      by_cases hi : i < vs.length
      · exact hi
      · rw [List.getElem?_append_right (by simpa using hi)] at h2
        rw [List.getElem?_replicate] at h2
        split at h2 <;> cases h2
    have ha : vs[i]? = some v := by
      unfold start at h2
      rw [List.getElem?_append_left (by simpa using hi), List.getElem?_map] at h2
      cases e : vs[i]? with
      | none => rw [e] at h2; cases h2
      | some a => rw [e] at h2; cases h2; rfl
    obtain ⟨u, hu, rv⟩ := r.get ha
    have hp : ps[i]? = some y := by
      rw [← S.pre, List.getElem?_take_of_lt (by omega)]; exact h1
    have ndP : ps.Nodup := by rw [← S.pre]; exact S.nd.sublist (List.take_sublist _ _)
    refine ⟨u, rv, ?_⟩
    rcases S.par y (List.mem_of_getElem? hp) with k | k
    · exact .inl ⟨k, bindL_get ndP hp hu k⟩
    · obtain ⟨c, e⟩ := cell_has (n := s.heap.objs.size + 1) k
      refine .inr ⟨.inl k, c, e, ?_⟩
      have q := x.cell y c e
      rw [bindC_get ndP hp hu (by show scope.names.lookup y ≠ _; rw [k]; decide)] at q
      exact q
  · exact e0.hok.fresh (Nat.le_of_lt (x.above y c (PySem.mem_of_lookup h)))
  · unfold start
    show _ = N.length
    rw [List.length_append, List.length_map, List.length_replicate]
    omega

theorem fn_of {CX : CXT} {P : Program} {w : World} {K : PySem.W.Frag} {mg : Str → Option Value} {base : Heap} {k : Nat} {f : Addr} {name qual : Str} {params : Arguments} {body : List Stmt} {scope : Scope} {dV kV doc pm cdv ct oc : Value} {an od : Option Addr}
    {osl : Array (Option Value)} {N ps : List Str} {sp : Sp} (lk : K.lookup f = some ⟨oc, od, .func (PySem.W.fnOf name qual params body scope dV kV doc pm an cdv ct), osl⟩) (hcd : PySem.W.codeIn K cdv qual = true) (S : FnScope N ps scope)
    (len : ∀ vs H Q E, sp vs H Q E → vs.length = ps.length)
    (hbody : ∀ (A : Around) (outer : List Env) (s : Shared) (H : Hp) (vs : List V) (Q : VK) (E : XK), Room k (A.deeper (envOfC qual scope s.heap.objs.size f cdv)) → sp vs H Q E →
      ∃ t, PSs (cxOf CX P w K mg base N qual scope f cdv A outer s H E) body t ∧ t { nx := fun _ H' => Q .non H', rt := Q } (start N vs) H) :
    FnOk P w K mg base CX (k + 1) f (PySem.W.fnOf name qual params body scope dV kV doc pm an cdv ct) ps sp := by
  refine ⟨len, fun A outer s H args us vs Q E hr e0 hb r hsp => ?_⟩
  have hl := len _ _ _ _ hsp
  have KX : K.In s.heap := e0.mod.kin.keeps fun b o e => (e0.bs b o e).1
  have lim : s.heap.NoLimit := e0.mod.nolimit.keeps fun b o e => (e0.bs b o e).1
  have hkind : ∀ y ∈ ps.zip us, scope.names.lookup y.1 = some .local ∨ (scope.names.lookup y.1 = some .cell ∧ ((cellsFrom (s.heap.objs.size + 1) scope.names []).lookup y.1).isSome = true) := fun ⟨n, v⟩ hy => by
    rcases S.par n (List.of_mem_zip hy).1 with q | q
    · exact .inl q
    · exact .inr ⟨q, PySem.W.cellsFrom_some _ _ _ (.inl q)⟩
  refine codeAny_call_function hr.depth (KX _ _ lk) rfl S.co S.gen rfl (PySem.W.codeRec_of KX hcd) (hb _ _ _ _ ?_)
  refine wpAny_newFunctionEnv_cells S.kind hkind fun env he s1 x => ?_
  subst he
  refine ⟨lim.keeps x.toInCall.keep, codeAny_func ?_⟩
  obtain ⟨t, ht, hq⟩ := hbody A outer s H vs Q E (hr.deeper _) hsp
  have I : Inv (cxOf CX P w K mg base N qual scope f cdv A outer s H E) [] (start N vs) H s1 := inv_start S hr.hd e0 hl r x
  refine wpAny_mono (ht [] s1 (start N vs) H _ I hq) (fun fl s' hs => ?_) fun e s' hs => hs
  have fin : ∀ {σ' : St} {H' : Hp} {v : V} {u : Value}, Inv (cxOf CX P w K mg base N qual scope f cdv A outer s H E) [] σ' H' s' → RelV v u → Q v H' → CE outer P w H s Q u s' :=
    fun {σ' H' v u} J rv q => ⟨v, H', J.os, J.bare, J.base, J.hok, rv, q⟩
  cases fl with
  | ret u =>
    obtain ⟨v, σ', H', J, rv, q⟩ := hs
    exact fin J rv q
  | next =>
    obtain ⟨σ', H', J, q⟩ := hs
    exact fin (v := V.non) (u := Value.none) J rfl q
  | brk =>
    obtain ⟨_, _, _, q⟩ := hs
    exact False.elim q
  | cont =>
    obtain ⟨_, _, _, q⟩ := hs
    exact False.elim q
end L2

namespace L2
open PySem PySem.Spec PyProof.Rows
section
variable {X : Cx} {x : Str} {p pos : Pos} {e : Expr} {es : List Expr} {t : TA} {id T : String} {r : List V → Hp → VK → Prop}

def tCB (r : List V → Hp → VK → Prop) (t : TA) : TE := fun σ H Q => t σ H fun vs H1 => r vs H1 Q
theorem pe_callB (hc : CallR X (.builtin id) r) (hg : Gl X x) (hm : X.mg x = none) (hv : bootBuiltins x = some (.builtin id)) (ha : PA X (e :: es) t) (hn : x ≠ "__name__" := by decide) (hdb : (x == ("__debug__" : Str)) = false := by decide)
    (he : starEach (e :: es) X.env = (false, eval e X.env) :: starEach es X.env := by rfl) (hpl : (backTo pos (starEach es X.env)).any (·.1) = false := by rfl) : PE X (.Call (.Name x p) (e :: es) [] pos) (tCB r t) := by
  intro pins s σ H Q I h
  refine wpAny_Call_Name_kw (ld_blt I hg hm hv ?_ hn hdb)
  exact PyProof.Rows.callWith_builtin1 (thn (ha pos pins s σ H _ I h) fun us s1 ⟨vs, H1, I1, r1, q1⟩ => hc pins s1 σ H1 vs us Q I1 r1 q1) he hpl
theorem pe_callTy (hc : CallR X (.type T) r) (hg : Gl X x) (hm : X.mg x = none) (hv : bootBuiltins x = some (.type T)) (ha : PA X (e :: es) t) (hn : x ≠ "__name__" := by decide) (hdb : (x == ("__debug__" : Str)) = false := by decide)
    (he : starEach (e :: es) X.env = (false, eval e X.env) :: starEach es X.env := by rfl) (hpl : (backTo pos (starEach es X.env)).any (·.1) = false := by rfl) : PE X (.Call (.Name x p) (e :: es) [] pos) (tCB r t) := by
  intro pins s σ H Q I h
  refine wpAny_Call_Name_kw (ld_blt I hg hm hv ?_ hn hdb)
  exact PyProof.Rows.callWith_type1 (thn (ha pos pins s σ H _ I h) fun us s1 ⟨vs, H1, I1, r1, q1⟩ => hc pins s1 σ H1 vs us Q I1 r1 q1) he hpl
end
end L2

namespace HT
open PySem PyProof.Rows

section
open PySem.SeqAt
open PySem.AutoSeq1 (wpAny_loadPart')
open PySem.MeetsSeq PySem.MeetsSeq2 PySem.MeetsSeq3

end

section
variable {prog : Program} {w : World} {A : Around} {E : Value → Shared → Prop} {s : Shared}

def sIx (n d : Nat) : Option Int → Nat
  | none => d
  | some v => if v < 0 then (v + (n : Int)).toNat else min v.toNat n
theorem sIx_nat (n d k : Nat) : sIx n d (some (k : Int)) = min k n := by
  show (if (k : Int) < 0 then ((k : Int) + (n : Int)).toNat else min (k : Int).toNat n) = min k n
  rw [if_neg (by omega), Int.toNat_natCast]
end
end HT

namespace L2
open PySem PySem.Spec PyProof.Rows

abbrev TO := St → Hp → (Option Int → Hp → Prop) → Prop
def PO (X : Cx) (e : Option Expr) (t : TO) : Prop :=
  ∀ (pins : List (Addr × Obj)) (s : Shared) (σ : St) (H : Hp) (Q : Option Int → Hp → Prop), Inv X pins σ H s → t σ H Q →
    wpAny (model X.prog X.w) X.A (evalPart e X.env) (fun u s' => ∃ o H', Inv X pins σ H' s' ∧ IsPart u o ∧ Q o H') X.xe s
def tPart (t : TE) : TO := fun σ H Q => t σ H fun x H1 => ∃ i, x = .int i ∧ Q (some i) H1

section
variable {X : Cx} {e : Expr} {te : TE} {lo hi : Option Expr} {tl th : TO} {pos p2 : Pos}

theorem po_some (h : PE X e te) : PO X (some e) (tPart te) := by
  intro pins s σ H Q I hw
  rw [evalPart_some]
  refine thn (h pins s σ H _ I hw) fun u s1 ⟨x, H1, I1, r1, q1⟩ => ?_
  obtain ⟨i, rfl, q⟩ := q1
  obtain ⟨t, rfl⟩ := r1
  exact ⟨some i, H1, I1, .int i t, q⟩

def SlR (X : Cx) (r : V → Option Int → Option Int → Hp → VK → Prop) : Prop :=
  ∀ (pins : List (Addr × Obj)) (s : Shared) (σ : St) (H : Hp) (x : V) (v vl vu : Value) (lo hi : Option Int) (sl : Addr) (Q : VK), Inv X pins σ H s → RelV x v → s.heap.IsSliceOf sl vl vu .none → IsPart vl lo → IsPart vu hi → r x lo hi H Q →
    ∃ T id, typeLookup (.type T) "__getitem__" = pure (some (.builtin id)) ∧ s.TypeIs v T ∧ wpAny (model X.prog X.w) X.A (getItem v (.ref sl)) (EP X pins σ Q) X.xe s
def tSl (r : V → Option Int → Option Int → Hp → VK → Prop) (te : TE) (tl th : TO) : TE := fun σ H Q => te σ H fun x H1 => tl σ H1 fun l H2 => th σ H2 fun u H3 => r x l u H3 Q
theorem pe_slice {r : V → Option Int → Option Int → Hp → VK → Prop} (hr : SlR X r) (he : PE X e te) (hl : PO X lo tl) (hu : PO X hi th) : PE X (.Subscript e (.Slice lo hi none p2) pos) (tSl r te tl th) := by
  intro pins s σ H Q I h
  refine Subscript_ (thn (he pins s σ H _ I h) fun v s1 ⟨x, H1, I1, r1, q1⟩ => ?_)
  refine wpAny_Slice (thn (hl pins s1 σ H1 _ I1 q1) fun vl s2 ⟨l, H2, I2, pl, q2⟩ => thn (hu pins s2 σ H2 _ I2 q2) fun vu s3 ⟨u, H3, I3, pu, q3⟩ => ?_)
  rw [evalPart_none]
  refine wpAny_pure ?_
  have I4 : Inv X pins σ H3 { s3 with heap := s3.heap.push { cls := .type "slice", data := .fields #[vl, vu, .none] } } := I3.kept (t' := s3.toks) fun b ob q => Heap.get?_push_of_some _ q
  obtain ⟨T, id, hT, ht, hg⟩ := hr pins { s3 with heap := s3.heap.push { cls := .type "slice", data := .fields #[vl, vu, .none] } } σ H3 x v vl vu l u s3.heap.objs.size Q I4 r1 (Heap.IsSliceOf.new ..) pl pu q3
  show wpAny (model X.prog X.w) X.A (subscriptTail e (.Slice lo hi none p2) v (.ref s3.heap.objs.size)) (EP X pins σ Q) X.xe { s3 with heap := s3.heap.push { cls := .type "slice", data := .fields #[vl, vu, .none] } }
  exact tail_any (ops := [.ref s3.heap.objs.size, v]) ht hT hg (by with_unfolding_all rfl)

def cutV (xs : List V) (lo hi : Option Int) : List V := (xs.drop (HT.sIx xs.length 0 lo)).take (HT.sIx xs.length xs.length hi - HT.sIx xs.length 0 lo)
theorem cutV_length (xs : List V) (lo hi : Option Int) : (cutV xs lo hi).length ≤ xs.length := by
  unfold cutV
  rw [List.length_take, List.length_drop]
  omega
end
end L2

namespace L2
open PySem PySem.Spec PyProof.Rows

def ixN (n : Nat) (i : Int) : Option Nat := if 0 ≤ i then (if i < n then some i.toNat else none) else if -(n : Int) ≤ i then some (i + n).toNat else none
def atI {α : Type} (xs : List α) (i : Int) : Option α := (ixN xs.length i).bind fun j => xs[j]?
theorem ixN_seq {n : Nat} {i : Int} {j : Nat} (h : ixN n i = some j) : seqIndex? i n = some j ∧ j < n ∧ -(n : Int) ≤ i ∧ i < n := by
  unfold ixN at h
  by_cases h0 : 0 ≤ i
  · rw [if_pos h0] at h
    by_cases h1 : i < n
    · rw [if_pos h1] at h
      have e : i.toNat = j := Option.some.inj h
      exact ⟨by rw [seqIndex_of h0 h1, e], by omega, by omega, h1⟩
    · rw [if_neg h1] at h; cases h
  · rw [if_neg h0] at h
    by_cases h1 : -(n : Int) ≤ i
    · rw [if_pos h1] at h
      have e : (i + n).toNat = j := Option.some.inj h
      exact ⟨by rw [seqIndex_neg (by omega) h1, e], by omega, h1, by omega⟩
    · rw [if_neg h1] at h; cases h
theorem atI_get {α : Type} {xs : List α} {i : Int} {v : α} (h : atI xs i = some v) : ∃ j, seqIndex? i xs.length = some j ∧ xs[j]? = some v ∧ j < xs.length ∧ -(xs.length : Int) ≤ i ∧ i < xs.length := by
  unfold atI at h
  cases e : ixN xs.length i with
  | none => rw [e] at h; cases h
  | some j =>
    rw [e] at h
    obtain ⟨h1, h2, h3, h4⟩ := ixN_seq e
    exact ⟨j, h1, h, h2, h3, h4⟩
theorem atI_nat {α : Type} {xs : List α} {j : Nat} {v : α} (h : xs[j]? = some v) : atI xs (j : Int) = some v := by
  have hj : j < xs.length := (List.getElem?_eq_some_iff.mp h).1
  have e : ixN xs.length (j : Int) = some j := by
    unfold ixN
    rw [if_pos (by omega), if_pos (by omega)]; simp
  unfold atI; rw [e]; exact h
def PlainIx (b : Expr) : Prop := ∀ o i, subscripted b false o i = operate [o, i] (getItem o i)
def IxR (X : Cx) (r : R2) : Prop :=
  ∀ (value slice : Expr) (pins : List (Addr × Obj)) (s : Shared) (σ : St) (H : Hp) (x y : V) (v u : Value) (Q : VK), Inv X pins σ H s → RelV x v → RelV y u → r x y H Q →
    subscripted slice false v u = operate [v, u] (getItem v u) → wpAny (model X.prog X.w) X.A (subscriptTail value slice v u) (EP X pins σ Q) X.xe s
def MtR (X : Cx) (id : String) (r : V → List V → Hp → VK → Prop) : Prop :=
  ∀ (pins : List (Addr × Obj)) (s : Shared) (σ : St) (H : Hp) (x : V) (xs : List V) (v : Value) (us : List Value) (Q : VK), Inv X pins σ H s → RelV x v → Vals xs us → r x xs H Q →
    wpAny (model X.prog X.w) X.A (call (.builtin id) (v :: us)) (EP X pins σ Q) X.xe s
section
variable {X : Cx} {a b : Expr} {ta tb : TE} {pos : Pos}
theorem pe_ix {r : R2} (hr : IxR X r) (ha : PE X a ta) (hb : PE X b tb) (hs : PlainIx b) : PE X (.Subscript a b pos) (tOp r ta tb) := by
  intro pins s σ H Q I h
  exact Subscript_ (binT ha hb I h fun v u s2 x y H2 I2 rx ry q => hr a b pins s2 σ H2 x y v u Q I2 rx ry q (hs _ _))

def rIxL (K : PySem.W.Frag) : R2 := fun x y H Q => ∃ p xs i v, x = .ref p ∧ y = .int i ∧ SqL K H p xs ∧ atI xs i = some v ∧ Q v H
def rIxT (K : PySem.W.Frag) : R2 := fun x y H Q => ∃ p xs i v, x = .ref p ∧ y = .int i ∧ SqT K H p xs ∧ atI xs i = some v ∧ Q v H
theorem ix_list : IxR X (rIxL X.K) := by
  intro value slice pins s σ H x y v u Q I rx ry h hs
  obtain ⟨p, xs, i, z, rfl, rfl, hq, he, q⟩ := h
  cases rx
  obtain ⟨t, rfl⟩ := ry
  obtain ⟨its, r, pl, hz⟩ := I.list hq
  obtain ⟨j, h1, h2, h3, h4, h5⟩ := atI_get he
  obtain ⟨w, ew, rw'⟩ := r.get h2
  have hl := r.length
  have hn := line63
  have fin : EP X pins σ Q w s := ⟨z, H, I, rw', q⟩
  by_cases h0 : 0 ≤ i
  · have hj : i.toNat = j := by
      rw [seqIndex_of h0 h5] at h1
      exact Option.some.inj h1
    exact item_listR pl.isList h0 (by omega) (by rw [hj]; simpa using ew) fin hs
  · have hj : (i + (its.toArray.size : Int)).toNat = j := by
      rw [seqIndex_neg (by omega) h4] at h1
      rw [List.size_toArray, ← hl]
      exact Option.some.inj h1
    exact subscriptTail_builtinR (x := w) pl.isList.typeIs slot_list_getitem.lookup
      (wpAny_getItem_list_neg (Q := fun r s' => r = w ∧ EP X pins σ Q r s') pl.isList (by omega) (by rw [List.size_toArray] <;> omega) (by omega) (by rw [hj]; simpa using ew) ⟨rfl, fin⟩) hs
theorem ix_tup : IxR X (rIxT X.K) := by
  intro value slice pins s σ H x y v u Q I rx ry h hs
  obtain ⟨p, xs, i, z, rfl, rfl, hq, he, q⟩ := h
  cases rx
  obtain ⟨t, rfl⟩ := ry
  obtain ⟨its, r, pl, hz⟩ := I.tuple hq
  obtain ⟨j, h1, h2, h3, h4, h5⟩ := atI_get he
  obtain ⟨w, ew, rw'⟩ := r.get h2
  have hl := r.length
  have hn := line63
  have fin : EP X pins σ Q w s := ⟨z, H, I, rw', q⟩
  exact subscriptTail_builtinR (x := w) pl.typeIs slot_tuple_getitem.lookup
    (getItem_tuple (j := j) (Q := fun r s' => r = w ∧ EP X pins σ Q r s') pl (by omega) (by omega) (by rw [List.size_toArray, ← hl]; exact h1) (by simpa using ew) ⟨rfl, fin⟩) hs
theorem mapSeq_set (its : List Value) (n j : Nat) (u : Value) : Obj.mapSeq (·.setIfInBounds j u) { cls := .type "list", data := .seq its.toArray n } = { cls := .type "list", data := .seq (its.set j u).toArray n } := by
  simp [Obj.mapSeq]
theorem Inv.lst {pins : List (Addr × Obj)} {σ : St} {H : Hp} {s : Shared} {p : Addr} {xs : List V} (I : Inv X pins σ H s) (h : H p = some (.lst xs)) :
    ∃ (its : List Value) (n : Nat), Vals xs its ∧ s.heap.get? p = some { cls := .type "list", data := .seq its.toArray n } ∧ xs.length ≤ sizeLine := by
  obtain ⟨z, its, n, r, e⟩ := I.hok p _ h
  exact ⟨its, n, r, e, z⟩
theorem Inv.lstUpd {pins : List (Addr × Obj)} {σ : St} {H : Hp} {s : Shared} {p : Addr} {xs ys : List V} {its its' : List Value} {n n' : Nat} {f : Obj → Obj} (I : Inv X pins σ H s) (h : H p = some (.lst xs))
    (ho : s.heap.get? p = some { cls := .type "list", data := .seq its.toArray n }) (hf : f { cls := .type "list", data := .seq its.toArray n } = { cls := .type "list", data := .seq its'.toArray n' }) (r : Vals ys its') (hz : ys.length ≤ sizeLine) (t : Nat) :
    Inv X pins σ (upd H p (.lst ys)) { s with heap := s.heap.update p f, toks := t } := by
  have e : (s.heap.update p f).get? p = some { cls := .type "list", data := .seq its'.toArray n' } := by
    rw [Heap.get?_update_self f ho (by rw [hf] <;> rfl), hf]
  refine I.write (x := p) (e := p) (by rw [h]; trivial) (.inl rfl) (fun b u hb q => (Heap.get?_update_other _ _ (Ne.symm hb)).trans q) ⟨_, e⟩ ?_
  exact ⟨hz, its', n', r, e⟩
def rSetL : V → V → V → Hp → (Hp → Prop) → Prop := fun o i v H Q => ∃ p xs k j, o = .ref p ∧ i = .int k ∧ H p = some (.lst xs) ∧ ixN xs.length k = some j ∧ Q (upd H p (.lst (xs.set j v)))
theorem set_list : PSet X rSetL := by
  intro pins s σ H o i v ov iv u Q I ro ri rv h
  obtain ⟨p, xs, k, j, rfl, rfl, hp, hj, q⟩ := h
  cases ro
  obtain ⟨t, rfl⟩ := ri
  obtain ⟨its, n, r, ho, hz⟩ := I.lst hp
  obtain ⟨h1, h2, h3, h4⟩ := ixN_seq hj
  have hl := r.length
  have hn := line63
  have I' : Inv X pins σ (upd H p (.lst (xs.set j v))) { s with heap := s.heap.update p (Obj.mapSeq (·.setIfInBounds j u)) } :=
    I.lstUpd hp ho (mapSeq_set its n j u) (r.set rv j) (by rw [List.length_set]; exact hz) s.toks
  by_cases h0 : 0 ≤ k
  · have hk : k.toNat = j := by
      rw [seqIndex_of h0 h4] at h1
      exact Option.some.inj h1
    exact PySem.W.ki_setAt ho h0 (by omega) (by rw [List.size_toArray, ← hl]; exact h4) (by rw [hk]; exact ⟨_, I', q⟩)
  · have hk : (k + (its.toArray.size : Int)).toNat = j := by
      rw [seqIndex_neg (by omega) h3] at h1
      rw [List.size_toArray, ← hl]
      exact Option.some.inj h1
    exact PySem.W.ki_setBack ho (by omega) (by rw [List.size_toArray, ← hl]; exact h3) (by omega) (by rw [hk]; exact ⟨_, I', q⟩)

theorem slice_bounds (lo hi : Option Int) (n : Nat) : (sliceBounds lo hi none n).1 = ((HT.sIx n 0 lo : Nat) : Int) ∧ (sliceBounds lo hi none n).2.1 = ((HT.sIx n n hi : Nat) : Int) ∧ (sliceBounds lo hi none n).2.2 = 1 := by
  refine ⟨?_, ?_, rfl⟩
  · cases lo with
    | none => simp [sliceBounds, HT.sIx]
    | some i =>
      simp only [sliceBounds, HT.sIx, Option.getD_none, show (1 : Int) > 0 by decide, if_true]
      by_cases h : i < 0
      · simp only [h, if_true] <;> omega
      · simp only [h, if_false] <;> omega
  · cases hi with
    | none => simp [sliceBounds, HT.sIx]
    | some i =>
      simp only [sliceBounds, HT.sIx, Option.getD_none, show (1 : Int) > 0 by decide, if_true]
      by_cases h : i < 0
      · simp only [h, if_true] <;> omega
      · simp only [h, if_false] <;> omega
theorem slicePick_cut (its : List Value) (lo hi : Option Int) : slicePick its.toArray lo hi none = ((its.drop (HT.sIx its.length 0 lo)).take (HT.sIx its.length its.length hi - HT.sIx its.length 0 lo)).toArray := by
  obtain ⟨h1, h2, h3⟩ := slice_bounds lo hi its.toArray.size
  unfold slicePick
  rw [h1, h2, h3]
  simp only [sliceRange_one, pick_run, List.size_toArray] <;> rfl
def rSlL (K : PySem.W.Frag) : V → Option Int → Option Int → Hp → VK → Prop := fun x lo hi H Q => ∃ a xs, x = .ref a ∧ SqL K H a xs ∧ ∀ p, H p = none → Q (.ref p) (upd H p (.lst (cutV xs lo hi)))
theorem sl_list : SlR X (rSlL X.K) := by
  intro pins s σ H x v vl vu lo hi sl Q I rx hs pl pu h
  obtain ⟨a, xs, rfl, hx, q⟩ := h
  cases rx
  obtain ⟨its, r, ht, hz⟩ := I.list hx
  have hlen := r.length
  refine ⟨"list", _, slot_list_getitem.lookup, ht.isList.typeIs, ?_⟩
  refine wpAny_getItem_list_slice ht.isList hs pl pu .none (by simp) ?_ (by rw [List.size_toArray] <;> omega)
  rw [slicePick_cut, ← hlen]
  refine ⟨.ref s.heap.objs.size, _, I.laid (t' := s.toks) (o := .lst (cutV xs lo hi)) (fun b ob q => Heap.get?_push_of_some _ q) (Nat.le_refl _) ?_, rfl, q _ (I.hok.fresh (Nat.le_refl _))⟩
  exact ⟨Nat.le_trans (cutV_length xs lo hi) hz, _, 0, (r.drop (HT.sIx xs.length 0 lo)).take (HT.sIx xs.length xs.length hi - HT.sIx xs.length 0 lo), Heap.get?_push_size _ rfl⟩

theorem call_len_seq : CallR X (.builtin "len") (fun xs H Q => ∃ p ys, xs = [.ref p] ∧ (SqL X.K H p ys ∨ SqT X.K H p ys) ∧ Q (.int ys.length) H) := by
  intro pins s σ H xs us Q I r h
  obtain ⟨p, ys, rfl, hq, q⟩ := h
  obtain ⟨u, rfl, rx⟩ := vals1 r
  cases rx
  have hn := line63
  rcases hq with hq | hq
  · obtain ⟨its, r', pl, hz⟩ := I.list hq
    have hlen := r'.length
    exact Calls.call_len_list pl.isList (by simp only [List.size_toArray] <;> omega) ⟨.int ys.length, H, I.tok _, ⟨s.toks + 1, by rw [List.size_toArray, hlen]⟩, q⟩
  · obtain ⟨its, r', pl, hz⟩ := I.tuple hq
    have hlen := r'.length
    exact len_tuple pl (by simp only [List.size_toArray] <;> omega) ⟨.int ys.length, H, I.tok _, ⟨s.toks + 1, by rw [List.size_toArray, hlen]⟩, q⟩
theorem call_list_of : CallR X (.type "list") (fun xs H Q => ∃ p ys, xs = [.ref p] ∧ (SqL X.K H p ys ∨ SqT X.K H p ys) ∧ ∀ l, H l = none → Q (.ref l) (upd H l (.lst ys))) := by
  intro pins s σ H xs us Q I r h
  obtain ⟨p, ys, rfl, hq, q⟩ := h
  obtain ⟨u, rfl, rx⟩ := vals1 r
  cases rx
  have fin : ∀ (its : List Value), Vals ys its → ys.length ≤ sizeLine → ∀ (h' : Heap) (c' : Nat), (∀ b o', s.heap.get? b = some o' → h'.get? b = some o') →
      h'.get? s.heap.objs.size = some { cls := .type "list", dict := none, data := .seq its.toArray c', slots := #[] } → EP X pins σ Q (.ref s.heap.objs.size) { s with heap := h' } := fun its r' hz h' c' kp e =>
    ⟨.ref s.heap.objs.size, _, I.laid (t' := s.toks) kp (Nat.le_refl _) (show ObjOk X.prog X.w _ h' _ (.lst ys) from ⟨hz, its, c', r', e⟩), rfl, q _ (I.hok.fresh (Nat.le_refl _))⟩
  rcases hq with hq | hq
  · obtain ⟨its, r', pl, hz⟩ := I.list hq
    have hlen := r'.length
    obtain ⟨o, ho, hc, n, hd⟩ := pl.isList
    exact call_list_seq p (.inl rfl) ho hc hd (fun h' c' kp e => fin its r' hz h' c' kp e) (by simp only [List.size_toArray] <;> omega)
  · obtain ⟨its, r', pl, hz⟩ := I.tuple hq
    have hlen := r'.length
    obtain ⟨o, ho, hc, n, hd⟩ := pl
    exact call_list_seq p (.inr rfl) ho hc hd (fun h' c' kp e => fin its r' hz h' c' kp e) (by simp only [List.size_toArray] <;> omega)
def tyV (K : PySem.W.Frag) (T : String) (x : V) (H : Hp) : Prop := match x with
  | .str _ => T = "str"
  | .int _ => T = "int"
  | .ref p => (T = "list" ∧ ∃ xs, SqL K H p xs) ∨ (T = "tuple" ∧ ∃ o, K.lookup p = some o ∧ o.cls = .type "tuple" ∧ o.dict = none) ∨
      (T = "dict" ∧ ((∃ kvs, H p = some (.dK kvs)) ∨ ∃ kvs, H p = some (.dT kvs))) ∨ (T = "set" ∧ ∃ S n, H p = some (.set S n))
  | _ => False
theorem tyV_is {pins : List (Addr × Obj)} {σ : St} {H : Hp} {s : Shared} {T : String} {x : V} {v : Value} (I : Inv X pins σ H s) (r : RelV x v) (ty : tyV X.K T x H) :
    s.TypeIs v T ∧ ∀ a, v = .ref a → ∃ ob, s.heap.get? a = some ob ∧ ob.dict = none := by
  cases x with
  | str z =>
    obtain ⟨t, rfl⟩ := r
    cases (show T = "str" from ty)
    exact ⟨typeIs_str s z t, fun _ e => nomatch e⟩
  | int i =>
    obtain ⟨t, rfl⟩ := r
    cases (show T = "int" from ty)
    exact ⟨typeIs_int s i t, fun _ e => nomatch e⟩
  | ref p =>
    cases r
    rcases ty with ⟨rfl, xs, hq⟩ | ⟨rfl, o, hk, hc, hd⟩ | ⟨rfl, hk⟩ | ⟨rfl, S, n, hk⟩
    · obtain ⟨its, _, pl, _⟩ := I.list hq
      refine ⟨pl.isList.typeIs, fun a e => ?_⟩
      cases e
      obtain ⟨o, n, e, c, hd, _⟩ := pl
      exact ⟨o, e, hd⟩
    · refine ⟨⟨o, I.kIn p o hk, hc⟩, fun a e => ?_⟩
      cases e
      exact ⟨o, I.kIn _ o hk, hd⟩
    · have z : ∃ o, s.heap.get? p = some o ∧ o.ExactDict := by
        rcases hk with ⟨kvs, hk⟩ | ⟨kvs, hk⟩
        · obtain ⟨_, _, _, _, o, _, _, e, ex, _⟩ := I.hok p _ hk
          exact ⟨o, e, ex⟩
        · obtain ⟨_, _, _, _, o, _, _, e, ex, _⟩ := I.hok p _ hk
          exact ⟨o, e, ex⟩
      obtain ⟨o, e, ex⟩ := z
      refine ⟨⟨o, e, ex.1⟩, fun a e2 => ?_⟩
      cases e2
      exact ⟨o, e, ex.2.1⟩
    · obtain ⟨o, _, _, _, e, ex, _⟩ := I.hok p _ hk
      refine ⟨⟨o, e, ex.1⟩, fun a e2 => ?_⟩
      cases e2
      exact ⟨o, e, ex.2.1⟩
  | _ => exact False.elim ty
def tBM (K : PySem.W.Frag) (T : String) (r : V → List V → Hp → VK → Prop) (to : TE) (t : TA) : TE := fun σ H Q => to σ H fun x H1 => tyV K T x H1 ∧ t σ H1 fun xs H2 => r x xs H2 Q
variable {o e : Expr} {es : List Expr} {to : TE} {t : TA} {name : Str} {apos cpos : Pos} {T id : String} {r : V → List V → Hp → VK → Prop}
theorem pe_bm (pa : PlainAttrs T) (slot : Slot T name id) (hty : typeOf (.builtin id) = pure (.type "method_descriptor")) (hm : MtR X id r) (ho : PE X o to) (ha : PA X (e :: es) t)
    (hbase : attributeBase o name X.env (eval o X.env) = eval o X.env := by rfl)
    (hfew : ((backTo cpos (starEach (e :: es) X.env)).all (fun x => !x.1) && (backToKw cpos (keywordEach [] X.env)).all (fun x => x.1.isSome)
      && decide ((e :: es).length + ([] : List Keyword).length + (if ([] : List Keyword).isEmpty then 0 else 1) < 30)) = true := by rfl)
    (hline : (apos.endLine == cpos.line) = true := by rfl) (hs : starEach (e :: es) X.env = (false, eval e X.env) :: starEach es X.env := by rfl) (hplain : (backTo cpos (starEach es X.env)).any (·.1) = false := by rfl) :
    PE X (.Call (.Attribute o name apos) (e :: es) [] cpos) (tBM X.K T r to t) := by
  intro pins s σ H Q I h
  refine wpAny_Call_method_late hbase hfew hline rfl (thn (ho pins s σ H _ I h) fun v s1 ⟨x, H1, I1, r1, ty, q1⟩ => ?_)
  obtain ⟨h1, h2⟩ := tyV_is I1 r1 ty
  refine ⟨T, id, pa, slot, hty, h1, h2, ?_⟩
  have hA := ha cpos pins s1 σ H1 _ I1 q1
  rw [hs] at hA ⊢
  refine Calls.callWith_builtin (by show (false || (backTo cpos (starEach es X.env)).any (·.1)) = false; rw [hplain] <;> rfl) (Calls.evalArgs_plain ?_)
  exact thn hA fun us s2 ⟨vs, H2, I2, r2, q2⟩ => hm pins s2 σ H2 x vs v us Q I2 r1 r2 q2
end
end L2

namespace L2
open PySem PySem.Spec PyProof.Rows

def MtM (X : Cx) (id : String) (r : V → List V → Hp → VK → Prop) : Prop :=
  ∀ (pins : List (Addr × Obj)) (s : Shared) (σ : St) (H : Hp) (x : V) (xs : List V) (v : Value) (us : List Value) (Q : VK), Inv X pins σ H s → RelV x v → Vals xs us → r x xs H Q →
    wpAny (model X.prog X.w) X.A (call (.builtin id) (v :: us)) (EP X pins σ Q) X.xe s

theorem Vals.one : ∀ {x : V} {us : List Value}, Vals [x] us → ∃ u, us = [u] ∧ RelV x u
  | _, _, .cons r .nil => ⟨_, rfl, r⟩
theorem Vals.rep {xs : List V} {us : List Value} (h : Vals xs us) : ∀ k : Nat, Vals (List.replicate k xs).flatten (List.replicate k us).flatten
  | 0 => .nil
  | k + 1 => by
    rw [List.replicate_succ, List.replicate_succ, List.flatten_cons, List.flatten_cons]
    exact Vals.append h (Vals.rep h k)
theorem foldl_rep (its : List Value) : ∀ (k : Nat) (acc : List Value),
    List.foldl (fun x1 x2 => x1 ++ x2) acc.toArray (List.replicate k its.toArray) = (acc ++ (List.replicate k its).flatten).toArray
  | 0, acc => by simp
  | k + 1, acc => by
    have e : acc.toArray ++ its.toArray = (acc ++ its).toArray := by simp
    have e2 : (acc ++ its) ++ (List.replicate k its).flatten = acc ++ (List.replicate (k + 1) its).flatten := by
      rw [List.replicate_succ, List.flatten_cons, List.append_assoc]
    rw [← e2, ← foldl_rep its k (acc ++ its), ← e, List.replicate_succ, List.foldl_cons]

section
variable {X : Cx} {pins : List (Addr × Obj)} {σ : St} {H : Hp} {s : Shared} {l b : Addr} {xs ys zs : List V}

theorem Inv.lset {its its' : List Value} {n : Nat} {f : Array Value → Array Value} {t' : Nat} (I : Inv X pins σ H s) (hH : H l = some (.lst xs))
    (e : s.heap.get? l = some { cls := .type "list", data := .seq its.toArray n }) (hf : f its.toArray = its'.toArray) (hv : Vals ys its') (hz : ys.length ≤ sizeLine) :
    Inv X pins σ (upd H l (.lst ys)) { s with heap := s.heap.update l (Obj.mapSeq f), toks := t' } := by
  have q := PySem.IsL.update e f
  rw [hf] at q
  refine I.write (x := l) (e := l) (by rw [hH]; exact trivial) (.inl rfl) (fun b' u hb hu => (Heap.get?_update_other s.heap (Obj.mapSeq f) (Ne.symm hb)).trans hu) ⟨_, q⟩ ?_
  exact ⟨hz, its', _, hv, q⟩
theorem Inv.lnew {its : List Value} {t' : Nat} (I : Inv X pins σ H s) (hv : Vals ys its) (hz : ys.length ≤ sizeLine) :
    Inv X pins σ (upd H s.heap.objs.size (.lst ys)) { s with heap := s.heap.push { cls := .type "list", data := .seq its.toArray }, toks := t' } :=
  I.laid (fun _ _ q => Heap.get?_push_of_some _ q) (Nat.le_refl _) ⟨hz, its, 0, hv, Heap.get?_push_size _ rfl⟩
theorem Inv.fresh (I : Inv X pins σ H s) : H s.heap.objs.size = none := I.hok.fresh (Nat.le_refl _)
theorem Inv.lstM (I : Inv X pins σ H s) (hH : H l = some (.lst xs)) : xs.length ≤ sizeLine ∧ ∃ (its : List Value) (n : Nat), Vals xs its ∧ xs.length = its.length ∧ s.heap.get? l = some { cls := .type "list", data := .seq its.toArray n } := by
  obtain ⟨z, its, n, r, e⟩ := I.hok l _ hH
  exact ⟨z, its, n, r, r.length, e⟩

theorem notLongL {n : Nat} (h : n ≤ sizeLine) : Builtin.List.listTooLong n = false := by
  unfold Builtin.List.listTooLong
  exact decide_eq_false (by omega)
end

section
variable {X : Cx}

def rAppend : V → List V → Hp → VK → Prop := fun x vs H Q => ∃ l xs y, x = .ref l ∧ vs = [y] ∧ H l = some (.lst xs) ∧ xs.length < sizeLine ∧ Q .non (upd H l (.lst (xs ++ [y])))
theorem mt_append : MtM X "list.append" rAppend := by
  intro pins s σ H x vs v us Q I rx rv h
  obtain ⟨l, xs, y, rfl, rfl, hH, hz, q⟩ := h
  cases rx
  obtain ⟨u, rfl, ru⟩ := rv.one
  obtain ⟨z, its, n, r, hl, e⟩ := I.lstM hH
  refine call_meets F.slot_list_append ⟨_, e, rfl⟩ F.entry_list_append (F.args_list_append_2 _ _) (PySem.list_append l its.toArray n u (by rw [List.size_toArray]; omega)) ⟨e, ?_⟩
  refine ⟨.non, _, I.lset (its' := its ++ [u]) hH e (by simp) (r.append (.cons ru .nil)) ?_, rfl, q⟩
  rw [List.length_append, List.length_singleton]
  omega

def rExtend : V → List V → Hp → VK → Prop := fun x vs H Q => ∃ l b xs zs, x = .ref l ∧ vs = [.ref b] ∧ H l = some (.lst xs) ∧ H b = some (.lst zs) ∧ xs.length + zs.length ≤ sizeLine ∧ Q .non (upd H l (.lst (xs ++ zs)))
theorem mt_extend : MtM X "list.extend" rExtend := by
  intro pins s σ H x vs v us Q I rx rv h
  obtain ⟨l, b, xs, zs, rfl, rfl, hH, hB, hz, q⟩ := h
  cases rx
  obtain ⟨u, rfl, ru⟩ := rv.one
  cases ru
  obtain ⟨z, its, n, r, hl, e⟩ := I.lstM hH
  obtain ⟨z2, its2, n2, r2, hl2, e2⟩ := I.lstM hB
  have hsz : its.toArray.size + its2.toArray.size ≤ sizeLine := by rw [List.size_toArray, List.size_toArray]; omega
  have hlong : ¬ (!its.toArray.isEmpty && Builtin.List.listTooLong (its.toArray.size + its2.toArray.size)) = true := by
    rw [notLongL hsz, Bool.and_false]
    exact Bool.false_ne_true
  refine call_meets F.slot_list_extend ⟨_, e, rfl⟩ F.entry_list_extend (F.args_list_extend_2 _ _)
    (AutoSeq1.list_extend_list_list_0 l its.toArray n b its2.toArray n2 hlong (by rw [List.size_toArray]; omega) (by omega)) ⟨e, e2, ?_⟩
  refine ⟨.non, _, I.lset (its' := its ++ its2) hH e (by simp) (r.append r2) ?_, rfl, q⟩
  rw [List.length_append]
  omega

def rCat : R2 := fun x y H Q => ∃ l b xs zs, x = .ref l ∧ y = .ref b ∧ H l = some (.lst xs) ∧ H b = some (.lst zs) ∧ xs.length + zs.length ≤ sizeLine ∧ ∀ p, H p = none → Q (.ref p) (upd H p (.lst (xs ++ zs)))
theorem op_cat : OpR X (binaryOp .Add) rCat := by
  intro pins s σ H x y v u Q I rx ry h
  obtain ⟨l, b, xs, zs, rfl, rfl, hH, hB, hz, q⟩ := h
  cases rx
  cases ry
  obtain ⟨z, its, n, r, hl, e⟩ := I.lstM hH
  obtain ⟨z2, its2, n2, r2, hl2, e2⟩ := I.lstM hB
  refine PySem.P.add_list e e2 ?_ (by rw [List.size_toArray, List.size_toArray]; omega)
  have ea : its.toArray ++ its2.toArray = (its ++ its2).toArray := by simp
  rw [ea]
  exact ⟨.ref _, _, I.lnew (t' := s.toks) (r.append r2) (by rw [List.length_append]; omega), rfl, q _ I.fresh⟩
def rRep : R2 := fun x y H Q => ∃ l k xs, x = .ref l ∧ y = .int k ∧ H l = some (.lst xs) ∧ -(2 ^ 63) ≤ k ∧ k < 2 ^ 63 ∧ xs.length * k.toNat ≤ sizeLine ∧
  ∀ p, H p = none → Q (.ref p) (upd H p (.lst (List.replicate k.toNat xs).flatten))
theorem len_rep {α : Type} (xs : List α) (k : Nat) : (List.replicate k xs).flatten.length = k * xs.length := by
  induction k with
  | zero => simp
  | succ k ih => rw [List.replicate_succ, List.flatten_cons, List.length_append, ih, Nat.succ_mul, Nat.add_comm]
theorem op_rep : OpR X (binaryOp .Mult) rRep := by
  intro pins s σ H x y v u Q I rx ry h
  obtain ⟨l, k, xs, rfl, rfl, hH, h1, h2, hz, q⟩ := h
  cases rx
  obtain ⟨t, rfl⟩ := ry
  obtain ⟨z, its, n, r, hl, e⟩ := I.lstM hH
  have hlen : its.toArray.size * k.toNat ≤ sizeLine := by rw [List.size_toArray, ← hl]; exact hz
  have hcap : ¬ its.toArray.size * k.toNat > (2 ^ 63 - 1) / 8 := by
    have : (sizeLine : Nat) ≤ (2 ^ 63 - 1) / 8 := by decide
    omega
  have hfit : ¬ (!Builtin.List.listFitsIndex k) = true := by
    rw [fitsIndex_both h1 h2]
    exact Bool.false_ne_true
  have hlong : ¬ Builtin.List.listTooLong (its.toArray.size * k.toNat) = true := by
    rw [notLongL hlen]
    exact Bool.false_ne_true
  have hnew : List.foldl (fun x1 x2 => x1 ++ x2) #[] (List.replicate (if its.toArray.isEmpty = true then 0 else k.toNat) its.toArray) = (List.replicate k.toNat its).flatten.toArray := by
    have f0 : ∀ m : Nat, List.foldl (fun x1 x2 => x1 ++ x2) #[] (List.replicate m its.toArray) = (List.replicate m its).flatten.toArray := fun m => by
      have := foldl_rep its m []
      rw [List.nil_append] at this
      exact this
    rw [f0]
    cases its with
    | nil => simp
    | cons a r' => rw [if_neg (by simp)]
  refine wpAny_binaryOp_repeat_ref (T := "list") (U := "int") (by decide) ⟨_, e, rfl⟩ (fun s' => typeIs_int s' k t) noFill_list_mul F.fills_int_mul F.slot_int_rmul repeat_list F.slot_int_index.lookup
    (call_meets F.slot_int_rmul (typeIs_int s k t) F.entry_int_rmul (F.args_int_rmul_2 _ _) (int___rmul___int_list k t l its.toArray n)
      ⟨e, rfl, ⟨_, e, rfl⟩, call_meets F.slot_list_mul ⟨_, e, rfl⟩ F.entry_list_mul (F.args_list_mul_2 _ _) (AutoListH.list___mul___list_int_3 l its.toArray n k t hfit hcap hlong) ⟨e, ?_⟩⟩)
  rw [hnew]
  exact ⟨.ref _, _, I.lnew (t' := s.toks) (r.rep k.toNat) (by rw [len_rep, Nat.mul_comm]; exact hz), rfl, q _ I.fresh⟩

end

section
variable {prog : Program} {w : World} {A : Around} {E : Value → Shared → Prop} {s : Shared}
end

section
variable {X : Cx}
end
end L2

namespace L2
open PySem PySem.Spec PyProof.Rows

theorem Vals.ints : ∀ {ns : List Int} {us : List Value}, Vals (ns.map V.int) us → IntsAre us ns
  | [], us, h => by
    rw [List.map_nil] at h
    cases h
    exact IntsAre.nil
  | n :: ns, us, h => by
    rw [List.map_cons] at h
    cases h with
    | cons r t =>
      obtain ⟨k, rfl⟩ := r
      exact IntsAre.cons n k (Vals.ints t)
theorem Vals.bls : ∀ {bs : List Bool} {us : List Value}, Vals (bs.map V.bl) us → us = bs.map Value.bool
  | [], us, h => by
    rw [List.map_nil] at h
    cases h
    rfl
  | b :: bs, us, h => by
    rw [List.map_cons] at h
    cases h with
    | cons r t =>
      cases r
      rw [Vals.bls t, List.map_cons]
theorem Vals.ref1 {a : Addr} {us : List Value} (r : Vals [V.ref a] us) : us = [Value.ref a] := by
  cases r with
  | cons r t =>
    cases t
    cases r
    rfl
section
variable {prog : Program} {w : World} {A : Around} {E : Value → Shared → Prop} {s : Shared} {l : Addr} {its : List Value} {ns : List Int} {Q : Value → Shared → Prop}
theorem sum_raw (hh : A.handled = none) (hl : s.heap.IsList l its.toArray) (hi : IntsAre its ns)
    (h : ∀ h' tk t', (∀ b o, s.heap.get? b = some o → h'.get? b = some o) → Q (.int ns.sum t') { s with heap := h', toks := tk }) : wpAny (model prog w) A (call (.builtin "sum") [.ref l]) Q E s := by
  obtain ⟨xs, e⟩ := hi.allInts.items
  have hn : numsOf (intItems xs).toList = ns := by rw [← e]; exact hi.numsOf
  rw [nums_intItems] at hn
  rw [e] at hl
  refine PySem.sum_intListG hh hl fun h' tk t' hk => ?_
  have := h h' tk t' hk
  rw [preSum_eq, List.take_of_length_le (by simp), hn]; exact this
theorem max_raw (hh : A.handled = none) (hl : s.heap.IsList l its.toArray) (hi : IntsAre its ns) (hne : 0 < ns.length)
    (h : ∀ h' tk M t', (∀ b o, s.heap.get? b = some o → h'.get? b = some o) → M ∈ ns → (∀ a, a ∈ ns → a ≤ M) → Q (.int M t') { s with heap := h', toks := tk }) : wpAny (model prog w) A (call (.builtin "max") [.ref l]) Q E s := by
  obtain ⟨xs, e⟩ := hi.allInts.items
  have hn : numsOf (intItems xs).toList = ns := by rw [← e]; exact hi.numsOf
  rw [nums_intItems] at hn
  subst hn
  rw [e] at hl
  have hsz : 0 < xs.size := by simpa using hne
  refine PySem.max_intList hh hl hsz fun v h' tk hv hk => ?_
  obtain ⟨t, rfl⟩ := intItems_at hv
  obtain ⟨h1, h2⟩ := argBest_gt (numAt xs) (xs.size - 1)
  refine h h' tk _ t hk ?_ fun a ha => ?_
  · rw [numAt_eq]; exact PySem.getD_mem (by rw [List.length_map, Array.length_toList]; omega)
  · obtain ⟨j, hj, rfl⟩ := mem_getD ha
    rw [List.length_map, Array.length_toList] at hj
    rw [← numAt_eq]; exact h2 j (by omega)
end

section
variable {X : Cx}
def rSum (K : PySem.W.Frag) : List V → Hp → VK → Prop := fun vs H Q => ∃ (a : Addr) (ns : List Int), vs = [V.ref a] ∧ SqL K H a (ns.map V.int) ∧ Q (.int ns.sum) H
def rMax (K : PySem.W.Frag) : List V → Hp → VK → Prop := fun vs H Q => ∃ (a : Addr) (ns : List Int), vs = [V.ref a] ∧ SqL K H a (ns.map V.int) ∧ 0 < ns.length ∧ ∀ m, m ∈ ns → (∀ y, y ∈ ns → y ≤ m) → Q (.int m) H
theorem cr_sum (hc : X.calm = true) : CallR X (.builtin "sum") (rSum X.K) := by
  intro pins s σ H vs us Q I r h
  obtain ⟨a, ns, rfl, hs, q⟩ := h
  obtain ⟨its, rv, hl, _⟩ := I.list hs
  rw [Vals.ref1 r]
  exact sum_raw (I.ok.hd hc) hl.isList rv.ints fun h' tk t' hk => ⟨.int _, H, I.kept hk, ⟨_, rfl⟩, q⟩
theorem cr_max (hc : X.calm = true) : CallR X (.builtin "max") (rMax X.K) := by
  intro pins s σ H vs us Q I r h
  obtain ⟨a, ns, rfl, hs, hne, q⟩ := h
  obtain ⟨its, rv, hl, _⟩ := I.list hs
  rw [Vals.ref1 r]
  exact max_raw (I.ok.hd hc) hl.isList rv.ints hne fun h' tk m t' hk h1 h2 => ⟨.int _, H, I.kept hk, ⟨_, rfl⟩, q m h1 h2⟩
end

section
variable {X : Cx}
end

section
variable {X : Cx}
end

theorem iter_any {prog : Program} {w : World} {A : Around} {E : Value → Shared → Prop} {s : Shared} {l : Addr} {items : Array Value} {Q : Value → Shared → Prop} (hl : s.heap.IsList l items)
    (h : ∀ s₂ : Shared, s₂ = { s with heap := s.heap.push { cls := .type "list_iterator", data := .fields #[.ref l, .int 0 0] } } →
      (s₂.heap.IsListIter s.heap.objs.size l 0 ∧ s₂.heap.IsList l items) → l ≠ s.heap.objs.size → Q (.ref s.heap.objs.size) s₂) : wpAny (model prog w) A (pyIter (.ref l)) Q E s := by
  have hlt : l < s.heap.objs.size := by obtain ⟨_, e, _⟩ := hl; exact Heap.lt_size e
  exact wpAny_pyIter_list hl (h _ rfl ⟨⟨_, Heap.get?_push_size _ rfl, rfl, rfl⟩, hl.push _⟩ (Nat.ne_of_lt hlt))
theorem truth_bools {prog : Program} {w : World} {A : Around} {bs : List Bool} {its : List Value} (e : its = bs.map Value.bool) :
    TruthOf prog w A (fun i v => its.toArray[i]? = some v) (fun i => bs.getD i false) := fun i v s Q E hv hq => by
  have hv' : its[i]? = some v := by simpa using hv
  rw [e, List.getElem?_map] at hv'
  obtain ⟨b, hb, rfl⟩ := Option.map_eq_some_iff.mp hv'
  have hg : bs.getD i false = b := by rw [List.getD_eq_getElem?_getD, hb] <;> rfl
  have hq' : Q (bs.getD i false) s := hq
  rw [hg] at hq'
  exact wpAny_truthy_bool hq'
theorem any_range : ∀ bs : List Bool, (List.range bs.length).any (fun i => bs.getD i false) = bs.any id
  | [] => rfl
  | b :: bs => by
    rw [List.length_cons, List.range_succ_eq_map, List.any_cons, List.any_map, List.any_cons, ← any_range bs]
    all_goals rfl
theorem all_range : ∀ bs : List Bool, (List.range bs.length).all (fun i => bs.getD i false) = bs.all id
  | [] => rfl
  | b :: bs => by
    rw [List.length_cons, List.range_succ_eq_map, List.all_cons, List.all_map, List.all_cons, ← all_range bs]
    all_goals rfl
section
variable {X : Cx}
def rAny (K : PySem.W.Frag) : List V → Hp → VK → Prop := fun vs H Q => ∃ (a : Addr) (bs : List Bool), vs = [V.ref a] ∧ SqL K H a (bs.map V.bl) ∧ Q (.bl (bs.any id)) H
def rAll (K : PySem.W.Frag) : List V → Hp → VK → Prop := fun vs H Q => ∃ (a : Addr) (bs : List Bool), vs = [V.ref a] ∧ SqL K H a (bs.map V.bl) ∧ Q (.bl (bs.all id)) H
theorem cr_any (hc : X.calm = true) : CallR X (.builtin "any") (rAny X.K) := by
  intro pins s σ H vs us Q I r h
  obtain ⟨a, bs, rfl, hs, q⟩ := h
  obtain ⟨its, rv, hl, _⟩ := I.list hs
  rw [Vals.ref1 r]
  have hb := rv.bls
  refine call_any_walk (iter_any hl.isList fun s₂ e2 st hne => ?_)
  subst e2
  refine ⟨_, _, _, _, _, _, _, rfl, Walks.list (A := X.A.in1) (I.ok.hd hc) _ a hne its.toArray, st, truth_bools hb, fun h' tk hk => ?_⟩
  refine ⟨.bl _, H, I.kept fun b o eo => hk b o (fun hmem => ?_) (Heap.get?_push_of_some _ eo), ?_, q⟩
  · rcases List.mem_cons.mp hmem with e1 | hmem
    · exact absurd (e1 ▸ Heap.lt_size eo) (Nat.lt_irrefl _)
    · cases hmem
  · show Value.bool _ = Value.bool _
    rw [← any_range, hb, List.size_toArray, List.length_map]
theorem cr_all (hc : X.calm = true) : CallR X (.builtin "all") (rAll X.K) := by
  intro pins s σ H vs us Q I r h
  obtain ⟨a, bs, rfl, hs, q⟩ := h
  obtain ⟨its, rv, hl, _⟩ := I.list hs
  rw [Vals.ref1 r]
  have hb := rv.bls
  refine call_all_walk (iter_any hl.isList fun s₂ e2 st hne => ?_)
  subst e2
  refine ⟨_, _, _, _, _, _, _, rfl, Walks.list (A := X.A.in1) (I.ok.hd hc) _ a hne its.toArray, st, truth_bools hb, fun h' tk hk => ?_⟩
  refine ⟨.bl _, H, I.kept fun b o eo => hk b o (fun hmem => ?_) (Heap.get?_push_of_some _ eo), ?_, q⟩
  · rcases List.mem_cons.mp hmem with e1 | hmem
    · exact absurd (e1 ▸ Heap.lt_size eo) (Nat.lt_irrefl _)
    · cases hmem
  · show Value.bool _ = Value.bool _
    rw [← all_range, hb, List.size_toArray, List.length_map]
end

section
variable {X : Cx} {pins : List (Addr × Obj)} {σ : St} {H : Hp} {s : Shared}
end
section
variable {X : Cx}
end
end L2

namespace L2
open PySem PySem.Spec PyProof.Rows
abbrev CellAt (h : Heap) (c : Addr) (v : Option Value) : Prop := h.IsCell c v
def relS (scope sc : Scope) : Scope :=
  { scope with names := scope.names.map fun (n, k) => if (k == .free && sc.kind == .function && sc.names.lookup n == some .cell) then (n, .cell) else (n, k) }

def cloFrom (cells : List (Str × Addr)) : List (Str × NameKind) → List (Str × Addr) → List (Str × Addr)
  | [], acc => acc
  | (n, k) :: r, acc => if k == .free then cloFrom cells r ((n, (cells.lookup n).getD 0) :: acc) else cloFrom cells r acc

theorem closure_loop (env : Env) (f : Str × NameKind → List (Str × Addr) → Sem (ForInStep (List (Str × Addr))))
    (hf : ∀ n k c, f (n, k) c = if k == .free then (do let a ← cellOf env n; pure (.yield ((n, a) :: c))) else pure (.yield c)) :
    ∀ (names : List (Str × NameKind)) (acc : List (Str × Addr)), (∀ y ∈ names, y.2 = .free → ∃ c, env.cells.lookup y.1 = some c) → forIn names acc f = pure (cloFrom env.cells names acc)
  | [], acc, _ => by rw [List.forIn_nil]; rfl
  | (n, k) :: r, acc, h => by
    rw [List.forIn_cons, hf]
    have ih := fun acc => closure_loop env f hf r acc fun y hy => h y (List.mem_cons_of_mem _ hy)
    unfold cloFrom
    by_cases hk : (k == NameKind.free) = true
    · rw [if_pos hk, if_pos hk]
      obtain ⟨c, hc⟩ := h (n, k) List.mem_cons_self (by simpa using hk)
      have e : cellOf env n = pure c := by unfold cellOf; rw [hc]
      rw [e]
      have e2 : (env.cells.lookup n).getD 0 = c := by rw [hc]; rfl
      rw [e2]
      exact ih _
    · rw [if_neg hk, if_neg hk]
      exact ih _
theorem closure_ok {scope : Scope} {env : Env} (h : ∀ y ∈ scope.names, y.2 = .free → ∃ c, env.cells.lookup y.1 = some c) : closureFor scope env = pure (cloFrom env.cells scope.names []) := by
  simp only [closureFor]
  rw [closure_loop env _ (fun n k c => rfl) scope.names [] h]
  rfl

theorem mem_lookup {α : Type} : ∀ {l : List (Str × α)} {n : Str} {c : α}, (n, c) ∈ l → ∃ c', l.lookup n = some c'
  | (k, v) :: r, n, c, h => by
    rw [List.lookup_cons]
    cases hb : n == k with
    | true => exact ⟨_, rfl⟩
    | false =>
      rcases List.mem_cons.mp h with e | h
      · cases e; simp at hb
      · exact mem_lookup h

theorem cloFrom_mem {cells : List (Str × Addr)} : ∀ {names : List (Str × NameKind)} {acc : List (Str × Addr)} {n : Str} {c : Addr}, (n, c) ∈ cloFrom cells names acc → (n, c) ∈ acc ∨ ((n, .free) ∈ names ∧ c = (cells.lookup n).getD 0)
  | [], _, _, _, h => .inl h
  | (m, k) :: r, acc, n, c, h => by
    unfold cloFrom at h
    split at h
    · rename_i hk
      have hk : k = .free := by simpa using hk
      rcases cloFrom_mem h with h | ⟨h1, h2⟩
      · rcases List.mem_cons.mp h with e | h
        · cases e; exact .inr ⟨hk ▸ List.mem_cons_self, rfl⟩
        · exact .inl h
      · exact .inr ⟨List.mem_cons_of_mem _ h1, h2⟩
    · rcases cloFrom_mem h with h | ⟨h1, h2⟩
      · exact .inl h
      · exact .inr ⟨List.mem_cons_of_mem _ h1, h2⟩
theorem cloFrom_acc {cells : List (Str × Addr)} : ∀ {names : List (Str × NameKind)} {acc : List (Str × Addr)} {p : Str × Addr}, p ∈ acc → p ∈ cloFrom cells names acc
  | [], _, _, h => h
  | (m, k) :: r, acc, p, h => by
    unfold cloFrom
    split
    · exact cloFrom_acc (List.mem_cons_of_mem _ h)
    · exact cloFrom_acc h
theorem cloFrom_has {cells : List (Str × Addr)} : ∀ {names : List (Str × NameKind)} {acc : List (Str × Addr)} {n : Str}, (n, .free) ∈ names → (n, (cells.lookup n).getD 0) ∈ cloFrom cells names acc
  | (m, k) :: r, acc, n, h => by
    unfold cloFrom
    rcases List.mem_cons.mp h with e | h
    · cases e
      exact cloFrom_acc List.mem_cons_self
    · split
      · exact cloFrom_has h
      · exact cloFrom_has h

theorem cells_mem : ∀ {names : List (Str × NameKind)} {h : Heap} {acc : List (Str × Addr)} {x : Str} {c : Addr}, (x, c) ∈ cellsFrom h.objs.size names acc →
    (x, c) ∈ acc ∨ ((x, .cell) ∈ names ∧ h.objs.size ≤ c ∧ CellAt (pushCells h names) c none)
  | [], _, _, _, _, h => .inl h
  | (n, k) :: r, h, acc, x, c, hm => by
    unfold cellsFrom at hm
    unfold pushCells
    split at hm
    · rename_i hk
      rw [if_pos hk]
      have hk : k = .cell := by simpa using hk
      rw [← Heap.size_push h { cls := .type "cell", data := .cell none }] at hm
      rcases cells_mem hm with hm | ⟨h1, h2, h3⟩
      · rcases List.mem_cons.mp hm with e | hm
        · cases e
          exact .inr ⟨hk ▸ List.mem_cons_self, Nat.le_refl _, _, pushCells_keeps r _ _ _ (Heap.get?_push_size _ rfl), rfl⟩
        · exact .inl hm
      · rw [Heap.size_push] at h2
        exact .inr ⟨List.mem_cons_of_mem _ h1, Nat.le_of_succ_le h2, h3⟩
    · rename_i hk
      rw [if_neg hk]
      rcases cells_mem hm with hm | ⟨h1, h2, h3⟩
      · exact .inl hm
      · exact .inr ⟨List.mem_cons_of_mem _ h1, h2, h3⟩
theorem cells_acc : ∀ {names : List (Str × NameKind)} {n : Nat} {acc : List (Str × Addr)} {p : Str × Addr}, p ∈ acc → p ∈ cellsFrom n names acc
  | [], _, _, _, h => h
  | (m, k) :: r, n, acc, p, h => by
    unfold cellsFrom
    split
    · exact cells_acc (List.mem_cons_of_mem _ h)
    · exact cells_acc h
theorem cells_has : ∀ {names : List (Str × NameKind)} {n : Nat} {acc : List (Str × Addr)} {x : Str}, (x, .cell) ∈ names → ∃ c, (x, c) ∈ cellsFrom n names acc
  | (m, k) :: r, n, acc, x, h => by
    unfold cellsFrom
    rcases List.mem_cons.mp h with e | h
    · cases e
      exact ⟨n, cells_acc List.mem_cons_self⟩
    · split
      · exact cells_has h
      · exact cells_has h
theorem cells_inj : ∀ {names : List (Str × NameKind)} {h : Heap} {acc : List (Str × Addr)} {x y : Str} {c : Addr}, (∀ p ∈ acc, p.2 < h.objs.size) → (∀ x y c, (x, c) ∈ acc → (y, c) ∈ acc → x = y) →
    (x, c) ∈ cellsFrom h.objs.size names acc → (y, c) ∈ cellsFrom h.objs.size names acc → x = y
  | [], _, _, _, _, _, _, hi, h1, h2 => hi _ _ _ h1 h2
  | (n, k) :: r, h, acc, x, y, c, hl, hi, h1, h2 => by
    unfold cellsFrom at h1 h2
    split at h1
    · rename_i hk
      rw [if_pos hk] at h2
      rw [← Heap.size_push h { cls := .type "cell", data := .cell none }] at h1 h2
      refine cells_inj (h := h.push _) (fun p hp => ?_) (fun x y c a b => ?_) h1 h2
      · rw [Heap.size_push]
        rcases List.mem_cons.mp hp with rfl | hp
        · exact Nat.lt_succ_self _
        · exact Nat.lt_succ_of_lt (hl p hp)
      · rcases List.mem_cons.mp a with e | a <;> rcases List.mem_cons.mp b with e' | b
        · cases e; cases e'; rfl
        · cases e; exact absurd (hl _ b) (Nat.lt_irrefl _)
        · cases e'; exact absurd (hl _ a) (Nat.lt_irrefl _)
        · exact hi _ _ _ a b
    · rename_i hk
      rw [if_neg hk] at h2
      exact cells_inj hl hi h1 h2

theorem newEnv_comp {M : Model} {A : Around} {E : Value → Shared → Prop} {s : Shared} {scope : Scope} {globals : Addr} {closure : List (Str × Addr)} {qual : Str} {func : Option Addr} {code : Value} {around : Env} {builtins : Addr} {Q : Env → Shared → Prop}
    (h : Q (newEnv scope s.heap.objs.size globals (cellsFrom (s.heap.objs.size + 1) scope.names closure) qual func code (some around) builtins)
      { s with heap := pushCells (s.heap.push { cls := .type "dict", data := .dict #[] }) scope.names }) :
    wpAny M A (newFunctionEnv scope globals closure [] qual func code (some around) builtins) Q E s := by
  simp only [newFunctionEnv, Option.isSome_some, if_true]
  refine wpAny_bind (wpAny_alloc ?_)
  refine wpAny_bind (wpAny_layCells _ (fun n k c => rfl) scope.names closure _ _ ?_)
  rw [show ({ s with heap := s.heap.push { cls := .type "dict", data := .dict #[] } } : Shared).heap.objs.size = s.heap.objs.size + 1 from Heap.size_push ..]
  rw [List.forIn_nil]
  exact wpAny_bind (wpAny_pure (wpAny_pure h))

theorem lookup_relS {sc : Scope} : ∀ {names : List (Str × NameKind)} {x : Str} {k : NameKind},
    (names.map fun (n, k) => if (k == NameKind.free && sc.kind == .function && sc.names.lookup n == some .cell) then (n, NameKind.cell) else (n, k)).lookup x = some k →
    ∃ k', names.lookup x = some k' ∧ (k = k' ∨ (k' = .free ∧ k = .cell))
  | [], _, _, h => by simp at h
  | (n, k₀) :: r, x, k, h => by
    have ih := @lookup_relS sc r x k
    have h' : List.lookup x ((if (k₀ == NameKind.free && sc.kind == .function && sc.names.lookup n == some .cell) = true then (n, NameKind.cell) else (n, k₀)) :: (r.map _)) = some k := h
    cases hx : x == n with
    | true =>
      simp only [List.lookup_cons, hx]
      by_cases hc : (k₀ == NameKind.free && sc.kind == .function && sc.names.lookup n == some .cell) = true
      · rw [if_pos hc] at h'
        simp only [List.lookup_cons, hx] at h'
        cases h'
        simp only [Bool.and_eq_true, beq_iff_eq] at hc
        exact ⟨k₀, rfl, .inr ⟨hc.1.1, rfl⟩⟩
      · rw [if_neg hc] at h'
        simp only [List.lookup_cons, hx] at h'
        cases h'
        exact ⟨_, rfl, .inl rfl⟩
    | false =>
      simp only [List.lookup_cons, hx]
      by_cases hc : (k₀ == NameKind.free && sc.kind == .function && sc.names.lookup n == some .cell) = true
      · rw [if_pos hc] at h'
        simp only [List.lookup_cons, hx] at h'
        exact ih h'
      · rw [if_neg hc] at h'
        simp only [List.lookup_cons, hx] at h'
        exact ih h'
structure BlkOk (N : List Str) (sc scope : Scope) (own : List (Str × Nat)) : Prop where
  kind : scope.kind = .function
  uniq : ∀ y ∈ scope.names, scope.names.lookup y.1 = some y.2
  ix : ∀ p ∈ own, N[p.2]? = some p.1
  free : ∀ y ∈ scope.names, y.2 = .free → sc.names.lookup y.1 = some .cell ∨ sc.names.lookup y.1 = some .free
  own : ∀ y ∈ scope.names, y.2 = .local ∨ y.2 = .cell → y.1 ∈ own.map (·.1) ∨ y.1 ∉ N
def wipe (σ : St) : List Nat → St
  | [] => σ
  | v :: vs => (wipe σ vs).set v none
theorem wipe_length (σ : St) : ∀ vs : List Nat, (wipe σ vs).length = σ.length
  | [] => rfl
  | v :: vs => by unfold wipe; rw [List.length_set, wipe_length σ vs]
theorem wipe_some {σ : St} {i : Nat} {x : V} : ∀ {vs : List Nat}, (wipe σ vs)[i]? = some (some x) → σ[i]? = some (some x) ∧ i ∉ vs
  | [], h => ⟨h, by simp⟩
  | v :: vs, h => by
    unfold wipe at h
    by_cases hi : v = i
    · subst hi
      by_cases hv : v < (wipe σ vs).length
      · rw [List.getElem?_set_self hv] at h; cases h
      · rw [List.getElem?_eq_none (by simpa using hv)] at h; cases h
    · rw [List.getElem?_set_ne hi] at h
      obtain ⟨h1, h2⟩ := wipe_some h
      exact ⟨h1, by simp only [List.mem_cons, not_or]; exact ⟨fun e => hi e.symm, h2⟩⟩

abbrev Cx.blk (X : Cx) (s : Shared) (H : Hp) (scope : Scope) (cenv : Env) (fp : List Addr) : Cx := { X with s_0 := s, H_0 := H, env := cenv, outer := X.stack, ex := fp, fn := fun x => scope.names.lookup x == some .cell, pn := [], xe := fun _ _ => False }
section
variable {X : Cx} {pins : List (Addr × Obj)} {σ : St} {H : Hp} {s : Shared}
theorem block_start {scope : Scope} {own : List (Str × Nat)} {fp : List Addr} (I : Inv X pins σ H s) (ok : BlkOk X.N X.env.scope scope own) (hN : X.N.Nodup) (hfp : ∀ b ∈ fp, FpOk X pins H b ∧ b < s.heap.objs.size) :
    Inv (X.blk s H scope (compEnvC scope (cellsFrom (s.heap.objs.size + 1) scope.names (cloFrom X.env.cells scope.names [])) s.heap.objs.size X.env) fp) [] (wipe σ (own.map (·.2))) H { s with heap := pushCells (s.heap.push { cls := .type "dict", data := .dict #[] }) scope.names } := by
  have hfree : ∀ y ∈ scope.names, y.2 = .free → ∃ c, X.env.cells.lookup y.1 = some c := fun y hy e => by
    rcases ok.free y hy e with k | k
    · exact I.ok.has _ (.inl k)
    · exact I.ok.has _ (.inr k)
  generalize hcenv : compEnvC scope (cellsFrom (s.heap.objs.size + 1) scope.names (cloFrom X.env.cells scope.names [])) s.heap.objs.size X.env = cenv
  have kp : ∀ b o, s.heap.get? b = some o → (pushCells (s.heap.push { cls := .type "dict", data := .dict #[] }) scope.names).get? b = some o := fun b o e => pushCells_keeps _ _ _ _ (Heap.get?_push_of_some _ e)
  have hL : cenv.locals = s.heap.objs.size := by rw [← hcenv]; rfl
  have hcl : cenv.cells = cellsFrom (s.heap.objs.size + 1) scope.names (cloFrom X.env.cells scope.names []) := by rw [← hcenv]; rfl
  have hsc : cenv.scope = relS scope X.env.scope := by rw [← hcenv]; rfl
  rw [← Heap.size_push s.heap { cls := .type "dict", data := .dict #[] }] at hcl
  have cm : ∀ {y c}, (y, c) ∈ cloFrom X.env.cells scope.names [] → X.env.cells.lookup y = some c ∧ c < s.heap.objs.size := fun {y c} hm => by
    rcases cloFrom_mem hm with hm | ⟨h1, rfl⟩
    · cases hm
    · obtain ⟨c, hc⟩ := hfree _ h1 rfl
      rw [hc]
      obtain ⟨w, z⟩ := I.cell _ _ hc
      exact ⟨rfl, z.lt⟩
  have mem : ∀ {y c}, cenv.cells.lookup y = some c → (X.env.cells.lookup y = some c ∧ c < s.heap.objs.size) ∨ (s.heap.objs.size + 1 ≤ c ∧ CellAt (pushCells (s.heap.push { cls := .type "dict", data := .dict #[] }) scope.names) c none) := fun {y c} e => by
    rw [hcl] at e
    rcases cells_mem (PySem.mem_of_lookup e) with hm | ⟨_, h2, h3⟩
    · exact .inl (cm hm)
    · rw [Heap.size_push] at h2; exact .inr ⟨h2, h3⟩
  have look : ∀ {y}, scope.names.lookup y = some .free → ∃ c, cenv.cells.lookup y = some c ∧ X.env.cells.lookup y = some c := fun {y} hl => by
    have hy : (y, NameKind.free) ∈ scope.names := PySem.mem_of_lookup hl
    obtain ⟨c', e'⟩ := mem_lookup (cells_acc (names := scope.names) (n := (s.heap.push { cls := .type "dict", data := .dict #[] }).objs.size) (cloFrom_has (cells := X.env.cells) (acc := []) hy))
    rw [← hcl] at e'
    refine ⟨c', e', ?_⟩
    rw [hcl] at e'
    rcases cells_mem (PySem.mem_of_lookup e') with hm | ⟨h1, _, _⟩
    · exact (cm hm).1
    · have := ok.uniq _ h1
      rw [hl] at this; cases this
  have okB : (X.blk s H scope cenv fp).Ok := by
    refine ⟨I.ok.mod, by show cenv.scope.kind = _; rw [hsc]; exact ok.kind, by show cenv.globals = _; rw [← hcenv]; exact I.ok.glob, by show cenv.builtins = _; rw [← hcenv]; exact I.ok.blt, by show s.heap.objs.size ≤ cenv.locals; rw [hL]; exact Nat.le_refl _,
      fun y z c e1 e2 => ?_, fun y hy => ?_, fun y c z e => ?_, I.ok.hd, I.ok.frames, .inl rfl, fun b hb => ⟨?_, fun y c e z => ?_⟩, I.bs, Nat.le_trans I.ok.bsz I.sz, fun b o e hb => ?_, fun b hb z => ?_, I.stack, I.stkFree⟩
    · have e1 : cenv.cells.lookup y = some c := e1
      have e2 : cenv.cells.lookup z = some c := e2
      rw [hcl] at e1 e2
      refine cells_inj (fun p hp => ?_) (fun y z c a b => I.ok.inj y z c (cm a).1 (cm b).1) (PySem.mem_of_lookup e1) (PySem.mem_of_lookup e2)
      rw [Heap.size_push]
      exact Nat.lt_succ_of_lt (cm (y := p.1) (c := p.2) hp).2
    · show ∃ c, cenv.cells.lookup y = some c
      have key : ∀ k, cenv.kindOf y = some k → (k = .cell ∨ k = .free) → ∃ c, cenv.cells.lookup y = some c := fun k hk hk' => by
        unfold Env.kindOf at hk
        rw [hsc] at hk
        obtain ⟨k', e, r⟩ := lookup_relS hk
        have : k' = .cell ∨ k' = .free := by
          rcases r with rfl | ⟨rfl, _⟩
          · exact hk'
          · exact .inr rfl
        rcases this with rfl | rfl
        · obtain ⟨c, hm⟩ := cells_has (n := (s.heap.push { cls := .type "dict", data := .dict #[] }).objs.size) (acc := cloFrom X.env.cells scope.names []) (PySem.mem_of_lookup e)
          obtain ⟨c', e'⟩ := mem_lookup hm
          exact ⟨c', by rw [hcl]; exact e'⟩
        · obtain ⟨c, h1, _⟩ := look e
          exact ⟨c, h1⟩
      rcases hy with hy | hy
      · exact key _ hy (.inl rfl)
      · exact key _ hy (.inr rfl)
    · have z : (scope.names.lookup y == some NameKind.cell) = true := z
      have z : scope.names.lookup y = some .cell := by simpa using z
      have e : cenv.cells.lookup y = some c := e
      rw [hcl] at e
      rcases cells_mem (PySem.mem_of_lookup e) with hm | ⟨_, h2, _⟩
      · rcases cloFrom_mem hm with hm | ⟨h1, _⟩
        · cases hm
        · have q := ok.uniq _ h1
          rw [z] at q; cases q
      · rw [Heap.size_push] at h2
        exact Nat.le_of_succ_le h2
    · show b ≠ cenv.locals
      rw [hL]; exact Nat.ne_of_lt (hfp b hb).2
    · have e : cenv.cells.lookup y = some c := e
      rcases mem e with ⟨h1, _⟩ | ⟨h1, _⟩
      · exact (hfp b hb).1.2.2.2.2.1 y c h1 z
      · have h2 : s.heap.objs.size + 1 ≤ b := by rw [← z]; exact h1
        exact absurd (Nat.lt_of_lt_of_le (hfp b hb).2 (Nat.le_of_succ_le h2)) (Nat.lt_irrefl _)
    · rcases (hfp b hb).1.2.2.2.1 with z | z
      · exact I.ok.noex b o e z
      · exact absurd (Nat.lt_of_lt_of_le (Heap.lt_size e) (Nat.le_trans I.ok.bsz z)) (Nat.lt_irrefl _)
    · rcases List.mem_cons.mp (I.stkSub b z) with z | z
      · exact (hfp b hb).1.2.1 z
      · exact (hfp b hb).1.2.2.1 z
  refine ⟨okB, rfl, I.bare, Un.kept kp, ⟨fun _ => none, ?_, fun i y av e1 e2 e3 => ?_⟩, fun y c e => ?_, ?_, fun y c e => ?_, fun p hp => ?_, I.hok.kept kp, by rw [wipe_length]; exact I.len⟩
  · show Heap.Ns _ cenv.locals _
    rw [hL]
    exact Heap.Ns.keeps (Heap.Ns.new ..) fun b o e => pushCells_keeps _ _ _ _ e
  · obtain ⟨e2, hne⟩ := wipe_some e2
    have hfr : scope.names.lookup y = some .free ∧ (cenv.kindOf y = some .cell ∨ cenv.kindOf y = some .free) := by
      have key : ∀ k, cenv.scope.names.lookup y = some k → k = .local ∨ k = .cell ∨ k = .free → scope.names.lookup y = some .free ∧ (cenv.kindOf y = some .cell ∨ cenv.kindOf y = some .free) := fun k hk hk' => by
        have hk0 := hk
        rw [hsc] at hk
        obtain ⟨k', e, r⟩ := lookup_relS hk
        have no : ¬ (k' = .local ∨ k' = .cell) := fun hh => by
          rcases ok.own _ (PySem.mem_of_lookup e) hh with e' | e'
          · obtain ⟨p, hp, hpy⟩ := List.mem_map.mp e'
            have e3 := ok.ix p hp
            have : p.1 = y := hpy
            rw [this] at e3
            exact hne (List.mem_map.mpr ⟨p, hp, nodup_ix hN e3 e1⟩)
          · exact e' (List.mem_of_getElem? e1)
        rcases r with rfl | ⟨rfl, rfl⟩
        · rcases hk' with rfl | rfl | rfl
          · exact absurd (.inl rfl) no
          · exact absurd (.inr rfl) no
          · exact ⟨e, .inr hk0⟩
        · exact ⟨e, .inl hk0⟩
      have e3 : Vis cenv.scope y := e3
      rcases e3 with e3 | e3 | e3
      · exact key _ e3 (.inl rfl)
      · exact key _ e3 (.inr (.inl rfl))
      · exact key _ e3 (.inr (.inr rfl))
    obtain ⟨m, hn, hl⟩ := I.loc
    have hvis : Vis X.env.scope y := (ok.free _ (PySem.mem_of_lookup hfr.1) rfl).elim (fun k => .inr (.inl k)) (fun k => .inr (.inr k))
    obtain ⟨w, r, q⟩ := hl i y av e1 e2 hvis
    refine ⟨w, r, .inr ⟨hfr.2, ?_⟩⟩
    obtain ⟨c, h1, h2⟩ := look hfr.1
    rcases q with ⟨k, _⟩ | ⟨_, c', e', z⟩
    · have k : X.env.scope.names.lookup y = some .local := k
      rcases ok.free _ (PySem.mem_of_lookup hfr.1) rfl with k' | k' <;> rw [show X.env.scope.names.lookup y = _ from k'] at k <;> cases k
    · rw [h2] at e'; cases e'
      exact ⟨c, h1, z.keeps kp⟩
  · have e : cenv.cells.lookup y = some c := e
    rcases mem e with ⟨h1, _⟩ | ⟨_, z⟩
    · obtain ⟨w, z⟩ := I.cell y c h1
      exact ⟨w, z.keeps kp⟩
    · exact ⟨_, z⟩
  · show H cenv.locals = none
    rw [hL]; exact I.hok.fresh (Nat.le_refl _)
  · have e : cenv.cells.lookup y = some c := e
    rcases mem e with ⟨h1, _⟩ | ⟨h1, _⟩
    · exact I.freeC y c h1
    · exact I.hok.fresh (Nat.le_of_succ_le h1)
  · exact absurd (show p ∈ ([] : List (Addr × Obj)) ++ [] from hp) (by simp)

theorem app_ok {E : Value → Shared → Prop} {D : Addr} {xs : List V} {y : V} {v : Value} {Q : Value → Shared → Prop} (I : Inv X pins σ H s) (hD : H D = some (.lst xs)) (hz : xs.length < sizeLine) (r : RelV y v)
    (h : ∀ s', Inv X pins σ (upd H D (.lst (xs ++ [y]))) s' → Q .none s') : wpAny (model X.prog X.w) X.A (call (.builtin "list.append") [.ref D, v]) Q E s := by
  obtain ⟨hz', its, n, ri, e⟩ := I.hok D _ hD
  have hl := ri.length
  refine append_at (hsz := by rw [List.size_toArray]; omega) e fun h' sb ho' => ?_
  refine h { s with heap := h' } (I.write (t' := s.toks) (by rw [hD]; trivial) (.inl rfl) (fun b u hb q => (sb.2 b hb).trans q) ⟨_, ho'⟩ ⟨by rw [List.length_append]; exact hz, its ++ [v], n + 1, ri.append (.cons r .nil), ?_⟩)
  rw [ho']
  simp

def PTs (X : Cx) (ifs : List Expr) (t : TT) : Prop :=
  ∀ (pins : List (Addr × Obj)) (s : Shared) (σ : St) (H : Hp) (Q : Bool → Hp → Prop), Inv X pins σ H s → t σ H Q →
    wpAny (model X.prog X.w) X.A (forIn ifs true fun c r => if r = true then do let ok ← isTrue c X.env (eval c X.env); pure (ForInStep.yield ok) else pure (ForInStep.yield r)) (TP X pins σ Q) X.xe s
def tYes : TT := fun _ H Q => Q true H
theorem pts_nil : PTs X [] tYes := fun _ _ _ H _ I h => wpAny_tests_nil ⟨H, I, h⟩
theorem pts_one {c : Expr} {t : TT} (h : PT X c t) : PTs X [c] t := fun pins s σ H Q I hw => wpAny_tests_one (h pins s σ H Q I hw)
end

theorem thnF {α : Type} {t : Sem α} {Q Q' : α → Shared → Prop} {M : Model} {A : Around} {E : Value → Shared → Prop} {s : Shared} (h : wpAny M A t Q (fun _ _ => False) s) (hQ : ∀ a s, Q a s → Q' a s) : wpAny M A t Q' E s := wpAny_mono h hQ fun _ _ z => False.elim z

theorem compLoop_any {prog : Program} {w : World} {A : Around} {R : Result → Shared → Prop} {s : Shared} {elt target iter : Expr} {ifs : List Expr} {scope : Scope} {pos : Pos} {it acc : Value} {env : Env} (I : Nat → Shared → Prop)
    (turn : ∀ n s, I n s → wpAny (model prog w) A (pyNext it) (fun r s₁ => match r with
      | none => R (.ok .next) s₁
      | some v => wpAny (model prog w) A (letOwnedTupleGo target it v) (fun _ s₁' => wpAny (model prog w) A (assign target env v) (fun _ s₂ =>
          wpAny (model prog w) A (forIn ifs true fun c r => if r = true then do let ok ← isTrue c env (eval c env); pure (ForInStep.yield ok) else pure (ForInStep.yield r)) (fun ok s₃ =>
            if ok = true then wpAny (model prog w) A (eval elt env) (fun x s₄ =>
              wpAny (model prog w) A (call (.builtin "list.append") [acc, x]) (fun _ s₅ => ∃ m, m < n ∧ I m s₅) (notedBy (model prog w) A env fun e s' => R (.error e) s') s₄) (notedBy (model prog w) A env fun e s' => R (.error e) s') s₃
            else ∃ m, m < n ∧ I m s₃) (notedBy (model prog w) A env fun e s' => R (.error e) s') s₂) (notedBy (model prog w) A env fun e s' => R (.error e) s') s₁') (notedBy (model prog w) A env fun e s' => R (.error e) s') s₁) (notedBy (model prog w) A env fun e s' => R (.error e) s') s)
    (n : Nat) (h : I n s) :
    codeAny (model prog w) A (.compLoop (.ListComp elt [⟨target, iter, ifs, 0⟩] scope pos) 0 it acc env) R s := by
  refine codeAny_loop rfl I (fun n s hI => ?_) n h
  show wpAny _ A ((compTurn (.ListComp elt [⟨target, iter, ifs, 0⟩] scope pos) 0 it acc env).onRaise (fun x => do noteFrame x env; theTreesLotGoes x)) _ _ s
  refine wpAny_noted ?_
  rw [compTurn_list]
  refine wpAny_bind (wpAny_standAt (wpAny_bind (wpAny_mono (turn n s hI) (fun r s₁ h₁ => ?_) fun _ _ h' => h')))
  cases r with
  | none => exact wpAny_pure h₁
  | some v =>
    refine wpAny_bind (wpAny_mono h₁ (fun _ s₁' h₁' => ?_) fun _ _ h' => h')
    refine wpAny_bind (wpAny_mono h₁' (fun _ s₂ h₂ => wpAny_bind (wpAny_mono h₂ (fun ok s₃ h₃ => ?_) fun _ _ h' => h')) fun _ _ h' => h')
    cases ok with
    | false => exact wpAny_pure ⟨rfl, h₃⟩
    | true =>
      exact wpAny_bind (wpAny_bind (wpAny_mono h₃ (fun x s₄ h₄ => wpAny_bind (wpAny_mono h₄ (fun _ s₅ h₅ => wpAny_pure (wpAny_pure ⟨rfl, h₅⟩)) fun _ _ h' => h')) fun _ _ h' => h'))

section
variable {X : Cx}
def tLc (wi : TI) (g : TG) (tt : TT) (te : TE) (vs : List Nat) : TE := fun σ H Q => wi σ H fun J H1 => ∀ D, H1 D = none → ∃ W : Nat → Nat → Hp → Prop, (∃ m, W 0 m (upd H1 D (.lst []))) ∧ ∀ i m H, W i m H →
  (J.stop i H ∧ Q (.ref D) H) ∨ (J.go i H ∧ ∃ Nx : Hp → Prop, (∀ H', Nx H' → ∃ m', m' < m ∧ W (i + 1) m' H') ∧ ∀ x H', J.yld i H x H' → g x (wipe σ vs) H' fun σ2 H2 => wipe σ2 vs = wipe σ vs ∧ tt σ2 H2 fun b H3 =>
    if b = true then te σ2 H3 fun y H4 => ∃ acc, H4 D = some (.lst acc) ∧ acc.length < sizeLine ∧ Nx (upd H4 D (.lst (acc ++ [y]))) else Nx H3)
theorem lc_core {pins : List (Addr × Obj)} {s : Shared} {σ : St} {H : Hp} {Q : VK} {elt tg iter : Expr} {ifs : List Expr} {scope : Scope} {own : List (Str × Nat)} {pos pos' : Pos} {wi : TI} {g : TG} {tt : TT} {te : TE} {use : Option (Value → Sem Unit)} {Qf : Value → Shared → Prop}
    (hc : X.calm = true) (hN : X.N.Nodup) (I : Inv X pins σ H s) (hi : PI X tg iter wi) (ok : BlkOk X.N X.env.scope scope own)
    (hg : ∀ (s : Shared) (H : Hp) (C : Addr) (cl : List (Str × Addr)) (fp : List Addr), PG (X.blk s H scope (compEnvC scope cl C X.env) fp) tg g) (ht : ∀ (s : Shared) (H : Hp) (C : Addr) (cl : List (Str × Addr)) (fp : List Addr), PTs (X.blk s H scope (compEnvC scope cl C X.env) fp) ifs tt)
    (he : ∀ (s : Shared) (H : Hp) (C : Addr) (cl : List (Str × Addr)) (fp : List Addr), PE (X.blk s H scope (compEnvC scope cl C X.env) fp) elt te) (hs : ∀ x, foldedSetIterable iter X.env x = pure x)
    (h : tLc wi g tt te (own.map (·.2)) σ H Q)
    (hRR : ∀ D C s' m H', Inv X pins σ H' s' → Q (.ref D) H' → s'.heap.Ns C m → FpOk X pins H' C → compPost (model X.prog X.w) X.A X.xe use Qf (.ref D) C (.ok .next) s') :
    wpAny (model X.prog X.w) X.A (comprehension (.ListComp elt [⟨tg, iter, ifs, 0⟩] scope pos) scope X.env pos' (newList []) false (eval iter X.env) use) Qf X.xe s := by
  have hfree : ∀ y ∈ scope.names, y.2 = .free → ∃ c, X.env.cells.lookup y.1 = some c := fun y hy e => by
    rcases ok.free y hy e with k | k
    · exact I.ok.has _ (.inl k)
    · exact I.ok.has _ (.inr k)
  refine wpAny_comprehension_free (use := use) rfl hs (closure_ok hfree) ok.kind (fun y hy e => by rw [ok.uniq y hy, e])
    (thn (hi pins s σ H _ I h) fun xv s1 hx => thn hx fun itv s2 h2 => ?_)
  obtain ⟨it, fp, tn, J, H2, e, I2, T, st2, f2, q⟩ := h2
  subst e
  refine wpAny_newObj_type (newEnv_comp ?_) (by show 0 ≤ sizeLine; decide)
  generalize hD : s2.heap.objs.size = D
  have hDn : H2 D = none := I2.hok.fresh (Nat.le_of_eq hD)
  obtain ⟨W, ⟨m0, w0⟩, turn⟩ := q D hDn
  -- the new list
  generalize hs3 : ({ s2 with heap := s2.heap.push { cls := .type "list", data := .seq ([] : List Value).toArray } } : Shared) = s3
  have I3 : Inv X pins σ (upd H2 D (.lst [])) s3 := by
    rw [← hs3]
    refine I2.laid (t' := s2.toks) (fun b o e => Heap.get?_push_of_some _ e) (Nat.le_of_eq hD) ⟨Nat.zero_le _, [], 0, .nil, ?_⟩
    rw [← hD]
    exact Heap.get?_push_size _ rfl
  have h3 : s3.heap = s2.heap.push { cls := .type "list", data := .seq ([] : List Value).toArray } := by rw [← hs3]
  have sz : ∀ b ∈ fp, b < s2.heap.objs.size := fun b hb => by
    obtain ⟨o, e, _⟩ := T.obj _ _ st2 b hb
    exact Heap.lt_size e
  have f3 : ∀ b ∈ fp, FpOk X pins (upd H2 D (.lst [])) b ∧ b < s3.heap.objs.size := fun b hb => by
    have hlt := sz b hb
    refine ⟨⟨?_, (f2 b hb).2⟩, by rw [h3, Heap.size_push]; exact Nat.lt_succ_of_lt hlt⟩
    rw [upd_ne (by rw [← hD]; exact Nat.ne_of_lt hlt)]
    exact (f2 b hb).1
  have st3 : tn 0 s3.heap := T.keep _ _ _ st2 fun b _ o e => by rw [h3]; exact Heap.get?_push_of_some _ e
  have I4 := block_start I3 ok hN f3
  have pg := hg s3 (upd H2 D (.lst [])) s3.heap.objs.size (cellsFrom (s3.heap.objs.size + 1) scope.names (cloFrom X.env.cells scope.names [])) fp
  have pt := ht s3 (upd H2 D (.lst [])) s3.heap.objs.size (cellsFrom (s3.heap.objs.size + 1) scope.names (cloFrom X.env.cells scope.names [])) fp
  have pe := he s3 (upd H2 D (.lst [])) s3.heap.objs.size (cellsFrom (s3.heap.objs.size + 1) scope.names (cloFrom X.env.cells scope.names [])) fp
  show codeAny _ _ (.compStart (.ListComp elt [⟨tg, iter, ifs, 0⟩] scope pos) 0 (.ref it) (.ref D) (compEnvC scope (cellsFrom (s3.heap.objs.size + 1) scope.names (cloFrom X.env.cells scope.names [])) s3.heap.objs.size X.env)) (compPost (model X.prog X.w) X.A X.xe use Qf (.ref D) s3.heap.objs.size) { s3 with heap := pushCells (s3.heap.push { cls := .type "dict", data := .dict #[] }) scope.names }
  have nfp : ∀ b ∈ fp, (upd H2 D (.lst [])) b = none := fun b hb => (f3 b hb).1.1
  generalize hce : compEnvC scope (cellsFrom (s3.heap.objs.size + 1) scope.names (cloFrom X.env.cells scope.names [])) s3.heap.objs.size X.env = ce at I4 pg pt pe ⊢
  have cL : ce.locals = s3.heap.objs.size := by subst hce; rfl
  generalize hH3 : upd H2 D (.lst []) = H3 at I3 I4 pg pt pe w0 nfp f3
  generalize hs4 : ({ s3 with heap := pushCells (s3.heap.push { cls := .type "dict", data := .dict #[] }) scope.names } : Shared) = s4 at I4 ⊢
  have st4 : tn 0 s4.heap := T.keep _ _ _ st3 fun b _ o e => by rw [← hs4]; exact pushCells_keeps _ _ _ _ (Heap.get?_push_of_some _ e)
  have stat : ∀ {σ' : St} {H' : Hp} {s' : Shared}, Inv (X.blk s3 H3 scope ce fp) [] σ' H' s' → (∀ b ∈ fp, H' b = none) → ∀ b ∈ fp, FpOk (X.blk s3 H3 scope ce fp) [] H' b := fun {σ' H' s'} I' hn b hb =>
    ⟨hn b hb, (I'.ok.exf b hb).1, I'.ok.exfs b hb, .inl hb, fun x c e => (I'.ok.exf b hb).2 x c e, fun p hp => absurd (show p ∈ ([] : List (Addr × Obj)) ++ [] from hp) (by simp)⟩
  have loop : codeAny (model X.prog X.w) X.A (.compLoop (.ListComp elt [⟨tg, iter, ifs, 0⟩] scope pos) 0 (.ref it) (.ref D) ce) (compPost (model X.prog X.w) X.A X.xe use Qf (.ref D) s3.heap.objs.size) s4 := by
    refine compLoop_any (fun n s' => ∃ i H', Inv (X.blk s3 H3 scope ce fp) [] (wipe σ (own.map (·.2))) H' s' ∧ tn i s'.heap ∧ (∀ b ∈ fp, H' b = none) ∧ W i n H') ?_ m0 ⟨0, H3, I4, st4, nfp, w0⟩
    rintro n s5 ⟨i, H5, I5, st5, n5, w5⟩
    rcases turn i n H5 w5 with ⟨stop, qq⟩ | ⟨go, Nx, hNx, step⟩
    · have td := T.done (X.blk s3 H3 scope ce fp) rfl rfl rfl hc i [] s5 _ H5 (fun _ _ => False) I5 (stat I5 n5) st5 stop
      refine thnF td fun r s6 ⟨hr, I6⟩ => ?_
      subst hr
      -- back in the def's context
      have I7 : Inv X pins σ H5 s6 := I3.call' (ch := fp) I6.os I6.base I6.hok I6.bare fun b hb => ⟨(f3 b hb).1.2.2.2.1, (f3 b hb).1.2.1, (f3 b hb).1.2.2.2.2.1, (f3 b hb).1.2.2.2.2.2⟩
      have nC : H5 s3.heap.objs.size = none := by
        have z : H5 ce.locals = none := I6.free
        rw [cL] at z
        exact z
      obtain ⟨m, hn, _⟩ := I6.loc
      have hn : s6.heap.Ns ce.locals m := hn
      rw [cL] at hn
      exact hRR D s3.heap.objs.size s6 m H5 I7 qq hn (I3.fpOk (Nat.le_refl _) nC)
    · have ti := T.item (X.blk s3 H3 scope ce fp) rfl rfl rfl hc i [] s5 _ H5 (fun _ _ => False) I5 (stat I5 n5) st5 go
      refine thnF ti fun r s6 ⟨u, hr, h6⟩ => ?_
      subst hr
      refine thnF h6 fun _ s7 ⟨x, H7, I7, r7, y7, st7, n7⟩ => ?_
      have I7' := I7.pinned (stat I7 n7) (T.obj _ _ st7)
      refine thnF (pg _ s7 _ H7 x u _ I7' r7 (step x H7 y7)) fun _ s8 ⟨σ8, H8, I8, hw8, q8⟩ => ?_
      refine thnF (pt _ s8 σ8 H8 _ I8 q8) fun b s9 ⟨H9, I9, q9⟩ => ?_
      -- the turn's end
      have fin : ∀ {s' : Shared} {H' : Hp}, Inv (X.blk s3 H3 scope ce fp) ([] ++ pinsAt fp s7.heap) σ8 H' s' → Nx H' → ∃ m, m < n ∧ ∃ i H', Inv (X.blk s3 H3 scope ce fp) [] (wipe σ (own.map (·.2))) H' s' ∧ tn i s'.heap ∧ (∀ b ∈ fp, H' b = none) ∧ W i m H' := fun {s' H'} I' nx => by
        obtain ⟨m', hm, w'⟩ := hNx H' nx
        have pin' : ∀ b ∈ fp, ∀ o, s7.heap.get? b = some o → s'.heap.get? b = some o ∧ H' b = none := fun b hb o e =>
          let z := I'.pin (b, o) (List.mem_append_right _ (List.mem_append_right _ (mem_pinsAt hb e)))
          ⟨z.1, z.2.1⟩
        have hl : (wipe σ (own.map (·.2))).length = σ8.length := by rw [← hw8, wipe_length]
        refine ⟨m', hm, i + 1, H', (I'.unpinned (pins := [])).weak hl (fun j v e => ?_), T.keep _ _ _ st7 fun b hb o e => (pin' b hb o e).1, fun b hb => ?_, w'⟩
        · rw [← hw8] at e
          exact (wipe_some e).1
        · obtain ⟨o, e, _⟩ := T.obj _ _ st7 b hb
          exact (pin' b hb o e).2
      cases b with
      | false =>
        simp only [Bool.false_eq_true, if_false] at q9 ⊢
        exact fin I9 q9
      | true =>
        simp only [if_true] at q9 ⊢
        refine thnF (pe _ s9 σ8 H9 _ I9 q9) fun z s10 ⟨yv, H10, I10, r10, acc, hD10, hz10, nx⟩ => ?_
        exact app_ok (X := X.blk s3 H3 scope ce fp) I10 hD10 hz10 r10 fun s11 I11 => fin I11 nx
  exact codeAny_compStart_list loop (T.self X.A 0 _ _ _ st4 loop)
theorem pe_lc {elt tg iter : Expr} {ifs : List Expr} {scope : Scope} {own : List (Str × Nat)} {pos : Pos} {wi : TI} {g : TG} {tt : TT} {te : TE} (hc : X.calm = true) (hN : X.N.Nodup) (hi : PI X tg iter wi) (ok : BlkOk X.N X.env.scope scope own)
    (hg : ∀ (s : Shared) (H : Hp) (C : Addr) (cl : List (Str × Addr)) (fp : List Addr), PG (X.blk s H scope (compEnvC scope cl C X.env) fp) tg g) (ht : ∀ (s : Shared) (H : Hp) (C : Addr) (cl : List (Str × Addr)) (fp : List Addr), PTs (X.blk s H scope (compEnvC scope cl C X.env) fp) ifs tt)
    (he : ∀ (s : Shared) (H : Hp) (C : Addr) (cl : List (Str × Addr)) (fp : List Addr), PE (X.blk s H scope (compEnvC scope cl C X.env) fp) elt te) (hs : ∀ x, foldedSetIterable iter X.env x = pure x := by intro _; rfl) :
    PE X (.ListComp elt [⟨tg, iter, ifs, 0⟩] scope pos) (tLc wi g tt te (own.map (·.2))) := by
  intro pins s σ H Q I h
  rw [eval_ListComp]
  refine lc_core hc hN I hi ok hg ht he hs h fun D C s' m H' I' q hn f => ⟨m, hn, fun h'' sb => ?_⟩
  obtain ⟨f0, f1, f2, f3, f4, f5⟩ := f
  exact ⟨.ref D, H', I'.turned (t' := s'.toks) (fun b o hb e => (sb.2 b hb).trans e) f0 f1 f3 f4 f5, rfl, q⟩
theorem ps_setLc {i : Nat} {y : Str} {py : Pos} {elt tg iter : Expr} {ifs : List Expr} {scope : Scope} {own : List (Str × Nat)} {pos spos : Pos} {wi : TI} {g : TG} {tt : TT} {te : TE} (hc : X.calm = true) (hN : X.N.Nodup) (hy : X.N[i]? = some y) (hyl : X.env.scope.names.lookup y = some .local)
    (hsw : swapsWith (.ListComp elt [⟨tg, iter, ifs, 0⟩] scope pos) (some (.Name y py)) spos.line X.env = pure true) (hi : PI X tg iter wi) (ok : BlkOk X.N X.env.scope scope own)
    (hg : ∀ (s : Shared) (H : Hp) (C : Addr) (cl : List (Str × Addr)) (fp : List Addr), PG (X.blk s H scope (compEnvC scope cl C X.env) fp) tg g) (ht : ∀ (s : Shared) (H : Hp) (C : Addr) (cl : List (Str × Addr)) (fp : List Addr), PTs (X.blk s H scope (compEnvC scope cl C X.env) fp) ifs tt)
    (he : ∀ (s : Shared) (H : Hp) (C : Addr) (cl : List (Str × Addr)) (fp : List Addr), PE (X.blk s H scope (compEnvC scope cl C X.env) fp) elt te) (hs : ∀ x, foldedSetIterable iter X.env x = pure x := by intro _; rfl) :
    PS X (.Assign [.Name y py] (.ListComp elt [⟨tg, iter, ifs, 0⟩] scope pos) spos) (tAsg (tLc wi g tt te (own.map (·.2))) (gName i)) := by
  intro pins s σ H D I h
  rw [exec_Assign_Name_used _ _ _ _ hsw]
  refine wpAny_bind (wpAny_standAt (wpAny_bind ?_))
  show wpAny _ X.A (do let _ ← comprehension (.ListComp elt [⟨tg, iter, ifs, 0⟩] scope pos) scope X.env (firstIterPos [⟨tg, iter, ifs, 0⟩] pos) (newList []) false (eval iter X.env) (some (assign (.Name y py) X.env))) _ _ s
  have h : tLc wi g tt te (own.map (·.2)) σ H (fun x H1 => gName i x σ H1 D.nx) := h
  refine wpAny_bind (thn (lc_core (Qf := fun _ s' => SP X pins D .next s') hc hN I hi ok hg ht he hs h fun L C s' m H' I' q hn f => ?_) fun _ s' hq => wpAny_pure (wpAny_pure hq))
  show wpAny _ _ (assign (.Name y py) X.env (.ref L)) _ _ _
  refine wpAny_assign_Name (store_ok2 (v := V.ref L) I' hN hy (.inl hyl) rfl (fun s2 I2 ⟨a, sb, ha⟩ => ?_) (.inr hyl))
  obtain ⟨f0, f1, f2, f3, f4, f5⟩ := f
  have haC : C ≠ a := by
    rcases ha with z | z
    · rw [z]; exact f1
    · exact fun e => f4 y a z e.symm
  refine ⟨m, hn.sameBut sb haC, fun h3 sb3 => ?_⟩
  exact ⟨_, H', I2.turned (t' := s2.toks) (fun b o hb e => (sb3.2 b hb).trans e) f0 f1 f3 f4 f5, q⟩
theorem sw_true {elt : Expr} {gs : List Comprehension} {scope : Scope} {pos py : Pos} {y : Str} {l : Nat} {env : Env} (hk : env.scope.kind = .function) (hy : env.scope.names.lookup y = some .local) (hl : (py.line == pos.line) = true)
    (ha : (scope.names.any fun (n, k) => n == y && (k == .local || k == .cell)) = false) : swapsWith (.ListComp elt gs scope pos) (some (.Name y py)) l env = pure true := by
  have ky : env.kindOf y = some .local := hy
  have hb : env.blockKind = .function := by unfold Env.blockKind; rw [hk]; rfl
  unfold swapsWith
  simp only [hb, ky, ha, Expr.pos, hl]
  rfl
end

def blkC (N : List Str) (sc scope : Scope) (own : List (Str × Nat)) : Bool :=
  (match scope.kind with | .function => true | _ => false) && (scope.names.all fun y => decide (scope.names.lookup y.1 = some y.2)) && (own.all fun p => decide (N[p.2]? = some p.1)) &&
    (scope.names.all fun y => match y.2 with
      | .free => (match sc.names.lookup y.1 with | some .cell => true | some .free => true | _ => false)
      | .local => decide (y.1 ∈ own.map (·.1)) || decide (y.1 ∉ N)
      | .cell => decide (y.1 ∈ own.map (·.1)) || decide (y.1 ∉ N)
      | _ => true)
theorem blkOk_by {N : List Str} {sc scope : Scope} {own : List (Str × Nat)} (h : blkC N sc scope own = true) : BlkOk N sc scope own := by
  unfold blkC at h
  simp only [Bool.and_eq_true, List.all_eq_true, decide_eq_true_eq] at h
  obtain ⟨⟨⟨h1, h2⟩, h3⟩, h4⟩ := h
  refine ⟨?_, h2, h3, fun y hy e => ?_, fun y hy e => ?_⟩
  · split at h1
    · assumption
    · cases h1
  · have q := h4 y hy
    simp only [e] at q
    split at q <;> first | exact .inl (by assumption) | exact .inr (by assumption) | cases q
  · have q := h4 y hy
    rcases e with e | e <;> (simp only [e, Bool.or_eq_true, decide_eq_true_eq] at q; exact q)
end L2

namespace L2
open PySem PySem.Spec PyProof.Rows

section
variable {prog : Program} {w : World} {A : Around} {R : Result → Shared → Prop} {s : Shared} {elt t0 i0 t1 i1 : Expr} {ifs0 ifs1 : List Expr} {scope : Scope} {pos : Pos} {it acc : Value} {env : Env}
end

section
variable {X : Cx}
end
end L2

namespace L2
open PySem PySem.Spec PyProof.Rows

section
variable {κ : Type} [DecidableEq κ]
def valV (kvs : List (κ × V)) (k : κ) : Option V := (kvs.find? fun kv => decide (kv.1 = k)).map (·.2)
def putK (kvs : List (κ × V)) (k : κ) (v : V) : List (κ × V) :=
  if (kvs.any fun kv => decide (kv.1 = k)) = true then kvs.map (fun kv => if kv.1 = k then (kv.1, v) else kv) else kvs ++ [(k, v)]
def dropK (kvs : List (κ × V)) (k : κ) : List (κ × V) := kvs.filter fun kv => decide (kv.1 ≠ k)

theorem valV_pos {p : κ × V} {r : List (κ × V)} {k : κ} (e : p.1 = k) : valV (p :: r) k = some p.2 := by simp [valV, List.find?_cons, e]
theorem valV_neg {p : κ × V} {r : List (κ × V)} {k : κ} (e : ¬ p.1 = k) : valV (p :: r) k = valV r k := by simp [valV, List.find?_cons, e]
theorem valV_any (k : κ) : ∀ kvs : List (κ × V), (kvs.any fun kv => decide (kv.1 = k)) = (valV kvs k).isSome
  | [] => rfl
  | p :: r => by
    rw [List.any_cons]
    by_cases e : p.1 = k
    · simp only [valV_pos e, decide_eq_true e, Bool.true_or, Option.isSome_some]
    · rw [valV_neg e, decide_eq_false e, Bool.false_or]; exact valV_any k r
theorem valV_map (k j : κ) (y : V) : ∀ kvs : List (κ × V), valV (kvs.map fun kv => if kv.1 = k then (kv.1, y) else kv) j = (valV kvs j).map fun x => if j = k then y else x
  | [] => rfl
  | p :: r => by
    have ih := valV_map k j y r
    rw [List.map_cons]
    by_cases h : p.1 = k
    · rw [if_pos h]
      by_cases e : p.1 = j
      · rw [valV_pos (p := (p.1, y)) e, valV_pos e, Option.map_some, if_pos (e.symm.trans h)]
      · rw [valV_neg (p := (p.1, y)) e, valV_neg e, ih]
    · rw [if_neg h]
      by_cases e : p.1 = j
      · rw [valV_pos (p := p) e, valV_pos e, Option.map_some, if_neg (fun z => h (e.trans z))]
      · rw [valV_neg (p := p) e, valV_neg e, ih]
theorem valV_snoc (k j : κ) (y : V) : ∀ kvs : List (κ × V), valV kvs k = none → valV (kvs ++ [(k, y)]) j = if j = k then some y else valV kvs j
  | [], _ => by
    by_cases e : k = j
    · rw [if_pos e.symm]; exact valV_pos (p := (k, y)) e
    · rw [if_neg (fun z => e z.symm)]; exact valV_neg (p := (k, y)) e
  | p :: r, hn => by
    rw [List.cons_append]
    have hk : ¬ p.1 = k := fun z => by rw [valV_pos z] at hn; cases hn
    rw [valV_neg hk] at hn
    have ih := valV_snoc k j y r hn
    by_cases e : p.1 = j
    · rw [valV_pos e, valV_pos e, if_neg (fun z => hk (e.trans z))]
    · rw [valV_neg e, valV_neg e, ih]
theorem valV_put (kvs : List (κ × V)) (k j : κ) (y : V) : valV (putK kvs k y) j = if j = k then some y else valV kvs j := by
  unfold putK
  by_cases a : (kvs.any fun kv => decide (kv.1 = k)) = true
  · rw [if_pos a, valV_map]
    rw [valV_any] at a
    by_cases e : j = k
    · obtain ⟨x, hx⟩ := Option.isSome_iff_exists.mp a
      rw [if_pos e, e, hx, Option.map_some, if_pos rfl]
    · rw [if_neg e]
      cases valV kvs j with
      | none => rfl
      | some x => rw [Option.map_some, if_neg e]
  · rw [if_neg a]
    refine valV_snoc k j y kvs ?_
    rw [valV_any] at a
    cases q : valV kvs k with
    | none => rfl
    | some x => rw [q] at a; exact (a rfl).elim
theorem length_putK (kvs : List (κ × V)) (k : κ) (v : V) : (putK kvs k v).length ≤ kvs.length + 1 := by
  unfold putK
  split
  · rw [List.length_map]; omega
  · rw [List.length_append, List.length_cons, List.length_nil]; omega
theorem putK_new {kvs : List (κ × V)} {k : κ} (v : V) (h : valV kvs k = none) : putK kvs k v = kvs ++ [(k, v)] := by
  unfold putK
  rw [valV_any, h]
  exact if_neg (by decide)

theorem RelO.isSome_eq {o : Option V} {u : Option Value} (r : RelO o u) : o.isSome = u.isSome := by
  cases o with
  | none => cases u with
    | none => rfl
    | some _ => exact (show False from r).elim
  | some _ => cases u with
    | none => exact (show False from r).elim
    | some _ => rfl
theorem RelO.getD {o : Option V} {u : Option Value} {d : V} {d' : Value} (r : RelO o u) (rd : RelV d d') : RelV (o.getD d) (u.getD d') := by
  cases o with
  | none => cases u with
    | none => exact rd
    | some _ => exact (show False from r).elim
  | some _ => cases u with
    | none => exact (show False from r).elim
    | some _ => exact r

theorem KV.val {kvs : List (κ × V)} {vs : List (κ × Value)} (r : KV kvs vs) (k : κ) : RelO (valV kvs k) (valueAt vs k) := by
  unfold KV at r
  induction r with
  | nil => exact True.intro
  | @cons p q ps qs h t ih =>
    obtain ⟨h1, h2⟩ := h
    by_cases e : p.1 = k
    · have e' : q.1 = k := h1.symm.trans e
      have b : valueAt (q :: qs) k = some q.2 := by simp [valueAt, List.find?_cons, e']
      rw [valV_pos e, b]; exact h2
    · have e' : ¬ q.1 = k := fun z => e (h1.trans z)
      have b : valueAt (q :: qs) k = valueAt qs k := by simp [valueAt, List.find?_cons, e']
      rw [valV_neg e, b]; exact ih
theorem KV.any {kvs : List (κ × V)} {vs : List (κ × Value)} (r : KV kvs vs) (k : κ) : (kvs.any fun kv => decide (kv.1 = k)) = vs.any fun kv => decide (kv.1 = k) := by
  unfold KV at r
  induction r with
  | nil => rfl
  | cons h t ih => rw [List.any_cons, List.any_cons, ih, h.1]
theorem KV.repl {kvs : List (κ × V)} {vs : List (κ × Value)} (r : KV kvs vs) (k : κ) {y : V} {u : Value} (ry : RelV y u) :
    KV (kvs.map fun kv => if kv.1 = k then (kv.1, y) else kv) (vs.map fun kv => if kv.1 = k then (kv.1, u) else kv) := by
  unfold KV at r ⊢
  induction r with
  | nil => exact .nil
  | @cons p q ps qs h t ih =>
    rw [List.map_cons, List.map_cons]
    refine .cons ?_ ih
    obtain ⟨h1, h2⟩ := h
    by_cases e : p.1 = k
    · rw [if_pos e, if_pos (h1.symm.trans e)]; exact ⟨h1, ry⟩
    · rw [if_neg e, if_neg (fun z => e (h1.trans z))]; exact ⟨h1, h2⟩
theorem KV.put {kvs : List (κ × V)} {vs : List (κ × Value)} (r : KV kvs vs) (k : κ) {y : V} {u : Value} (ry : RelV y u) : KV (putK kvs k y) (stored vs k u) := by
  unfold putK stored
  rw [r.any k]
  by_cases e : (vs.any fun kv => decide (kv.1 = k)) = true
  · rw [if_pos e, if_pos e]; exact r.repl k ry
  · rw [if_neg e, if_neg e]; exact Paired.snoc r ⟨rfl, ry⟩
theorem KV.length {kvs : List (κ × V)} {vs : List (κ × Value)} (r : KV kvs vs) : kvs.length = vs.length := Paired.length r
theorem dropK_le (kvs : List (κ × V)) (k : κ) : (dropK kvs k).length ≤ kvs.length := List.length_filter_le _ _
end


theorem kV_is {P : Program} {w : World} {k : Key} {u : Value} (r : RelV (kV k) u) : (mixKind P w).is k u = true := by
  cases k with
  | inl i => obtain ⟨t, e⟩ := (show ∃ t, u = Value.int i t from r); subst e; exact mixKind_int P w i t
  | inr x => obtain ⟨t, e⟩ := (show ∃ t, u = Value.str x t from r); subst e; exact mixKind_str P w x t
theorem items_are {P : Program} {w : World} : ∀ {ks : List Key} {us : List Value}, Vals (ks.map kV) us → ItemsAre (mixKind P w) ks us
  | [], _, r => by rw [List.map_nil] at r; cases r; exact .nil
  | k :: ks, _, r => by
    rw [List.map_cons] at r
    cases r with
    | cons h t => exact .cons (kV_is h) (items_are t)

abbrev KT (H : Hp) : List (List Key × V) → List (List Key × Addr × Value) → Prop := Paired fun p q => p.1 = q.1 ∧ H q.2.1 = some (.tup (p.1.map kV)) ∧ RelV p.2 q.2.2
theorem KT.val {H : Hp} {kvs : List (List Key × V)} {xs : List (List Key × Addr × Value)} (r : KT H kvs xs) (k : List Key) : RelO (valV kvs k) ((atKey xs k).map (·.2)) := by
  induction r with
  | nil => exact True.intro
  | @cons p q ps qs h t ih =>
    obtain ⟨h1, _, h2⟩ := h
    by_cases e : p.1 = k
    · have e' : q.1 = k := h1.symm.trans e
      have b : atKey (q :: qs) k = some q.2 := by simp [atKey, List.find?_cons, e']
      rw [valV_pos e, b]; exact h2
    · have e' : ¬ q.1 = k := fun z => e (h1.trans z)
      have b : atKey (q :: qs) k = atKey qs k := by simp [atKey, List.find?_cons, e']
      rw [valV_neg e, b]; exact ih
theorem KT.repl {H : Hp} {kvs : List (List Key × V)} {xs : List (List Key × Addr × Value)} (r : KT H kvs xs) (k : List Key) {y : V} {u : Value} (ry : RelV y u) :
    KT H (kvs.map fun kv => if kv.1 = k then (kv.1, y) else kv) (xs.map (putAt k u)) := by
  induction r with
  | nil => exact .nil
  | @cons p q ps qs h t ih =>
    rw [List.map_cons, List.map_cons]
    refine .cons ?_ ih
    obtain ⟨h1, h2, h3⟩ := h
    unfold putAt
    by_cases e : p.1 = k
    · rw [if_pos e, if_pos (h1.symm.trans e)]; exact ⟨h1, h2, ry⟩
    · rw [if_neg e, if_neg (fun z => e (h1.trans z))]; exact ⟨h1, h2, h3⟩
theorem KT.put {H : Hp} {kvs : List (List Key × V)} {xs : List (List Key × Addr × Value)} (r : KT H kvs xs) (k : List Key) {b : Addr} {y : V} {u : Value} (hb : H b = some (.tup (k.map kV))) (ry : RelV y u) :
    KT H (putK kvs k y) (storedH xs k b u) := by
  have e : (kvs.any fun kv => decide (kv.1 = k)) = (atKey xs k).isSome := by
    rw [valV_any, (r.val k).isSome_eq, Option.isSome_map]
  unfold putK storedH
  rw [e]
  by_cases q : (atKey xs k).isSome = true
  · rw [if_pos q, if_pos q]; exact r.repl k ry
  · rw [if_neg q, if_neg q]; exact Paired.snoc r ⟨rfl, hb, ry⟩
theorem KT.keeps {H H' : Hp} {kvs : List (List Key × V)} {xs : List (List Key × Addr × Value)} (r : KT H kvs xs) (ht : ∀ b ys, H b = some (.tup ys) → H' b = some (.tup ys)) : KT H' kvs xs :=
  Paired.mapP r fun _ _ z => ⟨z.1, ht _ _ z.2.1, z.2.2⟩

section
variable {P : Program} {w : World} {H : Hp} {h : Heap} {a : Addr}
theorem rd_of {u : HO} (ok : HOk P w H h) (e : Rd H a u) : ObjOk P w H h a u := e.ok ok
theorem dk_rd {kvs : List (Key × V)} (ok : HOk P w H h) (e : Rd H a (.dK kvs)) : kvs.length ≤ sizeLine ∧ (a == sysModules) = false ∧ ∃ vs, KV kvs vs ∧ h.DictOf (mixKind P w) a vs :=
  show ObjOk P w H h a (.dK kvs) from rd_of ok e
theorem dk_of {kvs : List (Key × V)} (ok : HOk P w H h) (e : H a = some (.dK kvs)) : kvs.length ≤ sizeLine ∧ (a == sysModules) = false ∧ ∃ vs, KV kvs vs ∧ h.DictOf (mixKind P w) a vs := dk_rd ok (.inl e)
theorem key_of {ks : List Key} (ok : HOk P w H h) (e : H a = some (.tup (ks.map kV))) : (tupleKind (mixKind P w)).is h ks a := by
  obtain ⟨_, its, r, o, h1, h2, n, h3⟩ := (show ObjOk P w H h a (.tup (ks.map kV)) from ok a _ e)
  exact ⟨o, its.toArray, n, h1, h2, h3, by simpa using items_are r⟩
theorem dt_rd {kvs : List (List Key × V)} (ok : HOk P w H h) (e : Rd H a (.dT kvs)) : kvs.length ≤ sizeLine ∧ (a == sysModules) = false ∧
    ∃ xs, KT H kvs xs ∧ h.DictOfH (tupleKind (mixKind P w)) a xs := by
  obtain ⟨z, y, xs, r, o, es, ep, h1, h2, h3, h4, h5⟩ := (show ObjOk P w H h a (.dT kvs) from rd_of ok e)
  refine ⟨z, y, xs, r, o, es, ep, h1, h2, h3, h4, fun x hx => ?_, h5⟩
  have all : ∀ {l : List (List Key × V)} {m : List (List Key × Addr × Value)}, KT H l m → ∀ x ∈ m, (tupleKind (mixKind P w)).is h x.1 x.2.1 := by
    intro l m q
    induction q with
    | nil => intro x hx; exact nomatch hx
    | @cons p q ps qs hq t ih =>
      intro x hx
      rcases List.mem_cons.mp hx with e | hx
      · subst e
        exact key_of ok (by rw [← hq.1]; exact hq.2.1)
      · exact ih x hx
  exact all r x hx
theorem dt_of {kvs : List (List Key × V)} (ok : HOk P w H h) (e : H a = some (.dT kvs)) : kvs.length ≤ sizeLine ∧ (a == sysModules) = false ∧
    ∃ xs, KT H kvs xs ∧ h.DictOfH (tupleKind (mixKind P w)) a xs := dt_rd ok (.inl e)
end

def DGet (H : Hp) (a : Addr) (y : V) (r : Option V) : Prop :=
  (∃ kvs k, Rd H a (.dK kvs) ∧ y = kV k ∧ r = valV kvs k) ∨ ∃ kvs k b, Rd H a (.dT kvs) ∧ y = .ref b ∧ H b = some (.tup (k.map kV)) ∧ r = valV kvs k
def DPut (H : Hp) (a : Addr) (y v : V) (H' : Hp) : Prop :=
  (∃ kvs k, H a = some (.dK kvs) ∧ y = kV k ∧ kvs.length < sizeLine ∧ H' = upd H a (.dK (putK kvs k v))) ∨
  ∃ kvs k b, H a = some (.dT kvs) ∧ y = .ref b ∧ H b = some (.tup (k.map kV)) ∧ kvs.length < sizeLine ∧ H' = upd H a (.dT (putK kvs k v))
theorem DGet.k {H : Hp} {a : Addr} {kvs : List (Key × V)} {k : Key} (e : H a = some (.dK kvs)) : DGet H a (kV k) (valV kvs k) := .inl ⟨kvs, k, .inl e, rfl, rfl⟩
theorem DGet.t {H : Hp} {a b : Addr} {kvs : List (List Key × V)} {k : List Key} (e : H a = some (.dT kvs)) (eb : H b = some (.tup (k.map kV))) : DGet H a (.ref b) (valV kvs k) := .inr ⟨kvs, k, b, .inl e, rfl, eb, rfl⟩
theorem DPut.k {H : Hp} {a : Addr} {kvs : List (Key × V)} {k : Key} {v : V} (e : H a = some (.dK kvs)) (hl : kvs.length < sizeLine) : DPut H a (kV k) v (upd H a (.dK (putK kvs k v))) := .inl ⟨kvs, k, e, rfl, hl, rfl⟩
theorem DPut.t {H : Hp} {a b : Addr} {kvs : List (List Key × V)} {k : List Key} {v : V} (e : H a = some (.dT kvs)) (eb : H b = some (.tup (k.map kV))) (hl : kvs.length < sizeLine) :
    DPut H a (.ref b) v (upd H a (.dT (putK kvs k v))) := .inr ⟨kvs, k, b, e, rfl, eb, hl, rfl⟩


section
variable {X : Cx} {pins : List (Addr × Obj)} {σ : St} {H : Hp} {s : Shared} {a : Addr} {y v : V} {u r : Value} {o : Option V} {A : Around} {E : Value → Shared → Prop}

theorem Inv.big (I : Inv X pins σ H s) : sysModules < s.heap.objs.size := by
  have h : mainGlobals < s.heap.objs.size := (I.mod.glob.keeps I.bk).lt
  exact Nat.lt_trans (by decide) h

theorem d_in {Q : Value → Shared → Prop} (hu : A.units + 1 < cLine) (I : Inv X pins σ H s) (g : DGet H a y o) (ry : RelV y u) (h : ∀ s', Inv X pins σ H s' → Q (.bool o.isSome) s') :
    wpAny (model X.prog X.w) A (compareOp .In u (.ref a)) Q E s := by
  rcases g with ⟨kvs, k, e, ey, l⟩ | ⟨kvs, k, b, e, ey, eb, l⟩
  · subst ey
    obtain ⟨z, hd, vs, rel, dd⟩ := dk_rd I.hok e
    refine wpAny_in_of (kV_is ry) hd dd.mapOf ?_
    rw [← (rel.val k).isSome_eq, ← l]
    exact h _ (I.tok _)
  · subst ey
    cases (show u = Value.ref b from ry)
    obtain ⟨z, hd, xs, rel, dd⟩ := dt_rd I.hok e
    refine wpAny_in_heap (tupleKind_room_in1 hu) (key_of I.hok eb) hd dd ?_
    have q := (rel.val k).isSome_eq
    rw [Option.isSome_map] at q
    rw [← q, ← l]
    exact h _ (I.tok _)
theorem d_write {h' : Heap} {t' : Nat} {ob : HO} (I : Inv X pins σ H s) (mu : Mut (H a)) (hs : Heap.SameBut a s.heap h') (he : ∃ q, h'.get? a = some q) (new : ObjOk X.prog X.w (upd H a ob) h' a ob) :
    Inv X pins σ (upd H a ob) { s with heap := h', toks := t' } :=
  I.write (x := a) (e := a) mu (.inl rfl) (fun b q hb z => (hs.2 b hb).trans z) he new
theorem dk_new {P : Program} {w : World} {H' : Hp} {h' : Heap} {kvs : List (Key × V)} {vs : List (Key × Value)} (z : kvs.length ≤ sizeLine) (hd : (a == sysModules) = false) (rel : KV kvs vs) (dd : h'.DictOf (mixKind P w) a vs) :
    ObjOk P w H' h' a (.dK kvs) := ⟨z, hd, vs, rel, dd⟩
theorem d_setItem {H' : Hp} {Q : Unit → Shared → Prop} (hu : A.units + 1 < cLine) (I : Inv X pins σ H s) (g : DPut H a y v H') (ry : RelV y u) (rv : RelV v r) (h : ∀ s', Inv X pins σ H' s' → Q () s') :
    wpAny (model X.prog X.w) A (setItem (.ref a) u r) Q E s := by
  rcases g with ⟨kvs, k, e, ey, l, eH⟩ | ⟨kvs, k, b, e, ey, eb, l, eH⟩
  · subst ey eH
    obtain ⟨z, hd, vs, rel, dd⟩ := dk_of I.hok e
    have hz : vs.length ≤ sizeLine := by rw [← rel.length]; exact z
    have hl : (putK kvs k v).length ≤ sizeLine := by have := length_putK kvs k v; omega
    refine wpAny_setItem_pairs (hsz := hz) (kV_is ry) dd fun h' dd' hs => h _ ?_
    have he : ∃ q, h'.get? a = some q := let ⟨q, _, _, hq, _⟩ := dd'; ⟨q, hq⟩
    exact d_write I (by rw [e]; exact True.intro) hs he (dk_new hl hd (rel.put k rv) dd')
  · subst ey eH
    cases (show u = Value.ref b from ry)
    obtain ⟨z, hd, xs, rel, dd⟩ := dt_of I.hok e
    have hz : xs.length ≤ sizeLine := by rw [← Paired.length rel]; exact z
    have hl : (putK kvs k v).length ≤ sizeLine := by have := length_putK kvs k v; omega
    refine wpAny_setItem_heap (hsz := hz) (tupleKind_room_in1 hu) (key_of I.hok eb) dd fun h' dd' hs => h _ ?_
    obtain ⟨q, es, ep, hq, h2, h3, h4, _, h5⟩ := dd'
    refine d_write I (by rw [e]; exact True.intro) hs ⟨q, hq⟩ ⟨hl, hd, _, (rel.put k eb rv).keeps fun c ys ec => ?_, q, es, ep, hq, h2, h3, h4, h5⟩
    rw [upd_ne (ne_of ec e (fun z => nomatch z))]
    exact ec
end

section
variable {X : Cx} {pins : List (Addr × Obj)} {σ : St} {H : Hp} {s : Shared} {a : Addr} {kvs : List (Key × V)} {k : Key} {u : Value} {A : Around} {E : Value → Shared → Prop}
end


def tDIn (ty td : TE) : TE := fun σ H Q => ty σ H fun y H1 => td σ H1 fun x H2 => ∃ a o, x = .ref a ∧ DGet H2 a y o ∧ Q (.bl o.isSome) H2
def sDPut (td ty tv : TE) : TS := fun D σ H => tv σ H fun v H1 => td σ H1 fun x H2 => ty σ H2 fun y H3 => ∃ a H4, x = .ref a ∧ DPut H3 a y v H4 ∧ D.nx σ H4
section
variable {X : Cx} {o i e value : Expr} {pos pos' tpos : Pos} {td ty tv : TE}
theorem pc_din (hu : X.A.units + 1 < cLine) (hi : PE X i ty) (ho : PE X o td) : PC X .In i o (tDIn ty td) := by
  intro pins s σ H Q I h
  refine thn (hi pins s σ H _ I h) fun iv s1 ⟨y, H1, I1, ry, q1⟩ => thn (ho pins s1 σ H1 _ I1 q1) fun u s2 ⟨x, H2, I2, rx, a, ov, ex, g, q2⟩ => ?_
  subst ex
  obtain rfl : u = Value.ref a := rx
  exact d_in hu I2 g ry fun s3 I3 => ⟨.bl ov.isSome, H2, I3, rfl, q2⟩
theorem ps_dput (hu : X.A.units + 1 < cLine) (ho : PE X o td) (hi : PE X i ty) (hv : PE X value tv) (hs : swapsWith value (some (.Subscript o i pos')) pos.line X.env = pure false) :
    PS X (.Assign [.Subscript o i pos'] value pos) (sDPut td ty tv) := by
  intro pins s σ H D I h
  refine wpAny_Assign_Subscript (thn (hv pins s σ H _ I h) fun r s1 ⟨v, H1, I1, rv, q1⟩ => thn (ho pins s1 σ H1 _ I1 q1) fun u s2 ⟨x, H2, I2, rx, q2⟩ => thn (hi pins s2 σ H2 _ I2 q2) fun iv s3 ⟨y, H3, I3, ry, a, H4, ex, g, q3⟩ => ?_) hs
  subst ex
  obtain rfl : u = Value.ref a := rx
  exact d_setItem hu I3 g ry rv fun s4 I4 => ⟨σ, H4, I4, q3⟩
end


theorem dk_empty {P : Program} {w : World} {H : Hp} (h : Heap) (hb : sysModules < h.objs.size) : ObjOk P w H (h.push { cls := .type "dict", data := .dict #[] }) h.objs.size (.dK []) :=
  ⟨Nat.zero_le _, beq_eq_false_iff_ne.mpr (Ne.symm (Nat.ne_of_lt hb)), [], .nil, Heap.DictOf.new h⟩
theorem dt_empty {P : Program} {w : World} {H : Hp} (h : Heap) (hb : sysModules < h.objs.size) : ObjOk P w H (h.push { cls := .type "dict", data := .dict #[] }) h.objs.size (.dT []) :=
  ⟨Nat.zero_le _, beq_eq_false_iff_ne.mpr (Ne.symm (Nat.ne_of_lt hb)), [], .nil, _, #[], 0, Heap.get?_push_size _ rfl, ⟨rfl, rfl, rfl⟩, rfl, rfl, List.nodup_nil⟩
def tDNewK : TE := fun _ H Q => ∀ p, H p = none → Q (.ref p) (upd H p (.dK []))
def tDNewT : TE := fun _ H Q => ∀ p, H p = none → Q (.ref p) (upd H p (.dT []))
section
variable {X : Cx} {pos : Pos}
theorem pe_dnewK : PE X (.Dict [] [] pos) tDNewK := fun pins s σ H Q I h =>
  wpAny_Dict_empty ⟨.ref s.heap.objs.size, _, I.laid (a := s.heap.objs.size) (o := .dK []) (t' := s.toks) (fun _ _ q => Heap.get?_push_of_some _ q) (Nat.le_refl _) (dk_empty s.heap I.big), rfl, h _ (I.hok.fresh (Nat.le_refl _))⟩
theorem pe_dnewT : PE X (.Dict [] [] pos) tDNewT := fun pins s σ H Q I h =>
  wpAny_Dict_empty ⟨.ref s.heap.objs.size, _, I.laid (a := s.heap.objs.size) (o := .dT []) (t' := s.toks) (fun _ _ q => Heap.get?_push_of_some _ q) (Nat.le_refl _) (dt_empty s.heap I.big), rfl, h _ (I.hok.fresh (Nat.le_refl _))⟩
end

structure M1 (X : Cx) (o : Expr) (m : Str) (apos : Pos) (e : Expr) (cpos : Pos) : Prop where
  base : attributeBase o m X.env (eval o X.env) = eval o X.env
  few : ((backTo cpos (starEach [e] X.env)).all (fun x => !x.1) && (backToKw cpos (keywordEach [] X.env)).all (fun x => x.1.isSome)
    && decide (([e] : List Expr).length + ([] : List Keyword).length + (if ([] : List Keyword).isEmpty then 0 else 1) < 30)) = true
  line : (apos.endLine == cpos.line) = true
  trees : backTo cpos (starEach [e] X.env) = [(false, eval e X.env)]
structure M2 (X : Cx) (o : Expr) (m : Str) (apos : Pos) (e f : Expr) (cpos : Pos) : Prop where
  base : attributeBase o m X.env (eval o X.env) = eval o X.env
  few : ((backTo cpos (starEach [e, f] X.env)).all (fun x => !x.1) && (backToKw cpos (keywordEach [] X.env)).all (fun x => x.1.isSome)
    && decide (([e, f] : List Expr).length + ([] : List Keyword).length + (if ([] : List Keyword).isEmpty then 0 else 1) < 30)) = true
  line : (apos.endLine == cpos.line) = true
  trees : backTo cpos (starEach [e, f] X.env) = [(false, eval e X.env), (false, eval f X.env)]

def IsD (H : Hp) (a : Addr) : Prop := (∃ kvs, Rd H a (.dK kvs)) ∨ ∃ kvs, Rd H a (.dT kvs)
theorem isD_at {X : Cx} {pins : List (Addr × Obj)} {σ : St} {H : Hp} {s : Shared} {a : Addr} (I : Inv X pins σ H s) (d : IsD H a) :
    s.TypeIs (.ref a) "dict" ∧ (∀ b, Value.ref a = .ref b → ∃ ob, s.heap.get? b = some ob ∧ ob.dict = none) ∧ (a == sysModules) = false := by
  rcases d with ⟨kvs, e⟩ | ⟨kvs, e⟩
  · obtain ⟨_, hd, vs, _, dd⟩ := dk_rd I.hok e
    refine ⟨dd.typeIs, fun b q => ?_, hd⟩
    cases q
    obtain ⟨ob, _, _, h1, h2, _⟩ := dd
    exact ⟨ob, h1, h2.2.1⟩
  · obtain ⟨_, hd, xs, _, dd⟩ := dt_rd I.hok e
    refine ⟨dd.typeIs, fun b q => ?_, hd⟩
    cases q
    obtain ⟨ob, _, _, h1, h2, _⟩ := dd
    exact ⟨ob, h1, h2.2.1⟩

section
variable {X : Cx} {pins : List (Addr × Obj)} {σ : St} {H : Hp} {s : Shared} {a : Addr} {y d : V} {u r : Value} {o : Option V} {A : Around} {E : Value → Shared → Prop}
theorem d_get2 {Q : Value → Shared → Prop} (hu : A.units + 1 < cLine) (I : Inv X pins σ H s) (g : DGet H a y o) (ry : RelV y u) (rd : RelV d r) (h : ∀ w' s', Inv X pins σ H s' → RelV (o.getD d) w' → Q w' s') :
    wpAny (model X.prog X.w) A (call (.builtin "dict.get") [.ref a, u, r]) Q E s := by
  rcases g with ⟨kvs, k, e, ey, l⟩ | ⟨kvs, k, b, e, ey, eb, l⟩
  · subst ey
    obtain ⟨z, hd, vs, rel, dd⟩ := dk_rd I.hok e
    refine call_meetsIn PySem.F.slot_dict_get dd.typeIs PySem.F.entry_dict_get (PySem.F.args_dict_get_3 _ _ _) (meets_dict_get_default (mixKind X.prog X.w) a (kV_is ry) hd r) ⟨_, dd.mapOf, h _ _ (I.tok _) ?_⟩
    rw [l]
    exact (rel.val k).getD rd
  · subst ey
    cases (show u = Value.ref b from ry)
    obtain ⟨z, hd, xs, rel, dd⟩ := dt_rd I.hok e
    refine call_meetsIn PySem.F.slot_dict_get dd.typeIs PySem.F.entry_dict_get (PySem.F.args_dict_get_3 _ _ _) (meetsH_dict_get_default (tupleKind (mixKind X.prog X.w)) a b hd r) ⟨tupleKind_room_in1 hu, k, xs, key_of I.hok eb, dd, h _ _ (I.tok _) ?_⟩
    rw [l]
    exact (rel.val k).getD rd
end

def tDGet2 (td ty tx : TE) : TE := fun σ H Q => td σ H fun x H1 => ∃ a, x = .ref a ∧ IsD H1 a ∧ ty σ H1 fun y H2 => tx σ H2 fun z H3 => ∃ o, DGet H3 a y o ∧ Q (o.getD z) H3
section
variable {X : Cx} {o e f : Expr} {apos cpos : Pos} {td ty tx : TE}
theorem pe_dget2 (hu : X.A.units + 1 < cLine) (ho : PE X o td) (he : PE X e ty) (hf : PE X f tx) (m : M2 X o "get" apos e f cpos) : PE X (.Call (.Attribute o "get" apos) [e, f] [] cpos) (tDGet2 td ty tx) := by
  intro pins s σ H Q I h
  refine wpAny_Call_method m.base m.few m.line PySem.F.plainAttrs_dict PySem.F.slot_dict_get PySem.F.type_dict_get (thn (ho pins s σ H _ I h) fun u s1 ⟨x, H1, I1, rx, a, ex, d, q1⟩ => ?_)
  subst ex
  obtain rfl : u = Value.ref a := rx
  obtain ⟨t1, t2, _⟩ := isD_at I1 d
  refine ⟨t1, t2, ?_⟩
  rw [m.trees]
  refine Calls.callWith_builtin rfl (Calls.evalArgs_plain (Calls.spliced_cons (thn (he pins s1 σ H1 _ I1 q1) fun iv s2 ⟨y, H2, I2, ry, q2⟩ =>
    Calls.spliced_cons (thn (hf pins s2 σ H2 _ I2 q2) fun fv s3 ⟨z, H3, I3, rz, ov, g, q3⟩ => Calls.spliced_nil ?_))))
  exact d_get2 hu I3 g ry rz fun w' s4 I4 rw' => ⟨_, H3, I4, rw', q3⟩
end

section
variable {X : Cx} {pins : List (Addr × Obj)} {σ : St} {H : Hp} {s : Shared} {a : Addr} {kvs : List (Key × V)} {A : Around} {E : Value → Shared → Prop}
end


section
variable {X : Cx} {pins : List (Addr × Obj)} {σ : St} {H : Hp} {s : Shared} {a : Addr} {y : V} {u : Value} {A : Around} {E : Value → Shared → Prop}
end
end L2

namespace L2
open PySem PySem.Spec PyProof.Rows

section
variable {prog : Program} {w : World} {A : Around} {E : Value → Shared → Prop}
end

section
variable {X : Cx}
end
end L2

namespace L2
open PySem PySem.Spec PyProof.Rows

section
variable {X : Cx} {pins : List (Addr × Obj)} {σ : St} {H : Hp} {s : Shared} {h' : Heap}
theorem Inv.turnedL {t' : Nat} {ch : List Addr} (I : Inv X pins σ H s) (k : ∀ b o, b ∉ ch → s.heap.get? b = some o → h'.get? b = some o) (hf : ∀ b ∈ ch, FpOk X pins H b) : Inv X pins σ H { s with heap := h', toks := t' } := by
  have nit : ∀ b u, H b = some u → b ∉ ch := fun b u e z => by
    have q := (hf b z).1
    rw [q] at e; cases e
  refine I.step (g' := s.gens) (d' := s.drawn) (ch := ch) (fun b hb => ⟨(hf b hb).2.2.2.1, (hf b hb).2.1, (hf b hb).2.2.2.2.1, (hf b hb).2.2.2.2.2⟩) (fun b o _ _ hc e _ => k b o hc e) (fun b o _ _ hc e _ => ⟨o.slots, k b o hc e⟩)
    (fun _ _ _ _ n => n) (fun b o hc e => ⟨o, k b o hc e⟩) (fun _ _ e => e) (fun _ _ _ e => e) (fun b ps e => ⟨#[], by rw [e]; simp⟩) (fun m hm => ?_) (fun b u e => ?_) I.bare
  · obtain ⟨o, es, ep, ho, r⟩ := hm
    exact ⟨o, es, ep, k _ o (fun z => (hf _ z).2.1 rfl) ho, r⟩
  · refine (I.hok b u e).stay (fun c v hc q => k c v ?_ q) (fun _ q => q) fun _ _ q => q
    rcases hc with z | z
    · rw [z]; exact nit b u e
    · exact nit c _ z
theorem Inv.turnedNew {t' : Nat} {ch : List Addr} {T : Addr} {ob : HO} (I : Inv X pins σ H s) (k : ∀ b o, b ∉ ch → s.heap.get? b = some o → h'.get? b = some o) (hf : ∀ b ∈ ch, FpOk X pins H b) (hT : s.heap.objs.size ≤ T)
    (new : ObjOk X.prog X.w (upd H T ob) h' T ob) : Inv X pins σ (upd H T ob) { s with heap := h', toks := t' } := by
  have hn : H T = none := I.hok.fresh hT
  have nit : ∀ b u, H b = some u → b ∉ ch := fun b u e z => by
    have q := (hf b z).1
    rw [q] at e; cases e
  refine I.step (g' := s.gens) (d' := s.drawn) (ch := ch) (fun b hb => ⟨(hf b hb).2.2.2.1, (hf b hb).2.1, (hf b hb).2.2.2.2.1, (hf b hb).2.2.2.2.2⟩) (fun b o _ _ hc e _ => k b o hc e) (fun b o _ _ hc e _ => ⟨o.slots, k b o hc e⟩)
    (fun b o _ e n => ?_) (fun b o hc e => ⟨o, k b o hc e⟩) (fun b xs e => ?_) (fun b o u e => ?_) (fun b ps e => ⟨#[], ?_⟩) (fun m hm => ?_) (fun b u e => ?_) I.bare
  · rw [upd_ne (Nat.ne_of_lt (Nat.lt_of_lt_of_le (Heap.lt_size e) hT))]; exact n
  · rw [upd_ne (ne_of_none e hn)]; exact e
  · rw [upd_ne (ne_of_none e hn)]; exact e
  · rw [upd_ne (ne_of_none e hn), e]; simp
  · obtain ⟨o, es, ep, ho, r⟩ := hm
    exact ⟨o, es, ep, k _ o (fun z => (hf _ z).2.1 rfl) ho, r⟩
  · by_cases hb : b = T
    · subst hb
      rw [upd_same] at e
      cases e
      exact new
    · rw [upd_ne hb] at e
      refine (I.hok b u e).stay (fun c v hc q => k c v ?_ q) (fun c q => by rw [upd_ne (ne_of_none q hn)]; exact q) fun c xs q => by rw [upd_ne (ne_of_none q hn)]; exact q
      rcases hc with z | z
      · rw [z]; exact nit b u e
      · exact nit c _ z

theorem Inv.lock {d : Addr} {u : HO} (I : Inv X pins σ H s) (h : H d = some u) (mu : Mut (some u)) : ∃ od, Inv X pins σ (upd H d (.frz od u)) s := by
  have x := I.hok d u h
  have ex : ∃ od, s.heap.get? d = some od := by
    cases u with
    | lst xs => obtain ⟨_, _, _, _, e⟩ := x; exact ⟨_, e⟩
    | dK kvs => obtain ⟨_, _, _, _, o, _, _, e, _⟩ := x; exact ⟨o, e⟩
    | dT kvs => obtain ⟨_, _, _, _, o, _, _, e, _⟩ := x; exact ⟨o, e⟩
    | set S n => obtain ⟨o, _, _, _, e, _⟩ := x; exact ⟨o, e⟩
    | ins C dx fs => obtain ⟨_, _, _, e, _⟩ := x; exact ⟨_, e⟩
    | ext φ => obtain ⟨_, ⟨_, e⟩, _⟩ := x; exact ⟨_, e⟩
    | _ => exact False.elim mu
  obtain ⟨od, e⟩ := ex
  have new : ObjOk X.prog X.w (upd H d (.frz od u)) s.heap d (.frz od u) := by
    refine ⟨e, x.stay (fun b v _ q => q) (fun b q => ?_) fun b xs q => ?_⟩
    · rw [upd_ne (fun z => by rw [z, h] at q; cases q; exact mu)]; exact q
    · rw [upd_ne (fun z => by rw [z, h] at q; cases q; exact mu)]; exact q
  exact ⟨od, I.write (x := d) (e := d) (t' := s.toks) (h' := s.heap) (by rw [h]; exact mu) (.inl rfl) (fun b v _ q => q) ⟨od, e⟩ new⟩
theorem Inv.nofrz {d : Addr} {u : HO} (I : Inv X pins σ H s) (h : H d = some u) (mu : Mut (some u)) : ∀ o' u', X.H_0 d ≠ some (.frz o' u') := fun o' u' e => by
  have q := I.base.frzs d o' u' e
  rw [h] at q
  cases q
  exact mu
theorem Inv.unlock {d : Addr} {od : Obj} {u : HO} (I : Inv X pins σ H s) (h : H d = some (.frz od u)) (hn : ∀ o' u', X.H_0 d ≠ some (.frz o' u')) : Inv X pins σ (upd H d u) s := by
  have neH : ∀ b o, H b = some o → (∀ o' u', o ≠ .frz o' u') → b ≠ d := fun b o e hne z => by
    rw [z, h] at e
    cases e
    exact hne _ _ rfl
  have neN : ∀ b, H b = none → b ≠ d := fun b e z => by rw [z, h] at e; cases e
  refine ⟨I.ok, I.os, I.bare, ⟨I.base.keep, I.base.slot, fun b o e n hx => ?_, I.base.there, fun b xs e => ?_, fun b o x e => ?_, fun b ps e => ?_⟩, I.loc, I.cell, ?_, fun x c e => ?_, fun p hp => ?_, fun b o e => ?_, I.len⟩
  · rw [upd_ne (neN b (I.base.free b o e n hx))]; exact I.base.free b o e n hx
  · have q := I.base.tups b xs e
    rw [upd_ne (neH b _ q (fun _ _ z => nomatch z))]; exact q
  · have q := I.base.frzs b o x e
    rw [upd_ne (fun z => by rw [z] at e; exact hn _ _ e)]; exact q
  · obtain ⟨m, q⟩ := I.base.tbls b ps e
    exact ⟨m, by rw [upd_ne (neH b _ q (fun _ _ z => nomatch z))]; exact q⟩
  · rw [upd_ne (neN _ I.free)]; exact I.free
  · rw [upd_ne (neN c (I.freeC x c e))]; exact I.freeC x c e
  · obtain ⟨e, n, r⟩ := I.pin p hp
    exact ⟨e, by rw [upd_ne (neN _ n)]; exact n, r⟩
  · by_cases hb : b = d
    · rw [hb, upd_same] at e
      cases e
      rw [hb]
      obtain ⟨_, x⟩ := I.hok d _ h
      exact x.stay (fun c v _ q => q) (fun c q => by rw [upd_ne (neH c _ q (fun _ _ z => nomatch z))]; exact q) fun c xs q => by rw [upd_ne (neH c _ q (fun _ _ z => nomatch z))]; exact q
    · rw [upd_ne hb] at e
      exact (I.hok b o e).stay (fun c v _ q => q) (fun c q => by rw [upd_ne (neH c _ q (fun _ _ z => nomatch z))]; exact q) fun c xs q => by rw [upd_ne (neH c _ q (fun _ _ z => nomatch z))]; exact q
end
def tLock (t : TS) : TS := fun D σ H => ∃ d u, H d = some u ∧ Mut (some u) ∧ ∀ od, t ⟨fun σ' H' => H' d = some (.frz od u) ∧ D.nx σ' (upd H' d u), fun v H' => H' d = some (.frz od u) ∧ D.rt v (upd H' d u), fun σ' H' => H' d = some (.frz od u) ∧ D.bk σ' (upd H' d u), fun σ' H' => H' d = some (.frz od u) ∧ D.ct σ' (upd H' d u)⟩ σ (upd H d (.frz od u))
section
variable {X : Cx}
theorem ps_lock {st : Stmt} {t : TS} (h : PS X st t) : PS X st (tLock t) := by
  intro pins s σ H D I hw
  obtain ⟨d, u, hd, mu, hw⟩ := hw
  obtain ⟨od, I1⟩ := I.lock hd mu
  refine thn (h pins s σ _ _ I1 (hw od)) fun f s1 q => ?_
  cases f with
  | next => obtain ⟨σ', H', I2, e, q⟩ := q; exact ⟨σ', _, I2.unlock e (I.nofrz hd mu), q⟩
  | brk => obtain ⟨σ', H', I2, e, q⟩ := q; exact ⟨σ', _, I2.unlock e (I.nofrz hd mu), q⟩
  | cont => obtain ⟨σ', H', I2, e, q⟩ := q; exact ⟨σ', _, I2.unlock e (I.nofrz hd mu), q⟩
  | ret v => obtain ⟨x, σ', H', I2, r, e, q⟩ := q; exact ⟨x, σ', _, I2.unlock e (I.nofrz hd mu), r, q⟩
theorem pi_one {tg : Expr} {pins : List (Addr × Obj)} {σ : St} {H : Hp} {s : Shared} {R : It → Hp → Prop} {J : It} {tn : Nat → Heap → Prop} {tk : Nat} (I : Inv X pins σ H s) (o : Obj)
    (T : Turn X.prog X.w X.K tg J [s.heap.objs.size] s.heap.objs.size tn) (st : tn 0 (s.heap.push o)) (q : R J H) : PIE X pins σ tg R (.ref s.heap.objs.size) { s with heap := s.heap.push o, toks := tk } := by
  refine ⟨s.heap.objs.size, [s.heap.objs.size], tn, J, H, rfl, I.kept fun b ob e => Heap.get?_push_of_some _ e, T, st, fun b hb => ?_, q⟩
  have e : b = s.heap.objs.size := by simpa using hb
  subst e
  exact I.fpOk (Nat.le_refl _) (I.hok.fresh (Nat.le_refl _))
end

section
variable {X : Cx} {tg : Expr}
end
section
variable {X : Cx} {tg : Expr}
end

section
variable {prog : Program} {w : World} {A : Around} {E : Value → Shared → Prop} {s : Shared}
theorem iter_keys {d : Addr} {o : Obj} {es : Array DictEntry} {ep : Nat} {Q : Value → Shared → Prop} (hd : (d == sysModules) = false) (ho : s.heap.get? d = some o) (hc : o.ExactDict) (hdat : o.data = .dict es ep)
    (hQ : Q (.ref s.heap.objs.size) { s with heap := s.heap.push { cls := .type "dict_keyiterator", data := .fields #[.ref d, .int 0 0, .int es.size 0, .int ep 0] } }) :
    wpAny (model prog w) A (pyIter (.ref d)) Q E s := by
  have hT : s.TypeIs (.ref d) "dict" := ⟨o, ho, hc.1⟩
  refine wpAny_pyIter_slot hT F.slot_dict_iter (wpAny_call_entry F.slot_dict_iter hT F.entry_dict_iter ?_ (F.args_dict_iter_1 _))
  unfold Builtin.«dict.__iter__»
  refine wpAny_bind ?_
  unfold Builtin.Dict.dictSlotNone
  refine wpAny_bind (wpAny_notOrdered_dict hT ?_)
  show wpAny _ _ (pure (Value.ref d)) _ _ s
  refine wpAny_pure ?_
  show wpAny _ _ (Builtin.Dict.showsAll d >>= _) _ _ s
  unfold Builtin.Dict.showsAll
  rw [if_neg (by rw [hd]; exact Bool.false_ne_true)]
  refine wpAny_bind (wpAny_pure ?_)
  refine wpAny_bind (wpAny_dictEntries ho hdat ?_)
  refine wpAny_bind (wpAny_dictEpoch ho hdat ?_)
  refine wpAny_bind (wpAny_newObj_type (wpAny_pure ⟨_, rfl, "dict_keyiterator", _, ⟨_, Heap.get?_push_size _ rfl, rfl⟩, F.slot_dict_keyiterator_next.lookup, ?_⟩))
  simpa [rawInt] using hQ
theorem next_key_item {it d : Addr} {i n ep : Nat} {od : Obj} {es : Array DictEntry} {en : DictEntry} {Q : Option Value → Shared → Prop} (hit : s.heap.IsKeyIter it d i n ep) (hod : s.heap.get? d = some od) (hdd : od.data = .dict es ep)
    (hsz : es.size = n) (hx : es[i]? = some en) (hQ : ∀ h', h'.IsKeyIter it d (i + 1) n ep → Heap.SameBut it s.heap h' → Q (some en.key) { s with heap := h' }) : wpAny (model prog w) A (pyNext (.ref it)) Q E s := by
  obtain ⟨o, ho, hc, hd⟩ := id hit
  unfold pyNext
  refine wpAny_bind (wpAny_attempt (wpAny_callSpecial?_slot (name := Str.ofString "__next__") hit.typeIs F.slot_dict_keyiterator_next
    (wpAny_call_entry F.slot_dict_keyiterator_next hit.typeIs F.entry_dict_keyiterator_next ?_ (F.args_dict_keyiterator_next_1 _))))
  refine wpAny_bind (wpAny_pure ?_)
  refine wpAny_bind ?_
  refine wpAny_bind ?_
  first | refine wpAny_bind (wpAny_typeNameOfWhole_keyiter hit.typeIs (wpAny_pure ?_)) | refine wpAny_bind (wpAny_typeNameOf_keyiter hit.typeIs (wpAny_pure ?_))
  refine wpAny_bind (wpAny_fieldsOf ho hd ?_)
  have hown : Builtin.Dict_items.ownsTuple "dict_keyiterator" = false := by decide
  simp only [hown, Bool.false_eq_true, if_false]
  show wpAny _ _ (if (Value.ref d == Value.none) = true then _ else _) _ _ s
  rw [if_neg (show ¬ ((Value.ref d == Value.none) = true) from Bool.false_ne_true)]
  refine wpAny_bind (wpAny_pure ?_)
  refine wpAny_bind (wpAny_dictEntries hod hdd ?_)
  rw [if_neg (by rw [hsz]; simp)]
  refine wpAny_bind (wpAny_pure ?_)
  refine wpAny_bind (wpAny_dictEpoch hod hdd ?_)
  rw [if_neg (by simp)]
  refine wpAny_pure ?_
  obtain ⟨hlt', hen⟩ := Array.getElem?_eq_some_iff.mp hx
  simp only [show ¬ ((i : Int) < 0) from by omega, if_false, Int.toNat_natCast, Array.getElem?_eq_getElem hlt']
  refine wpAny_bind ?_
  first | refine wpAny_bind (wpAny_typeNameOfWhole_keyiter hit.typeIs (wpAny_pure ?_)) | refine wpAny_bind (wpAny_typeNameOf_keyiter hit.typeIs (wpAny_pure ?_))
  refine wpAny_bind (wpAny_isOneOf_keyiter hit.typeIs ?_)
  show wpAny _ _ (setField (.ref it) 1 (rawInt ((i : Int) + 1)) >>= _) _ _ s
  refine wpAny_bind (wpAny_setField ho hd (by simp) ?_)
  have hit' : (s.heap.update it (Obj.mapFields (·.setIfInBounds 1 (rawInt ((i : Int) + 1))))).IsKeyIter it d (i + 1) n ep :=
    ⟨_, Heap.get?_update_self _ ho (Obj.isFreed_of_fields (Obj.data_mapFields hd _)), (Obj.cls_mapFields ..).trans hc, by rw [Obj.data_mapFields hd]; simp [rawInt]⟩
  refine wpAny_bind (wpAny_holding ?_)
  refine wpAny_bind (wpAny_isOneOf_keyiter (s := { s with heap := s.heap.update it (Obj.mapFields (·.setIfInBounds 1 (rawInt ((i : Int) + 1)))) }) hit'.typeIs ?_)
  show wpAny _ _ (pure es[i].key) _ _ _
  rw [hen]
  exact wpAny_pure (wpAny_pure ⟨_, rfl, wpAny_pure (hQ _ hit' (Heap.SameBut.update ..))⟩)
theorem next_key_end {it d : Addr} {i n ep : Nat} {od : Obj} {es : Array DictEntry} {Q : Option Value → Shared → Prop} (hh : A.handled = none) (hit : s.heap.IsKeyIter it d i n ep) (hod : s.heap.get? d = some od) (hdd : od.data = .dict es ep)
    (hsz : es.size = n) (hge : n ≤ i) (hQ : ∀ h', Heap.ExtBut it s.heap h' → Q none { s with heap := h' }) : wpAny (model prog w) A (pyNext (.ref it)) Q E s := by
  obtain ⟨o, ho, hc, hd⟩ := id hit
  unfold pyNext
  refine wpAny_bind (wpAny_attempt (wpAny_callSpecial?_slot (name := Str.ofString "__next__") hit.typeIs F.slot_dict_keyiterator_next
    (wpAny_call_entry F.slot_dict_keyiterator_next hit.typeIs F.entry_dict_keyiterator_next ?_ (F.args_dict_keyiterator_next_1 _))))
  refine wpAny_bind (wpAny_pure ?_)
  refine wpAny_bind ?_
  refine wpAny_bind ?_
  first | refine wpAny_bind (wpAny_typeNameOfWhole_keyiter hit.typeIs (wpAny_pure ?_)) | refine wpAny_bind (wpAny_typeNameOf_keyiter hit.typeIs (wpAny_pure ?_))
  refine wpAny_bind (wpAny_fieldsOf ho hd ?_)
  have hown : Builtin.Dict_items.ownsTuple "dict_keyiterator" = false := by decide
  simp only [hown, Bool.false_eq_true, if_false]
  show wpAny _ _ (if (Value.ref d == Value.none) = true then _ else _) _ _ s
  rw [if_neg (show ¬ ((Value.ref d == Value.none) = true) from Bool.false_ne_true)]
  refine wpAny_bind (wpAny_pure ?_)
  refine wpAny_bind (wpAny_dictEntries hod hdd ?_)
  rw [if_neg (by rw [hsz]; simp)]
  refine wpAny_bind (wpAny_pure ?_)
  refine wpAny_bind (wpAny_dictEpoch hod hdd ?_)
  rw [if_neg (by simp)]
  refine wpAny_pure ?_
  have hge' : es.size ≤ i := by rw [hsz]; exact hge
  simp only [show ¬ ((i : Int) < 0) from by omega, if_false, Int.toNat_natCast, Array.getElem?_eq_none hge']
  refine wpAny_bind ?_
  first | refine wpAny_bind (wpAny_typeNameOfWhole_keyiter hit.typeIs (wpAny_pure ?_)) | refine wpAny_bind (wpAny_typeNameOf_keyiter hit.typeIs (wpAny_pure ?_))
  show wpAny _ _ (setField (.ref it) 0 .none >>= _) _ _ s
  refine wpAny_bind (wpAny_setField ho hd (by simp) ?_)
  show wpAny _ _ (newExc (.type "StopIteration") [] >>= _) _ _ _
  refine wpAny_bind ?_
  simp only [newExc, newTuple]
  refine wpAny_bind (wpAny_newObj_type ?_ (by size_fits))
  refine wpAny_bind (m := firstArgMember _ _) (wpAny_of_eq (a := Value.none) (by first | rfl | (simp only [firstArgMember]; rfl)) ?_)
  refine wpAny_newObj_type ?_ (by size_fits)
  simp only [raiseNew]
  refine wpAny_bind (wpAny_handled ?_)
  rw [show A.in1.handled = none from hh]
  refine wpAny_bind (wpAny_pure (wpAny_throw ?_))
  refine wpAny_bind (wpAny_isInstance (T := "StopIteration") (b := true) ⟨_, Heap.get?_push_size _ rfl, rfl⟩ isSubtype_stop ?_)
  exact wpAny_pure (hQ _ (((Heap.SameBut.update ..).extBut.push _).push _))
end

theorem kv_get {κ : Type} {kvs : List (κ × V)} {vs : List (κ × Value)} (h : KV kvs vs) : ∀ {i : Nat} {k : κ} {v : V}, kvs[i]? = some (k, v) → ∃ u, vs[i]? = some (k, u) ∧ RelV v u := by
  unfold KV at h
  induction h with
  | nil => intro i k v e; simp at e
  | @cons a b l₁ l₂ r t ih =>
    intro i k v e
    cases i with
    | zero =>
      simp only [List.getElem?_cons_zero, Option.some.injEq] at e
      subst e
      refine ⟨b.2, ?_, r.2⟩
      simp only [List.getElem?_cons_zero]
      exact congrArg some (Prod.ext r.1.symm rfl)
    | succ j =>
      simp only [List.getElem?_cons_succ] at e ⊢
      exact ih e
theorem paired_get {α β : Type} {G : α → β → Prop} {l₁ : List α} {l₂ : List β} (h : Paired G l₁ l₂) : ∀ {i : Nat} {a : α}, l₁[i]? = some a → ∃ b, l₂[i]? = some b ∧ G a b := by
  induction h with
  | nil => intro i a e; simp at e
  | @cons a b l₁ l₂ r t ih =>
    intro i a' e
    cases i with
    | zero =>
      simp only [List.getElem?_cons_zero, Option.some.injEq] at e
      subst e
      exact ⟨b, rfl, r⟩
    | succ j =>
      simp only [List.getElem?_cons_succ] at e ⊢
      exact ih e
theorem relV_key {k : Key} {u : Value} (h : keyIs k u = true) : RelV (kV k) u := by
  rcases keyIs_shape h with ⟨i, t, rfl, rfl⟩ | ⟨x, t, rfl, rfl⟩
  · exact ⟨t, rfl⟩
  · exact ⟨t, rfl⟩
section
variable {X : Cx} {pins : List (Addr × Obj)} {σ : St} {H : Hp} {s : Shared} {d : Addr} {o : Obj}
theorem Inv.frzK {kvs : List (Key × V)} (I : Inv X pins σ H s) (h : H d = some (.frz o (.dK kvs))) :
    (d == sysModules) = false ∧ s.heap.get? d = some o ∧ o.ExactDict ∧ ∃ (es : Array DictEntry) (ep : Nat) (vs : List (Key × Value)), o.data = .dict es ep ∧ es.size = kvs.length ∧ KV kvs vs ∧ s.heap.DictAt (mixKind X.prog X.w) d vs ep := by
  obtain ⟨hd, z, hs, vs, kv, o', es, ep, ho, hx, hdt, r⟩ := I.hok d _ h
  rw [hd] at ho
  cases ho
  refine ⟨hs, hd, hx, es, ep, vs, hdt, ?_, kv, o, es, hd, hx, hdt, r⟩
  have l1 := r.2.1.length
  have l2 : kvs.length = vs.length := Paired.length kv
  rw [Array.length_toList] at l1
  omega
theorem Inv.frzT {kvs : List (List Key × V)} (I : Inv X pins σ H s) (h : H d = some (.frz o (.dT kvs))) :
    (d == sysModules) = false ∧ s.heap.get? d = some o ∧ o.ExactDict ∧ ∃ (es : Array DictEntry) (ep : Nat), o.data = .dict es ep ∧ es.size = kvs.length ∧
      ∀ (i : Nat) (k : List Key) (v : V), kvs[i]? = some (k, v) → ∃ (en : DictEntry) (q : Addr), es[i]? = some en ∧ en.key = .ref q ∧ H q = some (.tup (k.map kV)) := by
  obtain ⟨hd, z, hs, xs, pr, o', es, ep, ho, hx, hdt, he, _⟩ := I.hok d _ h
  rw [hd] at ho
  cases ho
  refine ⟨hs, hd, hx, es, ep, hdt, ?_, fun i k v e => ?_⟩
  · have l1 : es.size = xs.length := size_of_entries he
    have l2 : kvs.length = xs.length := Paired.length pr
    omega
  · obtain ⟨b, hb, e1, e2, _⟩ := paired_get pr e
    have q := entry_at he i
    rw [hb] at q
    exact ⟨_, b.2.1, q, rfl, e2⟩
end

def Itk (d : Addr) (o : Obj) (kvs : List (Key × V)) : It :=
  ⟨fun i H => H d = some (.frz o (.dK kvs)) ∧ i < kvs.length, fun i H x H' => H' = H ∧ ∃ k v, kvs[i]? = some (k, v) ∧ x = kV k, fun i H => H d = some (.frz o (.dK kvs)) ∧ kvs.length ≤ i⟩
def Itkt (d : Addr) (o : Obj) (kvs : List (List Key × V)) : It :=
  ⟨fun i H => H d = some (.frz o (.dT kvs)) ∧ i < kvs.length, fun i H x H' => H' = H ∧ ∃ (k : List Key) (v : V) (q : Addr), kvs[i]? = some (k, v) ∧ x = .ref q ∧ H q = some (.tup (k.map kV)), fun i H => H d = some (.frz o (.dT kvs)) ∧ kvs.length ≤ i⟩
theorem dict_ep {o : Obj} {es es' : Array DictEntry} {ep ep' : Nat} (h : o.data = .dict es ep) (h' : o.data = .dict es' ep') : es' = es ∧ ep' = ep := by
  rw [h] at h'
  cases h'
  exact ⟨rfl, rfl⟩
section
variable {P : Program} {w : World} {K : PySem.W.Frag} {tg : Expr} {d : Addr} {o : Obj} {es : Array DictEntry} {ep : Nat}
theorem turn_keys {kvs : List (Key × V)} (it : Addr) (hod : o.data = .dict es ep) : Turn P w K tg (Itk d o kvs) [it] it (fun i h => h.IsKeyIter it d i kvs.length ep) where
  mem := by simp
  obj := fun i h st b hb => by
    have e : b = it := by simpa using hb
    subst e
    obtain ⟨oi, e, c, dd⟩ := st
    exact ⟨oi, e, fun v z => by rw [dd] at z; cases z⟩
  keep := fun i h h' st k => st.at fun oi e => k it (by simp) oi e
  item := by
    intro X hP hw hK hc i pins s σ H E I hf st hg
    subst hP hw hK
    obtain ⟨hd, hi⟩ := hg
    obtain ⟨f0, f1, f2, f3, f4, f5⟩ := hf it (by simp)
    obtain ⟨hs, hgd, hx, es', ep', vs, hdt, hsz, kv, hm⟩ := I.frzK hd
    obtain ⟨rfl, rfl⟩ := dict_ep hod hdt
    obtain ⟨⟨k, v⟩, hkv⟩ : ∃ p, kvs[i]? = some p := ⟨kvs[i], List.getElem?_eq_getElem hi⟩
    obtain ⟨u, hu, ru⟩ := kv_get kv hkv
    have hl : kvs.length = vs.length := Paired.length kv
    rw [hl] at st
    refine wpAny_pyNext_dict_item st hm hu fun key h' hkey st' sb => ?_
    have I1 : Inv X pins σ H { s with heap := h' } := I.turned (t' := s.toks) (fun b ob hb e => (sb.2 b hb).trans e) f0 f1 f3 f4 f5
    obtain ⟨oi, e, c, dd⟩ := id st'
    refine ⟨key, rfl, go_of (s := { s with heap := h' }) e c dd (by decide) ⟨kV k, H, I1, relV_key (show keyIs k key = true from hkey), ⟨rfl, k, v, hkv, rfl⟩, ?_, fun b hb => (hf b hb).1⟩⟩
    show h'.IsKeyIter it d (i + 1) kvs.length _
    rw [hl]
    exact st'
  done := by
    intro X hP hw hK hc i pins s σ H E I hf st hg
    subst hP hw hK
    obtain ⟨hd, hi⟩ := hg
    obtain ⟨f0, f1, f2, f3, f4, f5⟩ := hf it (by simp)
    obtain ⟨hs, hgd, hx, es', ep', vs, hdt, hsz, kv, hm⟩ := I.frzK hd
    obtain ⟨rfl, rfl⟩ := dict_ep hod hdt
    exact next_key_end (I.ok.hd hc) st hgd hdt hsz hi fun h' eb => ⟨rfl, I.turned (t' := s.toks) (fun b ob hb e => eb b ob hb e) f0 f1 f3 f4 f5⟩
  self := fun A i s Q E st h => wpAny_pyIter_keyiter st h
theorem turn_keysT {kvs : List (List Key × V)} (it : Addr) (hod : o.data = .dict es ep) : Turn P w K tg (Itkt d o kvs) [it] it (fun i h => h.IsKeyIter it d i kvs.length ep) where
  mem := by simp
  obj := fun i h st b hb => by
    have e : b = it := by simpa using hb
    subst e
    obtain ⟨oi, e, c, dd⟩ := st
    exact ⟨oi, e, fun v z => by rw [dd] at z; cases z⟩
  keep := fun i h h' st k => st.at fun oi e => k it (by simp) oi e
  item := by
    intro X hP hw hK hc i pins s σ H E I hf st hg
    subst hP hw hK
    obtain ⟨hd, hi⟩ := hg
    obtain ⟨f0, f1, f2, f3, f4, f5⟩ := hf it (by simp)
    obtain ⟨hs, hgd, hx, es', ep', hdt, hsz, ent⟩ := I.frzT hd
    obtain ⟨rfl, rfl⟩ := dict_ep hod hdt
    obtain ⟨⟨k, v⟩, hkv⟩ : ∃ p, kvs[i]? = some p := ⟨kvs[i], List.getElem?_eq_getElem hi⟩
    obtain ⟨en, q, hen, hkey, hq⟩ := ent i k v hkv
    refine next_key_item st hgd hdt hsz hen fun h' st' sb => ?_
    have I1 : Inv X pins σ H { s with heap := h' } := I.turned (t' := s.toks) (fun b ob hb e => (sb.2 b hb).trans e) f0 f1 f3 f4 f5
    obtain ⟨oi, e, c, dd⟩ := id st'
    exact ⟨en.key, rfl, go_of (s := { s with heap := h' }) e c dd (by decide) ⟨.ref q, H, I1, hkey, ⟨rfl, k, v, q, hkv, rfl, hq⟩, st', fun b hb => (hf b hb).1⟩⟩
  done := by
    intro X hP hw hK hc i pins s σ H E I hf st hg
    subst hP hw hK
    obtain ⟨hd, hi⟩ := hg
    obtain ⟨f0, f1, f2, f3, f4, f5⟩ := hf it (by simp)
    obtain ⟨hs, hgd, hx, es', ep', hdt, hsz, ent⟩ := I.frzT hd
    obtain ⟨rfl, rfl⟩ := dict_ep hod hdt
    exact next_key_end (I.ok.hd hc) st hgd hdt hsz hi fun h' eb => ⟨rfl, I.turned (t' := s.toks) (fun b ob hb e => eb b ob hb e) f0 f1 f3 f4 f5⟩
  self := fun A i s Q E st h => by
    refine wpAny_pyIter_slot st.typeIs F.slot_dict_keyiterator_iter (wpAny_call_entry F.slot_dict_keyiterator_iter st.typeIs F.entry_dict_keyiterator_iter ?_ (F.args_dict_keyiterator_iter_1 _))
    show wpAny _ _ (ret (.ref it)) _ _ s
    exact wpAny_pure ⟨_, rfl, "dict_keyiterator", _, st.typeIs, F.slot_dict_keyiterator_next.lookup, h⟩
end

def iKeys (td : TE) : TI := fun σ H R => td σ H fun x H1 => ∃ d o, x = .ref d ∧ ((∃ kvs, H1 d = some (.frz o (.dK kvs)) ∧ R (Itk d o kvs) H1) ∨ ∃ kvs, H1 d = some (.frz o (.dT kvs)) ∧ R (Itkt d o kvs) H1)
section
variable {X : Cx} {tg e : Expr} {td : TE} {apos cpos : Pos}
theorem pi_keys (he : PE X e td) : PI X tg e (iKeys td) := by
  intro pins s σ H R I h
  refine thn (he pins s σ H _ I h) fun u s1 ⟨x, H1, I1, rx, d, o, ex, q⟩ => ?_
  subst ex
  obtain rfl : u = Value.ref d := rx
  rcases q with ⟨kvs, hd, q⟩ | ⟨kvs, hd, q⟩
  · obtain ⟨hs, hgd, hx, es, ep, vs, hdt, hsz, kv, hm⟩ := I1.frzK hd
    refine iter_keys hs hgd hx hdt (pi_one (tk := s1.toks) I1 _ (turn_keys _ hdt) ⟨_, Heap.get?_push_size _ rfl, rfl, ?_⟩ q)
    rw [hsz] <;> rfl
  · obtain ⟨hs, hgd, hx, es, ep, hdt, hsz, ent⟩ := I1.frzT hd
    refine iter_keys hs hgd hx hdt (pi_one (tk := s1.toks) I1 _ (turn_keysT _ hdt) ⟨_, Heap.get?_push_size _ rfl, rfl, ?_⟩ q)
    rw [hsz] <;> rfl
end

def Ite (K : PySem.W.Frag) (a : Addr) : It :=
  ⟨fun i H => ∃ (xs : List V) (x : V), SqL K H a xs ∧ xs[i]? = some x, fun i H v H' => ∃ T x, v = .ref T ∧ H T = none ∧ H' = upd H T (.tup [.int (i : Nat), x]) ∧ ∀ xs, SqL K H a xs → xs[i]? = some x, fun i H => ∃ xs : List V, SqL K H a xs ∧ xs.length ≤ i⟩
theorem turn_enum {P : Program} {w : World} {K : PySem.W.Frag} {elts : List Expr} {kk : Nat} {tpos : Pos} (a e it : Addr) :
    Turn P w K (.Tuple elts kk tpos) (Ite K a) [e, it] e (fun i h => (∃ old, IsEnum h e it ((i : Nat) : Int) old) ∧ h.IsListIter it a i ∧ e ≠ it) where
  mem := by simp
  obj := fun i h st b hb => by
    obtain ⟨⟨old, he⟩, ⟨o, ho, hc, hd⟩, _⟩ := st
    have e' : b = e ∨ b = it := by simpa using hb
    rcases e' with z | z
    · rw [z]; exact ⟨_, he, fun v q => nomatch q⟩
    · rw [z]; exact ⟨o, ho, fun v q => by rw [hd] at q; cases q⟩
  keep := fun i h h' st k => let ⟨⟨old, he⟩, hi, hne⟩ := st; ⟨⟨old, k e (by simp) _ he⟩, hi.at fun o q => k it (by simp) o q, hne⟩
  item := by
    intro X hP hw hK hc i pins s σ H E I hf st hg
    subst hP hw hK
    obtain ⟨⟨old, he⟩, hit, hne⟩ := st
    obtain ⟨xs, x, hq, hx⟩ := hg
    obtain ⟨its, rv, p, hz⟩ := I.list hq
    obtain ⟨u, hu, ru⟩ := rv.get hx
    have hel : e < s.heap.objs.size := Heap.lt_size he
    have hil : it < s.heap.objs.size := by obtain ⟨_, q, _⟩ := hit; exact Heap.lt_size q
    refine wpAny_pyNext_enum_item he hit p.isList (x := u) (by simpa using hu) hne fun h' ho hit' hT hsz hk => ?_
    refine ⟨_, rfl, wpAny_letOwnedTupleGo_enum (s := { s with heap := h', toks := s.toks + 1 }) ho fun h'' he' sb => ?_⟩
    have hT2 : h''.get? s.heap.objs.size = some { cls := .type "tuple", data := .seq #[.int i s.toks, u] } := (sb.2 _ (Nat.ne_of_gt hel)).trans hT
    have new : ObjOk X.prog X.w (upd H s.heap.objs.size (.tup [.int (i : Nat), x])) h'' s.heap.objs.size (.tup [.int (i : Nat), x]) :=
      ⟨by show 2 ≤ sizeLine; decide, [.int i s.toks, u], .cons ⟨_, rfl⟩ (.cons ru .nil), ⟨_, hT2, rfl, _, rfl⟩⟩
    have I1 : Inv X pins σ (upd H s.heap.objs.size (.tup [.int (i : Nat), x])) { s with heap := h'', toks := s.toks + 1 } :=
      I.turnedNew (ch := [e, it]) (fun b ob hb q => (sb.2 b (fun z => hb (by simp [z]))).trans (hk b ob (fun z => hb (by simp [z])) (fun z => hb (by simp [z])) q)) hf (Nat.le_refl _) new
    refine ⟨.ref s.heap.objs.size, _, I1, rfl, ⟨_, x, rfl, I.hok.fresh (Nat.le_refl _), rfl, fun ys hy => by rw [I.list_inj hy hq]; exact hx⟩, ⟨⟨u, ?_⟩, hit'.at fun o q => (sb.2 it (Ne.symm hne)).trans q, hne⟩, fun b hb => ?_⟩
    · have e1 : ((i + 1 : Nat) : Int) = (i : Int) + 1 := by omega
      rw [e1]; exact he'
    · have hb' : b < s.heap.objs.size := by
        have e' : b = e ∨ b = it := by simpa using hb
        rcases e' with z | z
        · rw [z]; exact hel
        · rw [z]; exact hil
      rw [upd_ne (Nat.ne_of_lt hb')]
      exact (hf b hb).1
  done := by
    intro X hP hw hK hc i pins s σ H E I hf st hg
    subst hP hw hK
    obtain ⟨⟨old, he⟩, hit, hne⟩ := st
    obtain ⟨xs, hq, hx⟩ := hg
    obtain ⟨its, rv, p, hz⟩ := I.list hq
    obtain ⟨f0, f1, f2, f3, f4, f5⟩ := hf it (by simp)
    have hl := rv.length
    exact wpAny_pyNext_enum_end (I.ok.hd hc) he hit p.isList (by simp; omega) fun h' eb => ⟨rfl, I.turned (t' := s.toks) (fun b o hb q => eb b o hb q) f0 f1 f3 f4 f5⟩
  self := fun A i s Q E st h => let ⟨⟨_, he⟩, _⟩ := st; wpAny_pyIter_enum he h
def iEnum (K : PySem.W.Frag) (ta : TA) : TI := fun σ H R => ta σ H fun vs H1 => ∃ a xs, vs = [.ref a] ∧ SqL K H1 a xs ∧ R (Ite K a) H1
theorem pi_enum {X : Cx} {e : Expr} {ta : TA} {p pos tpos : Pos} {elts : List Expr} {kk : Nat} (hg : Gl X "enumerate") (hm : X.mg "enumerate" = none) (ha : PA X [e] ta) (hs : starEach [e] X.env = [(false, eval e X.env)] := by rfl) :
    PI X (.Tuple elts kk tpos) (.Call (.Name "enumerate" p) [e] [] pos) (iEnum X.K ta) := by
  intro pins s σ H R I h
  refine Call_ (ld_blt I hg hm boot_enumerate (PyProof.Rows.callWith_type1 (thn (ha pos pins s σ H _ I h) fun us s1 ⟨vs, H1, I1, r1, q1⟩ => ?_) hs rfl))
  obtain ⟨a, xs, ex, hq, q⟩ := q1
  subst ex
  cases r1 with
  | cons r rr =>
    cases rr
    cases r
    obtain ⟨its, rv, p', hz⟩ := I1.list hq
    refine call_enumerate_list p'.isList fun h' he hit hsz hk => wpAny_pyIter_enum he ?_
    have I2 : Inv X pins σ H1 { s1 with heap := h' } := I1.kept (t' := s1.toks) hk
    refine ⟨s1.heap.objs.size + 1, [s1.heap.objs.size + 1, s1.heap.objs.size], _, _, H1, rfl, I2, turn_enum a (s1.heap.objs.size + 1) s1.heap.objs.size, ⟨⟨.none, he⟩, hit, Nat.succ_ne_self _⟩, fun b hb => ?_, q⟩
    have e' : b = s1.heap.objs.size + 1 ∨ b = s1.heap.objs.size := by simpa using hb
    have hle : s1.heap.objs.size ≤ b := by
      rcases e' with z | z
      · rw [z]; exact Nat.le_add_right _ _
      · rw [z]; exact Nat.le_refl _
    exact I1.fpOk hle (I1.hok.fresh hle)
theorem boot_zip5 : bootBuiltins "zip" = some (.type "zip") := by decide +kernel
def Itz (K : PySem.W.Frag) (a b : Addr) : It :=
  ⟨fun i H => ∃ (xs ys : List V) (x y : V), SqL K H a xs ∧ SqL K H b ys ∧ xs[i]? = some x ∧ ys[i]? = some y,
    fun i H v H' => ∃ T x y, v = .ref T ∧ H T = none ∧ H' = upd H T (.tup [x, y]) ∧ (∀ xs, SqL K H a xs → xs[i]? = some x) ∧ ∀ ys, SqL K H b ys → ys[i]? = some y,
    fun i H => ∃ xs ys : List V, SqL K H a xs ∧ SqL K H b ys ∧ (xs.length ≤ i ∨ ys.length ≤ i)⟩
theorem turn_zip {P : Program} {w : World} {K : PySem.W.Frag} {elts : List Expr} {kk : Nat} {tpos : Pos} {a b z TI TO i1 i2 : Addr} (D : ZipApart z TI TO i1 i2 a b) :
    Turn P w K (.Tuple elts kk tpos) (Itz K a b) [z, TI, TO, i1, i2] z (fun i h => IsZip h z TI TO .none ∧ IsPair h TI (.ref i1) (.ref i2) ∧ (∃ x y, IsPair h TO x y) ∧ h.IsListIter i1 a i ∧ h.IsListIter i2 b i) where
  mem := by simp
  obj := fun i h st c hc => by
    obtain ⟨hz, hTI, ⟨x, y, hTO⟩, ⟨o1, e1, _, d1⟩, ⟨o2, e2, _, d2⟩⟩ := st
    have e' : c = z ∨ c = TI ∨ c = TO ∨ c = i1 ∨ c = i2 := by simpa using hc
    rcases e' with q | q | q | q | q
    · rw [q]; exact ⟨_, hz, fun v q => nomatch q⟩
    · rw [q]; exact ⟨_, hTI, fun v q => nomatch q⟩
    · rw [q]; exact ⟨_, hTO, fun v q => nomatch q⟩
    · rw [q]; exact ⟨o1, e1, fun v q => by rw [d1] at q; cases q⟩
    · rw [q]; exact ⟨o2, e2, fun v q => by rw [d2] at q; cases q⟩
  keep := fun i h h' st k => by
    obtain ⟨hz, hTI, ⟨x, y, hTO⟩, h1, h2⟩ := st
    exact ⟨k z (by simp) _ hz, k TI (by simp) _ hTI, ⟨x, y, k TO (by simp) _ hTO⟩, h1.at fun o q => k i1 (by simp) o q, h2.at fun o q => k i2 (by simp) o q⟩
  item := by
    intro X hP hw hK hc i pins s σ H E I hf st hg
    subst hP hw hK
    obtain ⟨hz, hTI, ⟨x0, y0, hTO⟩, h1, h2⟩ := st
    obtain ⟨xs, ys, x, y, hqx, hqy, hx, hy⟩ := hg
    obtain ⟨its, rv, p, _⟩ := I.list hqx
    obtain ⟨its2, rv2, p2, _⟩ := I.list hqy
    obtain ⟨u, hu, ru⟩ := rv.get hx
    obtain ⟨u2, hu2, ru2⟩ := rv2.get hy
    have hzl : z < s.heap.objs.size := Heap.lt_size hz
    refine wpAny_pyNext_zip_item D hz hTI hTO h1 h2 p.isList p2.isList (x := u) (y := u2) (by simpa using hu) (by simpa using hu2) fun h' z' TO' h1' h2' hT hsz hk => ?_
    refine ⟨_, rfl, wpAny_letOwnedTupleGo_zip (s := { s with heap := h' }) z' fun h'' z'' sb => ?_⟩
    have hT2 : h''.get? s.heap.objs.size = some { cls := .type "tuple", data := .seq #[u, u2] } := (sb.2 _ (Nat.ne_of_gt hzl)).trans hT
    have new : ObjOk X.prog X.w (upd H s.heap.objs.size (.tup [x, y])) h'' s.heap.objs.size (.tup [x, y]) :=
      ⟨by show 2 ≤ sizeLine; decide, [u, u2], .cons ru (.cons ru2 .nil), ⟨_, hT2, rfl, _, rfl⟩⟩
    have I1 : Inv X pins σ (upd H s.heap.objs.size (.tup [x, y])) { s with heap := h'' } :=
      I.turnedNew (t' := s.toks) (ch := [z, TI, TO, i1, i2]) (fun c o hb q => (sb.2 c (fun q' => hb (by simp [q']))).trans (hk c o (fun q' => hb (by simp [q'])) (fun q' => hb (by simp [q'])) (fun q' => hb (by simp [q'])) (fun q' => hb (by simp [q'])) q)) hf (Nat.le_refl _) new
    refine ⟨.ref s.heap.objs.size, _, I1, rfl, ⟨_, x, y, rfl, I.hok.fresh (Nat.le_refl _), rfl, fun l hl => by rw [I.list_inj hl hqx]; exact hx, fun l hl => by rw [I.list_inj hl hqy]; exact hy⟩, ⟨z'', ?_, ⟨u, u2, ?_⟩, ?_, ?_⟩, fun c hcm => ?_⟩
    · exact (sb.2 _ D.TIz).trans (hk _ _ D.TIz D.TITO D.TIi1 D.TIi2 hTI)
    · exact (sb.2 _ D.TOz).trans TO'
    · exact h1'.at fun o q => (sb.2 _ D.i1z).trans q
    · exact h2'.at fun o q => (sb.2 _ D.i2z).trans q
    · have hlt : c < s.heap.objs.size := by
        have e' : c = z ∨ c = TI ∨ c = TO ∨ c = i1 ∨ c = i2 := by simpa using hcm
        rcases e' with q | q | q | q | q
        · rw [q]; exact hzl
        · rw [q]; exact Heap.lt_size hTI
        · rw [q]; exact Heap.lt_size hTO
        · rw [q]; obtain ⟨_, e1, _⟩ := h1; exact Heap.lt_size e1
        · rw [q]; obtain ⟨_, e2, _⟩ := h2; exact Heap.lt_size e2
      rw [upd_ne (Nat.ne_of_lt hlt)]
      exact (hf c hcm).1
  done := by
    intro X hP hw hK hc i pins s σ H E I hf st hg
    subst hP hw hK
    obtain ⟨hz, hTI, ⟨x0, y0, hTO⟩, h1, h2⟩ := st
    obtain ⟨xs, ys, hqx, hqy, hend⟩ := hg
    obtain ⟨its, rv, p, _⟩ := I.list hqx
    obtain ⟨its2, rv2, p2, _⟩ := I.list hqy
    have l1 := rv.length
    have l2 := rv2.length
    have he : its.toArray[i]? = none ∨ its2.toArray[i]? = none := by
      rcases hend with q | q
      · exact .inl (by simp; omega)
      · exact .inr (by simp; omega)
    exact wpAny_pyNext_zip_end (I.ok.hd hc) D hz hTI hTO h1 h2 p.isList p2.isList he fun h' hk => ⟨rfl, I.turnedL (t' := s.toks) (ch := [z, TI, TO, i1, i2]) (fun c o hb q =>
      hk c o (fun q' => hb (by simp [q'])) (fun q' => hb (by simp [q'])) (fun q' => hb (by simp [q'])) (fun q' => hb (by simp [q'])) q) hf⟩
  self := fun A i s Q E st h => wpAny_pyIter_zip st.1 h
def iZip (K : PySem.W.Frag) (ta : TA) : TI := fun σ H R => ta σ H fun vs H1 => ∃ a b xs ys, vs = [.ref a, .ref b] ∧ SqL K H1 a xs ∧ SqL K H1 b ys ∧ R (Itz K a b) H1
theorem pi_zip {X : Cx} {e e2 : Expr} {ta : TA} {p pos tpos : Pos} {elts : List Expr} {kk : Nat} (hg : Gl X "zip") (hm : X.mg "zip" = none) (ha : PA X [e, e2] ta)
    (hs : starEach [e, e2] X.env = (false, eval e X.env) :: starEach [e2] X.env := by rfl) (hpl : (backTo pos (starEach [e2] X.env)).any (·.1) = false := by rfl) :
    PI X (.Tuple elts kk tpos) (.Call (.Name "zip" p) [e, e2] [] pos) (iZip X.K ta) := by
  intro pins s σ H R I h
  refine Call_ (ld_blt I hg hm boot_zip5 (PyProof.Rows.callWith_type1 (thn (ha pos pins s σ H _ I h) fun us s1 ⟨vs, H1, I1, r1, q1⟩ => ?_) hs hpl))
  obtain ⟨a, b, xs, ys, ex, hqx, hqy, q⟩ := q1
  subst ex
  cases r1 with
  | cons r rr =>
    cases rr with
    | cons r' rr =>
      cases rr
      cases r
      cases r'
      obtain ⟨its, rv, p1, _⟩ := I1.list hqx
      obtain ⟨its2, rv2, p2, _⟩ := I1.list hqy
      have la : a < s1.heap.objs.size := p1.lt
      have lb : b < s1.heap.objs.size := p2.lt
      refine call_zip_2 p1.isList p2.isList fun h' hz hTI hTO h1 h2 hsz hk => wpAny_pyIter_zip hz ?_
      have I2 : Inv X pins σ H1 { s1 with heap := h' } := I1.kept (t' := s1.toks) hk
      refine ⟨s1.heap.objs.size + 4, [s1.heap.objs.size + 4, s1.heap.objs.size + 2, s1.heap.objs.size + 3, s1.heap.objs.size, s1.heap.objs.size + 1], _, _, H1, rfl, I2, turn_zip (PySem.W.ktu_apart s1.heap.objs.size a b la lb), ⟨hz, hTI, ⟨_, _, hTO⟩, h1, h2⟩, fun c hcm => ?_, q⟩
      have e' : c = s1.heap.objs.size + 4 ∨ c = s1.heap.objs.size + 2 ∨ c = s1.heap.objs.size + 3 ∨ c = s1.heap.objs.size ∨ c = s1.heap.objs.size + 1 := by simpa using hcm
      have hle : s1.heap.objs.size ≤ c := by
        rcases e' with z | z | z | z | z
        · rw [z]; exact Nat.le_add_right _ _
        · rw [z]; exact Nat.le_add_right _ _
        · rw [z]; exact Nat.le_add_right _ _
        · rw [z]; exact Nat.le_refl _
        · rw [z]; exact Nat.le_add_right _ _
      exact I1.fpOk hle (I1.hok.fresh hle)
end L2

section 
namespace Bits
open PySem PyProof.Rows

theorem bitOr_pp {x y : Int} (hx : 0 ≤ x) (hy : 0 ≤ y) : Builtin.bitOr x y = ((x.toNat ||| y.toNat : Nat) : Int) := by
  have e := nat_or_add_and x.toNat y.toNat
  rw [bitOr_and, bitAnd_pp hx hy]
  omega
end Bits
end 

section 
namespace TL
open PySem PySem.Builtin PySem.Builtin.Str PySem.StrLaws

end TL
end 

namespace L2
open PySem PySem.Spec PyProof.Rows

section
variable {X : Cx} {pins : List (Addr × Obj)} {σ : St} {H : Hp} {s : Shared} {Q : VK}
end

section
variable {X : Cx}

end

section
variable {X : Cx} {o e : Expr} {to te : TE}
end
end L2

namespace L2
open PySem PySem.Spec PyProof.Rows

section
variable {X : Cx}
end

end L2

namespace Att
open PySem PySem.W PySem.Calls PyProof.Rows

section
variable {prog : Program} {w : World} {A : Around} {E : Value → Shared → Prop} {s : Shared} {K : Frag}

end
end Att

namespace L2
open PySem PySem.Spec PyProof.Rows

end L2

namespace L2
open PySem PySem.Spec PyProof.Rows

end L2


namespace L2
open PySem PySem.Spec PyProof.Rows

def inClass (s : Stmt) (j : Nat) : Stmt := match s with
  | .ClassDef _ _ _ body _ _ _ _ _ _ _ => body.getD j (.Pass ⟨0, 0, 0, 0⟩)
  | _ => .Pass ⟨0, 0, 0, 0⟩
def defArgs (s : Stmt) : Arguments := match s with
  | .FunctionDef _ a _ _ _ _ _ _ _ _ => a
  | _ => { posonlyargs := [], args := [], vararg := none, kwonlyargs := [], kw_defaults := [], kwarg := none, defaults := [] }
def defBody (s : Stmt) : List Stmt := match s with
  | .FunctionDef _ _ b _ _ _ _ _ _ _ => b
  | _ => []
def defScope (s : Stmt) : Scope := match s with
  | .FunctionDef _ _ _ _ _ _ sc _ _ _ => sc
  | _ => { kind := .function, names := [], isGenerator := false, isCoroutine := false }

abbrev CX0 : CXT := fun _ _ _ _ _ _ => False
abbrev E0 : XK := fun _ _ _ => False
theorem pass0 {X : Cx} : Passes CX0 X E0 := fun _ _ _ _ _ _ _ h => h.elim

structure Fun (K : PySem.W.Frag) (x qual : Str) (st : Stmt) (f : Addr) (fd : FuncData) : Prop where
  ex : ∃ (oc : Value) (od : Option Addr) (kV doc pm : Value) (an : Option Addr) (cdv ct : Value) (osl : Array (Option Value)),
    fd = PySem.W.fnOf x qual (defArgs st) (defBody st) (defScope st) .none kV doc pm an cdv ct ∧ K.lookup f = some ⟨oc, od, .func fd, osl⟩ ∧ PySem.W.codeIn K cdv qual = true
  kp : PySem.W.keepIn K (.ref f) = true
section
variable {P : Program} {w : World} {K : PySem.W.Frag} {mg : Str → Option Value} {base : Heap}
theorem Fun.ok {x qual : Str} {st : Stmt} {f : Addr} {fd : FuncData} {N ps : List Str} {k : Nat} {sp : Sp} (F : Fun K x qual st f fd) (S : FnScope N ps (defScope st)) (len : ∀ vs H Q E, sp vs H Q E → vs.length = ps.length)
    (hbody : ∀ (cdv : Value) (A : Around) (outer : List Env) (s : Shared) (H : Hp) (vs : List V) (Q : VK) (E : XK), Room k (A.deeper (envOfC qual (defScope st) s.heap.objs.size f cdv)) → sp vs H Q E →
      ∃ t, PSs (cxOf CX0 P w K mg base N qual (defScope st) f cdv A outer s H E).nox (defBody st) t ∧ t { nx := fun _ H' => Q .non H', rt := Q } (start N vs) H) : FnOk P w K mg base CX0 (k + 1) f fd ps sp := by
  obtain ⟨oc, od, kV, doc, pm, an, cdv, ct, osl, rfl, lk, hcd⟩ := F.ex
  refine fn_of lk hcd S len fun A outer s H vs Q E hr hsp => ?_
  obtain ⟨t, h, q⟩ := hbody cdv A outer s H vs Q E hr hsp
  exact ⟨t, h.nox, q⟩
theorem Fun.binds {x qual : Str} {st : Stmt} {f : Addr} {fd : FuncData} {ps : List Str} (F : Fun K x qual st f fd)
    (h : ∀ (kV doc pm : Value) (an : Option Addr) (cdv ct : Value) (us : List Value), us.length = ps.length → bindArgs (PySem.W.fnOf x qual (defArgs st) (defBody st) (defScope st) .none kV doc pm an cdv ct) ⟨us, []⟩ = pure (ps.zip us)) : Binds K fd ps [] := by
  obtain ⟨oc, od, kV, doc, pm, an, cdv, ct, osl, rfl, lk, hcd⟩ := F.ex
  exact .all (h kV doc pm an cdv ct)
theorem fun_mk {x qual : Str} {st : Stmt} {f : Addr} {oc : Value} {od an : Option Addr} {osl : Array (Option Value)} {kV doc pm cdv ct : Value} (l : K.lookup f = some ⟨oc, od, .func (PySem.W.fnOf x qual (defArgs st) (defBody st) (defScope st) .none kV doc pm an cdv ct), osl⟩)
    (c : PySem.W.codeIn K cdv qual = true) (k : PySem.W.keepIn K (.ref f) = true) : Fun K x qual st f (PySem.W.fnOf x qual (defArgs st) (defBody st) (defScope st) .none kV doc pm an cdv ct) := ⟨⟨oc, od, kV, doc, pm, an, cdv, ct, osl, rfl, l, c⟩, k⟩
end
theorem hu_of {A : Around} {k : Nat} (hr : Room k A) : A.units + 1 < cLine := Nat.lt_of_le_of_lt (Nat.add_le_add_left (by decide : 1 ≤ 64) _) hr.units
section
variable {X : Cx}
theorem pv (i : Nat) {x : Str} {pos : Pos} (hN : X.N[i]? = some x := by rfl) (hv : Vis X.env.scope x := by first | exact Or.inl rfl | exact Or.inr (Or.inl rfl) | exact Or.inr (Or.inr rfl)) (hd : (x == ("__debug__" : Str)) = false := by decide)
    (hcd : (x == ("__classdict__" : Str)) = false := by decide) : PE X (.Name x pos) (tVar i) := pe_var hN hv hd hcd
end

theorem iteF {A B : Prop} (h : B) : if false = true then A else B := by
  rw [if_neg Bool.false_ne_true]
  exact h
theorem iteT {A B : Prop} (h : A) : if true = true then A else B := by
  rw [if_pos rfl]
  exact h
theorem ite2 {c A B : Prop} [Decidable c] (h1 : c → A) (h2 : ¬ c → B) : if c then A else B := by
  by_cases h : c
  · rw [if_pos h]
    exact h1 h
  · rw [if_neg h]
    exact h2 h
def Same (H H' : Hp) : Prop := ∀ b o, H b = some o → H' b = some o
theorem Same.refl (H : Hp) : Same H H := fun _ _ h => h
theorem Same.trans {H H1 H2 : Hp} (a : Same H H1) (b : Same H1 H2) : Same H H2 := fun c o h => b c o (a c o h)
theorem Same.free {H H' : Hp} (e : Same H H') {l : Addr} (h : H' l = Option.none) : H l = Option.none := by
  cases q : H l with
  | none => rfl
  | some o =>
    rw [e l o q] at h
    cases h
theorem Same.seq {K : PySem.W.Frag} {H H' : Hp} {a : Addr} {xs : List V} (e : Same H H') (h : SqL K H a xs) : SqL K H' a xs := by
  rcases h with (h | ⟨o, h⟩) | h
  · exact .inl (.inl (e _ _ h))
  · exact .inl (.inr ⟨o, e _ _ h⟩)
  · exact .inr h

section
variable {κ : Type} [DecidableEq κ]
theorem dropK_pos {p : κ × V} {r : List (κ × V)} {k : κ} (e : p.1 = k) : dropK (p :: r) k = dropK r k := by
  unfold dropK
  rw [List.filter_cons, if_neg (by simp [e])]
theorem dropK_neg {p : κ × V} {r : List (κ × V)} {k : κ} (e : ¬ p.1 = k) : dropK (p :: r) k = p :: dropK r k := by
  unfold dropK
  rw [List.filter_cons, if_pos (by simp [e])]
end
theorem Same.made {H H1 : Hp} {x dx C : Addr} (nx : H x = Option.none) (nd : H dx = Option.none) (k : ∀ b o, (upd (upd H dx (.own x)) x (.ins C dx [])) b = some o → b ≠ x → H1 b = some o) : Same H H1 := fun b o e =>
  k b o (by rw [upd_ne (ne_of_none e nx), upd_ne (ne_of_none e nd)]; exact e) (ne_of_none e nx)
end L2

section
set_option Elab.async false
set_option linter.all false
set_option maxRecDepth 100000
set_option maxHeartbeats 2000000
namespace L2
open PySem PySem.Spec PyProof.Rows
open PySem.W (WData Codec OpenSpec Well WellAll ReadsW ReadsAllW)
mutual
inductive Dw (K : PySem.W.Frag) (H : Hp) : V → WData → Prop
  | non : Dw K H .non .none
  | bl (b : Bool) : Dw K H (.bl b) (.bool b)
  | int (i : Int) : Dw K H (.int i) (.int i)
  | str (x : Str) : Dw K H (.str x) (.str x)
  | byt (b : Array UInt8) : Dw K H (.byt b) (.bytes b.toList)
  | lst {a : Addr} {xs : List V} {ds : List WData} : SqL K H a xs → DwAll K H xs ds → Dw K H (.ref a) (.list ds)
  | tup {a : Addr} {xs : List V} {ds : List WData} : SqT K H a xs → DwAll K H xs ds → Dw K H (.ref a) (.tuple ds)
inductive DwAll (K : PySem.W.Frag) (H : Hp) : List V → List WData → Prop
  | nil : DwAll K H [] []
  | cons {v : V} {vs : List V} {d : WData} {ds : List WData} : Dw K H v d → DwAll K H vs ds → DwAll K H (v :: vs) (d :: ds)
end
theorem dw_ints {K : PySem.W.Frag} {H : Hp} : ∀ ns : List Int, DwAll K H (ns.map V.int) (ns.map WData.int)
  | [] => .nil
  | n :: r => .cons (.int n) (dw_ints r)
theorem ints_dw {K : PySem.W.Frag} {H : Hp} : ∀ (ns : List Int) (xs : List V), DwAll K H xs (ns.map WData.int) → xs = ns.map V.int
  | [], xs, h => by
    cases h
    rfl
  | n :: r, xs, h => by
    cases h with
    | cons h1 h2 =>
      cases h1
      rw [ints_dw r _ h2] <;> rfl
section
variable {P : Program} {w : World} {K : PySem.W.Frag} {H : Hp} {h : Heap} {R : PySem.W.WRecords} {cl : Str → Option Addr}
theorem sqL_at {a : Addr} {xs : List V} (hok : HOk P w H h) (KX : K.In h) (q : SqL K H a xs) : ∃ (its : List Value) (o : Obj) (n : Nat), Vals xs its ∧ h.get? a = some o ∧ o.cls = .type "list" ∧ o.data = .seq its.toArray n := by
  rcases q with q | ⟨o, its, n, e, hc, _, hd, _, hv⟩
  · obtain ⟨_, its, n, hv, e⟩ := (show ObjOk P w H h a (.lst xs) from q.ok hok)
    exact ⟨its, _, n, hv, e, rfl, rfl⟩
  · exact ⟨its.toList, o, n, hv, KX _ _ e, hc, by simp [hd]⟩
theorem sqT_at {a : Addr} {xs : List V} (hok : HOk P w H h) (KX : K.In h) (q : SqT K H a xs) : ∃ (its : List Value) (o : Obj) (n : Nat), Vals xs its ∧ h.get? a = some o ∧ o.cls = .type "tuple" ∧ o.data = .seq its.toArray n := by
  rcases q with q | ⟨o, its, n, e, hc, hd, _, hv⟩
  · obtain ⟨_, its, hv, o, e, hc, n, hd⟩ := (show ObjOk P w H h a (.tup xs) from q.ok hok)
    exact ⟨its, o, n, hv, e, hc, hd⟩
  · exact ⟨its.toList, o, n, hv, KX _ _ e, hc, by simp [hd]⟩
mutual
theorem Dw.reads (hok : HOk P w H h) (KX : K.In h) : ∀ (d : WData) (v : V) (u : Value), Dw K H v d → RelV v u → ∃ as, ReadsW R cl h u d as
  | .none, _, _, x, r => by
    cases x
    cases r
    exact ⟨_, ReadsW.none⟩
  | .bool b, _, _, x, r => by
    cases x
    cases r
    exact ⟨_, ReadsW.bool b⟩
  | .int i, _, _, x, r => by
    cases x
    obtain ⟨t, rfl⟩ := r
    exact ⟨_, ReadsW.int i t⟩
  | .str s, _, _, x, r => by
    cases x
    obtain ⟨t, rfl⟩ := r
    exact ⟨_, ReadsW.str s t⟩
  | .bytes b, _, _, x, r => by
    cases x
    obtain ⟨t, rfl⟩ := r
    exact ⟨_, ReadsW.bytes _ t⟩
  | .list ds, _, _, x, r => by
    cases x with
    | lst hs ha =>
      cases r
      obtain ⟨its, o, n, rv, ho, hc, hd⟩ := sqL_at hok KX hs
      obtain ⟨as, hr⟩ := Dw.readsAll hok KX ds _ its ha rv
      exact ⟨_, ReadsW.list ho hc hd hr⟩
  | .tuple ds, _, _, x, r => by
    cases x with
    | tup hs ha =>
      cases r
      obtain ⟨its, o, n, rv, ho, hc, hd⟩ := sqT_at hok KX hs
      obtain ⟨as, hr⟩ := Dw.readsAll hok KX ds _ its ha rv
      exact ⟨_, ReadsW.tuple ho hc hd hr⟩
  | .float _, _, _, x, _ => by cases x
  | .dict _, _, _, x, _ => by cases x
  | .bytearray _, _, _, x, _ => by cases x
  | .set _, _, _, x, _ => by cases x
  | .frozenset _, _, _, x, _ => by cases x
  | .obj _ _, _, _, x, _ => by cases x
theorem Dw.readsAll (hok : HOk P w H h) (KX : K.In h) : ∀ (ds : List WData) (vs : List V) (us : List Value), DwAll K H vs ds → Vals vs us → ∃ as, ReadsAllW R cl h us ds as
  | [], _, _, x, r => by
    cases x
    cases r
    exact ⟨_, ReadsAllW.nil⟩
  | d :: ds, _, _, x, r => by
    cases x with
    | cons h1 h2 =>
      cases r with
      | cons r1 r2 =>
        obtain ⟨as, q1⟩ := Dw.reads hok KX d _ _ h1 r1
        obtain ⟨bs, q2⟩ := Dw.readsAll hok KX ds _ _ h2 r2
        exact ⟨_, ReadsAllW.cons q1 q2⟩
end
end
mutual
def plW : WData → Bool
  | .none => true
  | .bool _ => true
  | .int _ => true
  | .str _ => true
  | .bytes _ => true
  | .list xs => plWs xs
  | .tuple xs => plWs xs
  | _ => false
def plWs : List WData → Bool
  | [] => true
  | x :: r => plW x && plWs r
end
theorem plWs_map {α : Type} {f : α → WData} (h : ∀ a, plW (f a) = true) : ∀ l : List α, plWs (l.map f) = true
  | [] => rfl
  | x :: r => by
    show (plW (f x) && plWs (r.map f)) = true
    rw [h x, plWs_map h r] <;> rfl
theorem pl_enc : ∀ (c : Codec) (a : c.denote), plW (c.enc a) = true
  | .unit, _ => rfl
  | .bool, _ => rfl
  | .int _ _, _ => rfl
  | .nat _ _, _ => rfl
  | .u8, _ => rfl
  | .bytes _ _, _ => rfl
  | .text _ _ _ _, _ => rfl
  | .list _ _ c, a => plWs_map (fun x => pl_enc c x) a
  | .pair c d, a => by
    show (plW (c.enc a.1) && (plW (d.enc a.2) && true)) = true
    rw [pl_enc c a.1, pl_enc d a.2] <;> rfl
  | .triple c d e, a => by
    show (plW (c.enc a.1) && (plW (d.enc a.2.1) && (plW (e.enc a.2.2) && true))) = true
    rw [pl_enc c a.1, pl_enc d a.2.1, pl_enc e a.2.2] <;> rfl
  | .option c, none => rfl
  | .option c, some x => pl_enc c x
theorem pl_encAll : ∀ (cs : List Codec) (a : Codec.denoteAll cs), plWs (Codec.encAll cs a) = true
  | [], _ => rfl
  | c :: cs, a => by
    show (plW (c.enc a.1) && plWs (Codec.encAll cs a.2)) = true
    rw [pl_enc c a.1, pl_encAll cs a.2] <;> rfl
theorem weight_mem : ∀ {xs : List WData} {d : WData}, d ∈ xs → d.weight ≤ WData.weightAll xs
  | [], d, h => absurd h (by simp)
  | x :: r, d, h => by
    show d.weight ≤ x.weight + 1 + WData.weightAll r
    rcases List.mem_cons.mp h with e | m
    · rw [e]
      omega
    · have z := weight_mem m
      omega
def toV : Value → V
  | .none => .non
  | .bool b => .bl b
  | .int i _ => .int i
  | .str x _ => .str x
  | .bytes b _ => .byt b
  | .ref a => .ref a
  | _ => .non
def OkU (A : List Addr) : Value → Prop
  | .none => True
  | .bool _ => True
  | .int _ _ => True
  | .str _ _ => True
  | .bytes _ _ => True
  | .ref a => a ∈ A
  | _ => False
theorem OkU.mono {A B : List Addr} (h : ∀ a ∈ A, a ∈ B) : ∀ {u : Value}, OkU A u → OkU B u := fun {u} x => by
  cases u with
  | ref a => exact h a x
  | none => trivial
  | bool b => trivial
  | int i t => trivial
  | str s t => trivial
  | bytes b t => trivial
  | _ => exact False.elim x
theorem relV_toV {A : List Addr} {u : Value} (x : OkU A u) : RelV (toV u) u := by
  cases u with
  | ref a => rfl
  | none => rfl
  | bool b => rfl
  | int i t => exact ⟨t, rfl⟩
  | str s t => exact ⟨t, rfl⟩
  | bytes b t => exact ⟨t, rfl⟩
  | _ => exact False.elim x
theorem vals_toV {A : List Addr} : ∀ {vs : List Value}, (∀ u ∈ vs, OkU A u) → Vals (vs.map toV) vs
  | [], _ => .nil
  | u :: r, h => .cons (relV_toV (h u (List.mem_cons_self ..))) (vals_toV fun x hx => h x (List.mem_cons_of_mem _ hx))
def ArgOb (h : Heap) (A : List Addr) (a : Addr) : Prop := ∃ vs : List Value, vs.length ≤ sizeLine ∧ (∀ u ∈ vs, OkU A u) ∧
  (h.get? a = some { cls := .type "list", data := .seq vs.toArray } ∨ h.get? a = some { cls := .type "tuple", data := .seq vs.toArray })
theorem ArgOb.mono {h : Heap} {A B : List Addr} {a : Addr} (k : ∀ a ∈ A, a ∈ B) (x : ArgOb h A a) : ArgOb h B a := by
  obtain ⟨vs, h1, h2, h3⟩ := x
  exact ⟨vs, h1, fun u hu => (h2 u hu).mono k, h3⟩
theorem wellAll_len {P : Params} {h : Heap} : ∀ {vs : List Value} {ds : List WData}, WellAll P h vs ds → vs.length = ds.length
  | _, _, .nil => rfl
  | _, _, .cons _ b => by
    show _ + 1 = _ + 1
    rw [wellAll_len b]
theorem well_list {P : Params} {h : Heap} {v : Value} {ds : List WData} (x : Well P h v (.list ds)) : ∃ (a : Addr) (vs : List Value), v = .ref a ∧ h.get? a = some { cls := .type "list", data := .seq vs.toArray } ∧ WellAll P h vs ds := by
  cases x with
  | list ho hall => exact ⟨_, _, rfl, ho, hall⟩
theorem well_tuple {P : Params} {h : Heap} {v : Value} {ds : List WData} (x : Well P h v (.tuple ds)) : ∃ (a : Addr) (vs : List Value), v = .ref a ∧ h.get? a = some { cls := .type "tuple", data := .seq vs.toArray } ∧ WellAll P h vs ds := by
  cases x with
  | tuple ho hall => exact ⟨_, _, rfl, ho, hall⟩
theorem well_cons {P : Params} {h : Heap} {us : List Value} {d : WData} {ds : List WData} (x : WellAll P h us (d :: ds)) : ∃ (v : Value) (vs : List Value), us = v :: vs ∧ Well P h v d ∧ WellAll P h vs ds := by
  cases x with
  | cons a b => exact ⟨_, _, rfl, a, b⟩
theorem line_of {n : Nat} (h : n ≤ 1048576) : n ≤ sizeLine := Nat.le_trans h (by decide)
section
variable {P : Params} {h : Heap}
mutual
theorem area_one : ∀ (d : WData) (v : Value), Well P h v d → plW d = true → d.weight ≤ 1048576 → ∃ A : List Addr, OkU A v ∧ ∀ a ∈ A, ArgOb h A a
  | .none, _, x, _, _ => by
    cases x
    exact ⟨[], trivial, fun a m => absurd m (by simp)⟩
  | .bool b, _, x, _, _ => by
    cases x
    exact ⟨[], trivial, fun a m => absurd m (by simp)⟩
  | .int i, _, x, _, _ => by
    cases x
    exact ⟨[], trivial, fun a m => absurd m (by simp)⟩
  | .str s, _, x, _, _ => by
    cases x
    exact ⟨[], trivial, fun a m => absurd m (by simp)⟩
  | .bytes b, _, x, _, _ => by
    cases x
    exact ⟨[], trivial, fun a m => absurd m (by simp)⟩
  | .list ds, _, x, p, z => by
    obtain ⟨a, vs, rfl, ho, hall⟩ := well_list x
    have z2 : WData.weightAll ds ≤ 1048576 := z
    obtain ⟨A, h1, h2⟩ := area_all ds _ hall p fun d hd => Nat.le_trans (weight_mem hd) z2
    have k : ∀ b ∈ A, b ∈ a :: A := fun b hb => List.mem_cons_of_mem _ hb
    refine ⟨a :: A, List.mem_cons_self .., fun b hb => ?_⟩
    rcases List.mem_cons.mp hb with e | m
    · rw [e]
      exact ⟨vs, line_of (by rw [wellAll_len hall]; exact Nat.le_trans (PySem.W.length_le_weightAllW ds) z2), fun u hu => (h1 u hu).mono k, .inl ho⟩
    · exact (h2 b m).mono k
  | .tuple ds, _, x, p, z => by
    obtain ⟨a, vs, rfl, ho, hall⟩ := well_tuple x
    have z2 : WData.weightAll ds ≤ 1048576 := z
    obtain ⟨A, h1, h2⟩ := area_all ds _ hall p fun d hd => Nat.le_trans (weight_mem hd) z2
    have k : ∀ b ∈ A, b ∈ a :: A := fun b hb => List.mem_cons_of_mem _ hb
    refine ⟨a :: A, List.mem_cons_self .., fun b hb => ?_⟩
    rcases List.mem_cons.mp hb with e | m
    · rw [e]
      exact ⟨vs, line_of (by rw [wellAll_len hall]; exact Nat.le_trans (PySem.W.length_le_weightAllW ds) z2), fun u hu => (h1 u hu).mono k, .inr ho⟩
    · exact (h2 b m).mono k
  | .float _, _, _, p, _ => Bool.noConfusion (show false = true from p)
  | .dict _, _, _, p, _ => Bool.noConfusion (show false = true from p)
  | .bytearray _, _, _, p, _ => Bool.noConfusion (show false = true from p)
  | .set _, _, _, p, _ => Bool.noConfusion (show false = true from p)
  | .frozenset _, _, _, p, _ => Bool.noConfusion (show false = true from p)
  | .obj _ _, _, _, p, _ => Bool.noConfusion (show false = true from p)
theorem area_all : ∀ (ds : List WData) (vs : List Value), WellAll P h vs ds → plWs ds = true → (∀ d ∈ ds, d.weight ≤ 1048576) → ∃ A : List Addr, (∀ u ∈ vs, OkU A u) ∧ ∀ a ∈ A, ArgOb h A a
  | [], _, x, _, _ => by
    cases x
    exact ⟨[], fun u m => absurd m (by simp), fun a m => absurd m (by simp)⟩
  | d :: ds, _, x, p, z => by
    obtain ⟨v, vs, rfl, x1, x2⟩ := well_cons x
    have q : plW d = true ∧ plWs ds = true := Bool.and_eq_true_iff.mp p
    obtain ⟨A, a1, a2⟩ := area_one d v x1 q.1 (z d (List.mem_cons_self ..))
    obtain ⟨B, b1, b2⟩ := area_all ds vs x2 q.2 fun e he => z e (List.mem_cons_of_mem _ he)
    have kA : ∀ b ∈ A, b ∈ A ++ B := fun b hb => List.mem_append.mpr (.inl hb)
    have kB : ∀ b ∈ B, b ∈ A ++ B := fun b hb => List.mem_append.mpr (.inr hb)
    refine ⟨A ++ B, fun u hu => ?_, fun b hb => ?_⟩
    · rcases List.mem_cons.mp hu with e | m
      · rw [e]
        exact a1.mono kA
      · exact (b1 u m).mono kB
    · rcases List.mem_append.mp hb with m | m
      · exact (a2 b m).mono kA
      · exact (b2 b m).mono kB
end
end
def hoOf (o : Obj) : Option HO := match o.data with
  | .seq vs _ => if (o.cls == Value.type "list") = true then some (.frz o (.lst (vs.toList.map toV))) else some (.frz o (.tup (vs.toList.map toV)))
  | _ => none
def argH (K : PySem.W.Frag) (h : Heap) (A : List Addr) : Hp := fun b => if b ∈ A then (if (K.lookup b).isNone = true then (h.get? b).bind hoOf else none) else none
def OnlyF (H : Hp) : Prop := ∀ b, H b = none ∨ ∃ o u, H b = some (.frz o u)
theorem hoOf_lst (vs : List Value) : hoOf { cls := .type "list", data := .seq vs.toArray } = some (.frz { cls := .type "list", data := .seq vs.toArray } (.lst (vs.map toV))) := by
  show (if (Value.type "list" == Value.type "list") = true then some (HO.frz { cls := .type "list", data := .seq vs.toArray } (.lst (vs.toArray.toList.map toV))) else some (HO.frz { cls := .type "list", data := .seq vs.toArray } (.tup (vs.toArray.toList.map toV)))) = _
  rw [if_pos (beq_self_eq_true _)]
theorem hoOf_tup (vs : List Value) : hoOf { cls := .type "tuple", data := .seq vs.toArray } = some (.frz { cls := .type "tuple", data := .seq vs.toArray } (.tup (vs.map toV))) := by
  show (if (Value.type "tuple" == Value.type "list") = true then some (HO.frz { cls := .type "tuple", data := .seq vs.toArray } (.lst (vs.toArray.toList.map toV))) else some (HO.frz { cls := .type "tuple", data := .seq vs.toArray } (.tup (vs.toArray.toList.map toV)))) = _
  rw [if_neg (by decide)]
section
variable {P : Program} {w : World} {K : PySem.W.Frag} {h : Heap} {A : List Addr}
theorem argH_at {b : Addr} {o : Obj} (hb : b ∈ A) (hk : K.lookup b = none) (e : h.get? b = some o) : argH K h A b = hoOf o := by
  unfold argH
  rw [if_pos hb, hk, if_pos (show (none : Option Obj).isNone = true from rfl), e] <;> rfl
theorem of_argH {b : Addr} {u : HO} (q : argH K h A b = some u) : b ∈ A ∧ K.lookup b = none := by
  unfold argH at q
  by_cases hb : b ∈ A
  · rw [if_pos hb] at q
    cases hk : K.lookup b with
    | none => exact ⟨hb, rfl⟩
    | some o =>
      rw [hk, if_neg (by simp)] at q
      cases q
  · rw [if_neg hb] at q
    cases q
theorem argH_is (ar : ∀ a ∈ A, ArgOb h A a) {b : Addr} {u : HO} (q : argH K h A b = some u) : K.lookup b = none ∧ ∃ vs : List Value, vs.length ≤ sizeLine ∧ (∀ u ∈ vs, OkU A u) ∧
    ((h.get? b = some { cls := .type "list", data := .seq vs.toArray } ∧ u = .frz { cls := .type "list", data := .seq vs.toArray } (.lst (vs.map toV))) ∨
     (h.get? b = some { cls := .type "tuple", data := .seq vs.toArray } ∧ u = .frz { cls := .type "tuple", data := .seq vs.toArray } (.tup (vs.map toV)))) := by
  obtain ⟨hb, hk⟩ := of_argH q
  obtain ⟨vs, h1, h2, h3⟩ := ar b hb
  refine ⟨hk, vs, h1, h2, ?_⟩
  rcases h3 with e | e
  · rw [argH_at hb hk e, hoOf_lst] at q
    exact .inl ⟨e, (Option.some.inj q).symm⟩
  · rw [argH_at hb hk e, hoOf_tup] at q
    exact .inr ⟨e, (Option.some.inj q).symm⟩
theorem argH_only (ar : ∀ a ∈ A, ArgOb h A a) : OnlyF (argH K h A) := fun b => by
  cases q : argH K h A b with
  | none => exact .inl rfl
  | some u =>
    obtain ⟨_, vs, _, _, ⟨_, e⟩ | ⟨_, e⟩⟩ := argH_is ar q
    · exact .inr ⟨_, _, by rw [e]⟩
    · exact .inr ⟨_, _, by rw [e]⟩
theorem argH_ok (ar : ∀ a ∈ A, ArgOb h A a) : HOk P w (argH K h A) h := fun b u q => by
  obtain ⟨_, vs, h1, h2, ⟨e, rfl⟩ | ⟨e, rfl⟩⟩ := argH_is ar q
  · exact ⟨e, by rw [List.length_map]; exact h1, vs, _, vals_toV h2, e⟩
  · exact ⟨e, by rw [List.length_map]; exact h1, vs, vals_toV h2, _, e, rfl, _, rfl⟩
theorem seq_inj {c c' : Value} {vs us : List Value} (e : (some { cls := c, data := .seq vs.toArray } : Option Obj) = some { cls := c', data := .seq us.toArray }) : c = c' ∧ vs = us := by
  have e1 := Option.some.inj e
  have e2 : c = c' := congrArg Obj.cls e1
  have e3 : Data.seq vs.toArray = Data.seq us.toArray := congrArg Obj.data e1
  injection e3 with e4
  refine ⟨e2, ?_⟩
  have e5 := congrArg Array.toList e4
  simpa using e5
theorem argL (KX : K.In h) (ar : ∀ a ∈ A, ArgOb h A a) {a : Addr} {vs : List Value} (ha : a ∈ A) (e : h.get? a = some { cls := .type "list", data := .seq vs.toArray }) : (∀ u ∈ vs, OkU A u) ∧ SqL K (argH K h A) a (vs.map toV) := by
  obtain ⟨us, h1, h2, h3⟩ := ar a ha
  have hu : us = vs := by
    rcases h3 with q | q
    · rw [e] at q
      exact (seq_inj q).2.symm
    · rw [e] at q
      exact absurd (Value.type.inj (seq_inj q).1) (by decide)
  subst hu
  refine ⟨h2, ?_⟩
  cases hk : K.lookup a with
  | none => exact .inl (.inr ⟨_, by rw [argH_at ha hk e, hoOf_lst]⟩)
  | some o =>
    have e2 := KX a o hk
    rw [e] at e2
    obtain rfl := Option.some.inj e2
    exact .inr ⟨_, us.toArray, _, hk, rfl, rfl, rfl, by rw [List.size_toArray]; exact h1, by simpa using vals_toV h2⟩
theorem argT (KX : K.In h) (ar : ∀ a ∈ A, ArgOb h A a) {a : Addr} {vs : List Value} (ha : a ∈ A) (e : h.get? a = some { cls := .type "tuple", data := .seq vs.toArray }) : (∀ u ∈ vs, OkU A u) ∧ SqT K (argH K h A) a (vs.map toV) := by
  obtain ⟨us, h1, h2, h3⟩ := ar a ha
  have hu : us = vs := by
    rcases h3 with q | q
    · rw [e] at q
      exact absurd (Value.type.inj (seq_inj q).1) (by decide)
    · rw [e] at q
      exact (seq_inj q).2.symm
  subst hu
  refine ⟨h2, ?_⟩
  cases hk : K.lookup a with
  | none => exact .inl (.inr ⟨_, by rw [argH_at ha hk e, hoOf_tup]⟩)
  | some o =>
    have e2 := KX a o hk
    rw [e] at e2
    obtain rfl := Option.some.inj e2
    exact .inr ⟨_, us.toArray, _, hk, rfl, rfl, by rw [List.size_toArray]; exact h1, by simpa using vals_toV h2⟩
mutual
theorem dw_one {Pm : Params} (KX : K.In h) (ar : ∀ a ∈ A, ArgOb h A a) : ∀ (d : WData) (v : Value), Well Pm h v d → plW d = true → OkU A v → Dw K (argH K h A) (toV v) d
  | .none, _, x, _, _ => by
    cases x
    exact .non
  | .bool b, _, x, _, _ => by
    cases x
    exact .bl b
  | .int i, _, x, _, _ => by
    cases x
    exact .int i
  | .str s, _, x, _, _ => by
    cases x
    exact .str s
  | .bytes b, _, x, _, _ => by
    cases x
    have z := Dw.byt (K := K) (H := argH K h A) b.toArray
    exact z
  | .list ds, _, x, p, hu => by
    obtain ⟨a, vs, rfl, ho, hall⟩ := well_list x
    obtain ⟨h2, hs⟩ := argL KX ar hu ho
    exact .lst hs (dw_all KX ar ds _ hall p h2)
  | .tuple ds, _, x, p, hu => by
    obtain ⟨a, vs, rfl, ho, hall⟩ := well_tuple x
    obtain ⟨h2, hs⟩ := argT KX ar hu ho
    exact .tup hs (dw_all KX ar ds _ hall p h2)
  | .float _, _, _, p, _ => Bool.noConfusion (show false = true from p)
  | .dict _, _, _, p, _ => Bool.noConfusion (show false = true from p)
  | .bytearray _, _, _, p, _ => Bool.noConfusion (show false = true from p)
  | .set _, _, _, p, _ => Bool.noConfusion (show false = true from p)
  | .frozenset _, _, _, p, _ => Bool.noConfusion (show false = true from p)
  | .obj _ _, _, _, p, _ => Bool.noConfusion (show false = true from p)
theorem dw_all {Pm : Params} (KX : K.In h) (ar : ∀ a ∈ A, ArgOb h A a) : ∀ (ds : List WData) (vs : List Value), WellAll Pm h vs ds → plWs ds = true → (∀ u ∈ vs, OkU A u) → DwAll K (argH K h A) (vs.map toV) ds
  | [], _, x, _, _ => by
    cases x
    exact .nil
  | d :: ds, _, x, p, hu => by
    obtain ⟨v, vs, rfl, x1, x2⟩ := well_cons x
    have q : plW d = true ∧ plWs ds = true := Bool.and_eq_true_iff.mp p
    exact .cons (dw_one KX ar d v x1 q.1 (hu _ (List.mem_cons_self ..))) (dw_all KX ar ds vs x2 q.2 fun u m => hu u (List.mem_cons_of_mem _ m))
end
end
theorem spec_call {P : Program} {w : World} {K : PySem.W.Frag} {mg mb : Str → Option Value} {CX : CXT} {k : Nat} {fa : Addr} {fd : FuncData} {ps : List Str} {sp : Sp} {s₁ : Shared} {vals : List Value} {ds : List WData} {R : PySem.W.WRecords} {cl : Str → Option Addr} {d0 : WData}
    (KX : K.In s₁.heap) (hns : s₁.heap.Ns mainGlobals mg) (hb : s₁.heap.Ns builtinsNs mb) (hbb : ∀ x : Str, x ≠ "__name__" → mb x = bootBuiltins x) (hlim : s₁.heap.NoLimit) (hg : s₁.gens = #[])
    (hwl : WellAll w.params s₁.heap vals ds) (hpl : plWs ds = true) (hwt : ∀ d ∈ ds, d.weight ≤ 1048576) (hr : Room k callerA)
    (F : ∀ base : Heap, K.In base → base.Ns mainGlobals mg → FnOk P w K mg base CX k fa fd ps sp) (hbind : ∀ (s : Shared) (us : List Value), us.length = ps.length → BindsTo s fd ⟨us, []⟩ (ps.zip us)) (hlen : ds.length = ps.length)
    (hsp : ∀ (H : Hp) (xs : List V), OnlyF H → DwAll K H xs ds → sp xs H (fun v H' => Dw K H' v d0) fun _ _ _ => False)
    (hCX : ∀ H e s', CX [] H s₁ (fun _ _ _ => False) e s' → False) :
    codeAny (model P w) callerA (.call (.ref fa) ⟨vals, []⟩) (fun r s' => ∃ u as, r = .ok (.ret u) ∧ ReadsW R cl s'.heap u d0 as ∧ OldK s₁.heap s'.heap ∧ s'.os = s₁.os ∧ AllBare s'.gens) s₁ := by
  obtain ⟨A, ho, ar⟩ := area_all ds vals hwl hpl hwt
  have hO : OnlyF (argH K s₁.heap A) := argH_only ar
  have hok : HOk P w (argH K s₁.heap A) s₁.heap := argH_ok ar
  have hS := dw_all KX ar ds vals hwl hpl ho
  have hV := vals_toV ho
  have hK : ∀ b u, argH K s₁.heap A b = some u → K.lookup b = none := fun b u q => (argH_is ar q).1
  have noA : ∀ {b : Addr} {o : Obj} {es : Array DictEntry} {ep : Nat}, s₁.heap.get? b = some o → o.data = .dict es ep → argH K s₁.heap A b = none := fun {b o es ep} e d => by
    cases q : argH K s₁.heap A b with
    | none => rfl
    | some u =>
      obtain ⟨_, vs, _, _, ⟨e2, _⟩ | ⟨e2, _⟩⟩ := argH_is ar q
      · rw [e2] at e
        cases e
        have d' : Data.seq vs.toArray _ = Data.dict es ep := d
        cases d'
      · rw [e2] at e
        cases e
        have d' : Data.seq vs.toArray _ = Data.dict es ep := d
        cases d'
  generalize argH K s₁.heap A = H at hO hok hS hK noA
  have base_of : ∀ {b : Addr} {o : Obj}, s₁.heap.get? b = some o → H b = none → (hidT s₁.heap H).get? b = some o := fun e n => hidT_get e n
  have nsK : ∀ {b : Addr} {m : Str → Option Value}, s₁.heap.Ns b m → (hidT s₁.heap H).Ns b m := fun {b m} ⟨o, es, ep, e, d, r⟩ => ⟨o, es, ep, base_of e (noA e d), d, r⟩
  have nK : ∀ b o, K.lookup b = some o → H b = none := fun b o e => by
    cases q : H b with
    | none => rfl
    | some u =>
      rw [hK b u q] at e
      cases e
  have hKb : K.In (hidT s₁.heap H) := fun b o e => base_of (KX b o e) (nK b o e)
  have hM : Mod K mg (hidT s₁.heap H) := ⟨hKb, nsK hns, ⟨mb, nsK hb, hbb⟩, let ⟨mc, h1, h2⟩ := hlim; ⟨mc, nsK h1, h2⟩⟩
  have e0 : Env0 P w K mg (hidT s₁.heap H) callerA [] s₁ H := ⟨rfl, hM, fun b o e => of_hidT e, Nat.le_of_eq (hidT_size _ _), trivial, fun b hb => absurd (show b ∈ ([] : List Addr) from hb) (by simp), hok, .of_eq hg⟩
  have hl : vals.length = ps.length := by rw [wellAll_len hwl]; exact hlen
  refine codeAny_mono ((F _ hKb (nsK hns)).run callerA [] s₁ H ⟨vals, []⟩ vals (vals.map toV) _ _ hr e0 (hbind s₁ vals hl) hV (hsp H _ hO hS)) fun r s' x => ?_
  cases r with
  | error e => exact (hCX H e s' x).elim
  | ok fl =>
    cases fl with
    | next => exact False.elim x
    | brk => exact False.elim x
    | cont => exact False.elim x
    | ret u =>
      obtain ⟨v, H', os, bare, un, hok', r', q⟩ := x
      have kept : ∀ b o, s₁.heap.get? b = some o → s'.heap.get? b = some o := fun b o e => by
        cases q2 : H b with
        | none => exact un.keep b o e q2 (by intro z; exact absurd (show b ∈ ([] : List Addr) from z) (by simp)) (by simp)
        | some u2 =>
          rcases hO b with z | ⟨ob, u3, z⟩
          · rw [q2] at z
            cases z
          · have z2 := un.frzs b ob _ z
            obtain ⟨e1, _⟩ := hok b _ z
            obtain ⟨e2, _⟩ := hok' b _ z2
            rw [e] at e1
            cases e1
            exact e2
      have KX' : K.In s'.heap := fun b o e => kept b o (KX b o e)
      obtain ⟨as, hrd⟩ := Dw.reads (R := R) (cl := cl) hok' KX' d0 v u q r'
      exact ⟨u, as, rfl, hrd, OldK.of_keep kept, os, bare⟩
theorem layable_weight {ds : List WData} (h : WData.layableAll ds = true) : ∀ d ∈ ds, d.weight ≤ 1048576 := fun d hd =>
  (PySem.W.layableW_iff.mp (List.all_eq_true.mp h d hd)).2.2
theorem encAll_len : ∀ (cs : List Codec) (a : Codec.denoteAll cs), (Codec.encAll cs a).length = cs.length
  | [], _ => rfl
  | c :: cs, a => by
    show (Codec.encAll cs a.2).length + 1 = cs.length + 1
    rw [encAll_len cs a.2]
theorem walk_spec {r : OpenSpec} {k : Nat} {q : Program} {loose : List Str} {XP : (Str → Option Value) → Heap → Prop} {YP : World → Heap → Prop} {d : DefRec} {K : Params → PySem.W.Frag} {CX : World → CXT} {ps : List Str} {sp : World → Sp}
    (hwell : r.wellSaid = true) (hdf : d.params.defaults = []) (hlen : r.args.length = ps.length) (hr : Room k callerA)
    (hY : ∀ (w : World) (h : Heap), YP w h → (K w.params).In h)
    (F : ∀ (w : World) (mg : Str → Option Value) (fa : Addr) (h : Heap), YP w h → (K w.params).In h → h.Ns mainGlobals mg → mg d.name = some (.ref fa) →
      ∃ fd : FuncData, (∀ (s : Shared) (us : List Value), us.length = ps.length → BindsTo s fd ⟨us, []⟩ (ps.zip us)) ∧
        ∀ base : Heap, (K w.params).In base → base.Ns mainGlobals mg → FnOk r.prog w (K w.params) mg base (CX w) k fa fd ps (sp w))
    (hsp : ∀ (w : World) (H : Hp) (xs : List V) (a : Codec.denoteAll r.args), OnlyF H → Codec.withinAll r.args a = true → Codec.app r.args r.asked a = true → DwAll (K w.params) H xs (Codec.encAll r.args a) →
      sp w xs H (fun v H' => Dw (K w.params) H' v (r.ret.enc (Codec.app r.args r.f a))) fun _ _ _ => False)
    (hCX : ∀ (w : World) (H : Hp) (s : Shared) (e : Value) (s' : Shared), CX w [] H s (fun _ _ _ => False) e s' → False) :
    PySem.W.WalkOS q loose XP YP r d [] (fun f vs => PySem.call f vs) := by
  intro w s_0 s₁ mg mb G Y fa o pm cd doc dV kV ho hd hcd hD hmg hg args vals as hpre hlay hrd hwl hlo
  obtain ⟨a, e1, e2⟩ := PySem.W.os_pre_some hpre
  obtain ⟨e3, hwi⟩ := Codec.encAll_of_decAll r.args args a e1
  subst e3
  have KX := hY w _ Y
  obtain ⟨fd, hb, hF⟩ := F w mg fa _ Y KX G.T.g hmg
  refine PySem.W.enter_call (codeAny_mono (spec_call (R := []) (cl := classAt s_0.heap) (d0 := r.ret.enc (Codec.app r.args r.f a)) KX G.T.g G.T.b G.T.builtins G.T.nolimit hg hwl (pl_encAll _ _) (layable_weight hlay) hr hF hb (by rw [encAll_len]; exact hlen)
    (fun H xs hO hS => hsp w H xs a hO hwi e2 hS) fun H e s' => hCX w H s₁ e s') fun r' s' hq => ?_)
  obtain ⟨u, as', rfl, h1, h2, h3, h4⟩ := hq
  exact ⟨.inl ⟨u, _, as', rfl, fun _ => rfl, h1, (OpenSpec.post_iff hwell hwi _ _).mpr rfl, fun z => Bool.noConfusion (show false = true from z)⟩, h2, h3, h4⟩
theorem walk_specK {r : OpenSpec} {k : Nat} {q : Program} {loose : List Str} {XP : (Str → Option Value) → Heap → Prop} {YP : World → Heap → Prop} {d : DefRec} {K : Params → PySem.W.Frag} {CX : CXT} {ps : List Str} {sp : PySem.W.Frag → Sp}
    (hwell : r.wellSaid = true) (hdf : d.params.defaults = []) (hlen : r.args.length = ps.length) (hr : Room k callerA)
    (hY : ∀ (w : World) (h : Heap), YP w h → (K w.params).In h)
    (F : ∀ (w : World) (mg : Str → Option Value) (fa : Addr) (h : Heap), YP w h → (K w.params).In h → h.Ns mainGlobals mg → mg d.name = some (.ref fa) →
      ∃ fd : FuncData, (∀ (s : Shared) (us : List Value), us.length = ps.length → BindsTo s fd ⟨us, []⟩ (ps.zip us)) ∧
        ∀ base : Heap, (K w.params).In base → base.Ns mainGlobals mg → FnOk r.prog w (K w.params) mg base CX k fa fd ps (sp (K w.params)))
    (hsp : ∀ (K : PySem.W.Frag) (H : Hp) (xs : List V) (a : Codec.denoteAll r.args), OnlyF H → Codec.withinAll r.args a = true → Codec.app r.args r.asked a = true → DwAll K H xs (Codec.encAll r.args a) →
      sp K xs H (fun v H' => Dw K H' v (r.ret.enc (Codec.app r.args r.f a))) fun _ _ _ => False)
    (hCX : ∀ (H : Hp) (s : Shared) (e : Value) (s' : Shared), CX [] H s (fun _ _ _ => False) e s' → False) :
    PySem.W.WalkOS q loose XP YP r d [] (fun f vs => PySem.call f vs) :=
  walk_spec (K := K) (CX := fun _ => CX) (sp := fun w => sp (K w.params)) hwell hdf hlen hr hY F (fun w H xs a h1 h2 h3 h4 => hsp (K w.params) H xs a h1 h2 h3 h4) fun _ H s e s' => hCX H s e s'
end L2
end

end
section
set_option Elab.async false
set_option linter.all false
set_option maxRecDepth 100000
set_option maxHeartbeats 4000000
/-! More rules for a program with pairs as keys: what stands at the top, calls in a bundle, pop and len of a dict whose keys are tuples. -/
namespace L2
open PySem PySem.Spec PyProof.Rows
section
variable {prog : Program} {w : World} {K : Type} [DecidableEq K] {knd : HeapKind prog w K} {A : Around} {E : Value → Shared → Prop} {s : Shared}
/-- a table of keyed things without one key -/
def lessH (xs : List (K × Addr × Value)) (k : K) : List (K × Addr × Value) := xs.filter fun x => decide (x.1 ≠ k)
theorem lessH_not {xs : List (K × Addr × Value)} {k : K} (h : ¬ k ∈ xs.map (·.1)) : lessH xs k = xs := by
  unfold lessH
  rw [List.filter_eq_self]
  intro x hx
  exact decide_eq_true fun e => h (List.mem_map.mpr ⟨x, hx, e⟩)
theorem eraseIdx_lessH : ∀ {xs : List (K × Addr × Value)} {k : K} {j : Nat} {p : Addr × Value}, (xs.map (·.1)).Nodup → xs[j]? = some (k, p) → xs.eraseIdx j = lessH xs k
  | [], k, j, p, _, h => by simp at h
  | x :: r, k, 0, p, hn, h => by
    have hn' : (x.1 :: r.map (·.1)).Nodup := hn
    obtain ⟨h1, _⟩ := List.nodup_cons.mp hn'
    have e : x = (k, p) := Option.some.inj h
    subst e
    have q : lessH ((k, p) :: r) k = lessH r k := by
      unfold lessH
      rw [List.filter_cons, if_neg (by simp)]
    rw [q, lessH_not h1]
    rfl
  | x :: r, k, j + 1, p, hn, h => by
    have hn' : (x.1 :: r.map (·.1)).Nodup := hn
    obtain ⟨h1, h2⟩ := List.nodup_cons.mp hn'
    have hr : r[j]? = some (k, p) := h
    have ih := eraseIdx_lessH h2 hr
    have ne : ¬ x.1 = k := fun e => h1 (List.mem_map.mpr ⟨(k, p), List.mem_of_getElem? hr, e.symm⟩)
    have q : lessH (x :: r) k = x :: lessH r k := by
      unfold lessH
      rw [List.filter_cons, if_pos (by simp [ne])]
    rw [q, ← ih]
    rfl
theorem lessH_keys {xs : List (K × Addr × Value)} {k : K} (hn : (xs.map (·.1)).Nodup) : ((lessH xs k).map (·.1)).Nodup := by
  have e : (lessH xs k).map (·.1) = (xs.map (·.1)).filter fun y => decide (y ≠ k) := by
    unfold lessH
    rw [List.filter_map]
    rfl
  rw [e]
  exact hn.filter _
theorem map_eraseIdx' {α β : Type} (f : α → β) : ∀ (l : List α) (j : Nat), (l.map f).eraseIdx j = (l.eraseIdx j).map f
  | [], _ => rfl
  | _ :: _, 0 => rfl
  | x :: r, j + 1 => by
    show f x :: (r.map f).eraseIdx j = f x :: (r.eraseIdx j).map f
    rw [map_eraseIdx' f r j]
/-- an entry is taken out of a dict whose keys lie on the heap -/
theorem takeOutH {d a : Addr} {xs : List (K × Addr × Value)} {k : K} {p : Addr × Value} {Q : Option DictEntry → Shared → Prop} (hu : knd.room A) (hkey : knd.is s.heap k a) (hm : s.heap.DictOfH knd d xs) (hp : atKey xs k = some p) (hz : xs.length ≤ sizeLine)
    (h : ∀ h', h'.DictOfH knd d (lessH xs k) → Heap.SameBut d s.heap h' → Q (some ⟨knd.hash k, .ref p.1, p.2⟩) { s with heap := h', toks := s.toks + knd.draws k }) :
    wpAny (model prog w) A (Builtin.Dict.takeOut d (.ref a)) Q E s := by
  obtain ⟨o, es, ep, ho, hc, hd, he, his, hn⟩ := hm
  unfold Builtin.Dict.takeOut
  try with_reducible refine wpAny_holding ?_
  refine wpAny_bind (knd.pyHash hu hkey (wpAny_bind (wpAny_dictFind_heap (s := { s with toks := s.toks + knd.draws k }) hu hkey ho hd he his hn ?_ ?_)))
  · intro hno
    rw [atKey_none_of_get hno] at hp
    cases hp
  · intro j q hj
    have eq : p = q := by
      have z := atKey_of_get hn hj
      rw [hp] at z
      exact Option.some.inj z
    subst eq
    refine wpAny_bind (wpAny_dictEntries (s := { s with toks := s.toks + knd.draws k }) ho hd ?_)
    have hej : es[j]? = some ⟨knd.hash k, .ref p.1, p.2⟩ := by rw [entry_at he j, hj]; rfl
    rw [hej]
    have hes : es.size ≤ sizeLine := by rw [size_of_entries he]; exact hz
    refine wpAny_bind (wpAny_updateDictKeys (hz := hes) (s := { s with toks := s.toks + knd.draws k }) ho hd (wpAny_pure (h _ ⟨_, _, ep + 1, Heap.get?_update_self _ ho (Obj.isFreed_of_dict (Obj.data_mapDictKeys hd _)), hc.mapDictKeys _, Obj.data_mapDictKeys hd _, ?_, ?_, lessH_keys hn⟩ (Heap.SameBut.update ..))))
    · rw [← eraseIdx_lessH hn hj, ← map_eraseIdx', ← he]
      obtain ⟨l⟩ := es
      simp
    · intro x hx
      exact knd.keeps (his x (List.mem_filter.mp hx).1) ho hd (Heap.SameBut.update ..)
theorem popH {d a : Addr} (rest : List Value) (hrest : rest = [] ∨ ∃ dflt, rest = [dflt]) :
    MeetsIn prog w (Builtin.«dict.pop» ⟨.ref d :: .ref a :: rest, []⟩) (fun A R s => knd.room A.in1 ∧ ∃ k xs p, knd.is s.heap k a ∧ s.heap.DictOfH knd d xs ∧ xs.length ≤ sizeLine ∧ atKey xs k = some p ∧
      ∀ h', h'.DictOfH knd d (lessH xs k) → Heap.SameBut d s.heap h' → R (.ok (.ret p.2)) { s with heap := h', toks := s.toks + knd.draws k }) :=
  .of_wp fun A R s ⟨hu, k, xs, p, hkey, hm, hz, hp, h⟩ => by
    have hm' := hm
    obtain ⟨o, es, ep, ho, hc, hd, he, his, hn⟩ := hm'
    have hne : es.isEmpty = false := by
      cases xs with
      | nil => cases hp
      | cons x r =>
        obtain ⟨l⟩ := es
        have hl : l = (x :: r).map (entryOfKey knd) := he
        rw [hl]
        rfl
    have fin : ∀ dflt : Option Value, wpAny (model prog w) A.in1 (do
        let old ← Builtin.Dict.takeOut d (.ref a)
        if old.isNone then Builtin.Dict.missedRemoval d (.ref a)
        match old, dflt with
        | some e, _ => letGo [e.key] [e.val]; ret e.val
        | none, some x => rule "dict.pop.default"; ret x
        | none, none => rule "dict.pop.keyerror"; raiseNew (← newExc (.type "KeyError") [.ref a])) (fun fin s' => ∃ v, fin = .done (.ret v) ∧ R (.ok (.ret v)) s') (fun e s' => R (.error e) s') s := fun dflt => by
      refine wpAny_bind (takeOutH hu hkey hm hp hz fun h' hm' hs' => ?_)
      simp only [Option.isNone_some, Bool.false_eq_true, if_false]
      exact wpAny_bind (wpAny_letGo (wpAny_pure ⟨p.2, rfl, h h' hm' hs'⟩))
    unfold Builtin.«dict.pop»
    refine wpAny_bind ?_
    unfold Builtin.Dict.keyAndDefault
    refine wpAny_bind (wpAny_notOrdered_dict hm.typeIs ?_)
    rcases hrest with rfl | ⟨dflt, rfl⟩
    · show wpAny _ _ (pure (d, Value.ref a, none)) _ _ s
      refine wpAny_pure ?_
      refine wpAny_bind (wpAny_dictEntries ho hd (wpAny_bind (wpAny_pure ?_)))
      simp only [hne, Bool.false_eq_true, if_false]
      exact fin none
    · show wpAny _ _ (pure (d, Value.ref a, some dflt)) _ _ s
      refine wpAny_pure ?_
      refine wpAny_bind (wpAny_dictEntries ho hd (wpAny_bind (wpAny_pure ?_)))
      simp only [hne, Bool.false_eq_true, if_false]
      exact fin (some dflt)
theorem lenH {d : Addr} (hd : (d == sysModules) = false) :
    MeetsIn prog w (Builtin.«dict.__len__» ⟨[.ref d], []⟩) (fun _ R s => ∃ xs, s.heap.DictOfH knd d xs ∧ R (.ok (.ret (.int xs.length s.toks))) { s with toks := s.toks + 1 }) :=
  .of_wp fun A R s ⟨xs, hm, h⟩ => by
    obtain ⟨o, es, ep, ho, hc, hdat, he, his, hn⟩ := hm
    show wpAny _ _ (dictSize d >>= _) _ _ s
    unfold dictSize
    refine wpAny_bind (wpAny_bind (wpAny_dictEntries ho hdat (wpAny_pure ?_)))
    show wpAny _ _ (Builtin.Dict.pendingCount d >>= _) _ _ s
    refine wpAny_bind (wpAny_pendingCount_other hd (wpAny_ret_mkInt ?_))
    rw [Nat.add_zero, size_of_entries he]
    exact h
theorem len_bodyH {d : Addr} {xs : List (K × Addr × Value)} {Q : Value → Shared → Prop} (hd : (d == sysModules) = false) (hm : s.heap.DictOfH knd d xs) (hfit : (xs.length : Int) < 2 ^ 63)
    (h : Q (.int xs.length (s.toks + 1)) { s with toks := s.toks + 1 + 1 }) : wpAny (model prog w) A (Builtin.«len» ⟨[.ref d], []⟩) (fun fin s' => ∃ r, fin = .done (.ret r) ∧ Q r s') E s := by
  unfold Builtin.«len»
  refine wpAny_bind (m := oneArg "len" _) (wpAny_pure (wpAny_bind (m := callSpecial? (.ref d) (Str.ofString "__len__")) (wpAny_callSpecial?_slot (name := Str.ofString "__len__") hm.typeIs F.slot_dict_len
    (call_meetsIn F.slot_dict_len hm.typeIs F.entry_dict_len (F.args_dict_len_1 _) (lenH (knd := knd) hd) ⟨xs, hm, ?_⟩))))
  show wpAny _ _ _ _ _ { s with toks := s.toks + 1 }
  refine wpAny_bind (wpAny_holding (wpAny_pure (wpAny_bind (wpAny_letGo ?_))))
  show wpAny _ _ (if ((xs.length : Nat) : Int) < 0 then _ else _) _ _ _
  rw [if_neg (by omega)]
  show wpAny _ _ (if ((xs.length : Nat) : Int) ≥ 2 ^ 63 then _ else _) _ _ _
  rw [if_neg (by omega)]
  exact wpAny_bind (wpAny_mkInt (wpAny_pure ⟨_, rfl, h⟩))
theorem call_lenH {d : Addr} {xs : List (K × Addr × Value)} {Q : Value → Shared → Prop} (hd : (d == sysModules) = false) (hm : s.heap.DictOfH knd d xs) (hfit : (xs.length : Int) < 2 ^ 63)
    (h : Q (.int xs.length (s.toks + 1)) { s with toks := s.toks + 1 + 1 }) : wpAny (model prog w) A (call (.builtin "len") [.ref d]) Q E s :=
  Calls.call_function_entry kind_len plain_len entry_len (args_len1 _) (len_bodyH hd hm hfit h)
end
theorem KT.drop {H : Hp} {kvs : List (List Key × V)} {xs : List (List Key × Addr × Value)} (r : KT H kvs xs) (k : List Key) : KT H (dropK kvs k) (lessH xs k) := by
  induction r with
  | nil => exact .nil
  | @cons p q ps qs h t ih =>
    obtain ⟨h1, h2, h3⟩ := h
    by_cases e : p.1 = k
    · have e' : q.1 = k := h1.symm.trans e
      have z : lessH (q :: qs) k = lessH qs k := by
        unfold lessH
        rw [List.filter_cons, if_neg (by simp [e'])]
      rw [dropK_pos e, z]
      exact ih
    · have e' : ¬ q.1 = k := fun z => e (h1.trans z)
      have z : lessH (q :: qs) k = q :: lessH qs k := by
        unfold lessH
        rw [List.filter_cons, if_pos (by simp [e'])]
      rw [dropK_neg e, z]
      exact .cons ⟨h1, h2, h3⟩ ih
section
variable {X : Cx} {pins : List (Addr × Obj)} {σ : St} {H : Hp} {s : Shared} {a b : Addr} {kvs : List (List Key × V)} {k : List Key} {A : Around} {E : Value → Shared → Prop}
/-- d.pop(t), there: keys that are tuples -/
theorem d_popT {v : V} {more : List Value} {Q : Value → Shared → Prop} (hu : A.units + 1 < cLine) (I : Inv X pins σ H s) (e : H a = some (.dT kvs)) (eb : H b = some (.tup (k.map kV))) (l : valV kvs k = some v) (hm : more = [] ∨ ∃ x, more = [x])
    (h : ∀ w' s', Inv X pins σ (upd H a (.dT (dropK kvs k))) s' → RelV v w' → Q w' s') : wpAny (model X.prog X.w) A (call (.builtin "dict.pop") (.ref a :: .ref b :: more)) Q E s := by
  obtain ⟨z, hd, xs, rel, dd⟩ := dt_of I.hok e
  obtain ⟨w', hw, rw'⟩ := RelO.some_of (v := v) (o := (atKey xs k).map (·.2)) (by rw [← l]; exact rel.val k)
  obtain ⟨p, hp, hp2⟩ := Option.map_eq_some_iff.mp hw
  have hz : xs.length ≤ sizeLine := by rw [← Paired.length rel]; exact z
  have ha : argsOk "dict.pop" ⟨.ref a :: .ref b :: more, []⟩ := by
    rcases hm with q | ⟨x, q⟩
    · subst q; exact PySem.F.args_dict_pop_2 _ _
    · subst q; exact PySem.F.args_dict_pop_3 _ _ _
  refine call_meetsIn PySem.F.slot_dict_pop dd.typeIs PySem.F.entry_dict_pop ha (popH (knd := tupleKind (mixKind X.prog X.w)) more hm) ⟨tupleKind_room_in1 hu, k, xs, p, key_of I.hok eb, dd, hz, hp, fun h' dd' hs => ?_⟩
  rw [hp2]
  refine h w' _ ?_ rw'
  obtain ⟨q, es, ep, hq, h2, h3, h4, _, h5⟩ := dd'
  refine d_write I (by rw [e]; exact True.intro) hs ⟨q, hq⟩ ⟨Nat.le_trans (dropK_le kvs k) z, hd, _, (rel.drop k).keeps fun c ys ec => ?_, q, es, ep, hq, h2, h3, h4, h5⟩
  rw [upd_ne (ne_of ec e (fun z => nomatch z))]
  exact ec
theorem d_lenT {Q : Value → Shared → Prop} (I : Inv X pins σ H s) (e : Rd H a (.dT kvs)) (h : ∀ t s', Inv X pins σ H s' → Q (.int kvs.length t) s') : wpAny (model X.prog X.w) A (call (.builtin "len") [.ref a]) Q E s := by
  obtain ⟨z, hd, xs, rel, dd⟩ := dt_rd I.hok e
  have hl : kvs.length = xs.length := Paired.length rel
  refine call_lenH hd dd (by rw [← hl]; rw [sizeLine_eq] at z; omega) ?_
  rw [← hl]
  exact h _ _ (I.tok _)
end
/-- d.pop(t): there; keys that are tuples -/
def tDPopT (td ty : TE) : TE := fun σ H Q => td σ H fun x H1 => ∃ a, x = .ref a ∧ IsD H1 a ∧ ty σ H1 fun y H2 => ∃ kvs k b v, H2 a = some (.dT kvs) ∧ y = .ref b ∧ H2 b = some (.tup (k.map kV)) ∧ valV kvs k = some v ∧ Q v (upd H2 a (.dT (dropK kvs k)))
section
variable {X : Cx} {o e : Expr} {apos cpos : Pos} {td ty : TE}
theorem pe_dpopT (hu : X.A.units + 1 < cLine) (ho : PE X o td) (he : PE X e ty) (m : M1 X o "pop" apos e cpos) : PE X (.Call (.Attribute o "pop" apos) [e] [] cpos) (tDPopT td ty) := by
  intro pins s σ H Q I h
  refine wpAny_Call_method m.base m.few m.line PySem.F.plainAttrs_dict PySem.F.slot_dict_pop PySem.F.type_dict_pop (thn (ho pins s σ H _ I h) fun u s1 ⟨x, H1, I1, rx, a, ex, d, q1⟩ => ?_)
  subst ex
  obtain rfl : u = Value.ref a := rx
  obtain ⟨t1, t2, _⟩ := isD_at I1 d
  refine ⟨t1, t2, ?_⟩
  rw [m.trees]
  refine Calls.callWith_builtin rfl (Calls.evalArgs_plain (Calls.spliced_cons (thn (he pins s1 σ H1 _ I1 q1) fun iv s2 ⟨y, H2, I2, ry, kvs, k, b, v, ea, ey, eb, l, q2⟩ => Calls.spliced_nil ?_)))
  subst ey
  obtain rfl : iv = Value.ref b := ry
  exact d_popT hu I2 ea eb l (.inl rfl) fun w' s3 I3 rw' => ⟨v, _, I3, rw', q2⟩
theorem call_lenT : CallR X (.builtin "len") (fun xs H Q => ∃ a kvs, xs = [V.ref a] ∧ Rd H a (.dT kvs) ∧ Q (.int kvs.length) H) := by
  intro pins s σ H xs us Q I r h
  obtain ⟨a, kvs, rfl, ha, q⟩ := h
  obtain ⟨u, rfl, ru⟩ := vals1 r
  cases ru
  exact d_lenT I ha fun t s' I' => ⟨.int kvs.length, H, I', ⟨t, rfl⟩, q⟩
end
/-! ### what stands at the top; calls in a bundle -/
section
variable {X : Cx} {k : Nat} {C : Addr} {ps : List Str} {sp : Sp} {x m : Str} {p pos apos : Pos} {e o : Expr} {es : List Expr} {ta : TE} {t : TA}
theorem pe_globI {i : Int} (h : ∃ t, X.mg x = some (.int i t)) (hg : Gl X x := by rfl) (hd : (x == ("__debug__" : Str)) = false := by decide) : PE X (.Name x pos) (tC (.int i)) := by
  obtain ⟨t, e⟩ := h
  exact pe_glob hg e ⟨t, rfl⟩ hd
theorem pe_globR {a : Addr} (h : X.mg x = some (.ref a)) (hg : Gl X x := by rfl) (hd : (x == ("__debug__" : Str)) = false := by decide) : PE X (.Name x pos) (tC (.ref a)) := pe_glob hg h rfl hd
/-- a method of the class at C keeps its promise -/
structure MOk (P : Program) (w : World) (K : PySem.W.Frag) (mg : Str → Option Value) (base : Heap) (C : Addr) (k : Nat) (m : Str) (ps : List Str) (sp : Sp) : Prop where
  ex : ∃ f fd, Meth K C m f ∧ FnOk P w K mg base CX0 k f fd ps sp ∧ Binds K fd ps []
/-- a def of the top keeps its promise -/
structure FOk (P : Program) (w : World) (K : PySem.W.Frag) (mg : Str → Option Value) (base : Heap) (k : Nat) (x : Str) (ps : List Str) (sp : Sp) : Prop where
  ex : ∃ f fd, mg x = some (.ref f) ∧ PySem.W.keepIn K (.ref f) = true ∧ FnOk P w K mg base CX0 k f fd ps sp ∧ Binds K fd ps []
theorem pe_methM {pl : Sem Bool} (he : PE X o ta) (c : Cls X.K C) (M : MOk X.prog X.w X.K X.mg X.base C k m ps sp) (hr : Room k X.A) (ha : PA X (e :: es) t)
    (hst : starEach (e :: es) X.env = (false, eval e X.env) :: starEach es X.env := by rfl) (hpl : (backTo pos (starEach es X.env)).any (·.1) = false := by rfl)
    (ht : eval (.Call (.Attribute o m apos) (e :: es) [] pos) X.env = (do
      let ov ← eval o X.env
      standAt apos.atName
      let (f, first) ← holding [ov] (getMethod ov m pl)
      callWith pos f first (backTo pos (starEach (e :: es) X.env)) (backToKw pos (keywordEach [] X.env))) := by rfl) :
    PE X (.Call (.Attribute o m apos) (e :: es) [] pos) (tMeth C m sp [] E0 ta t) := by
  obtain ⟨f, fd, hm, F, hb⟩ := M.ex
  exact pe_meth he c hm F hr hb .nil pass0 ha hst hpl ht
theorem pe_methM0 {pl : Sem Bool} (he : PE X o ta) (c : Cls X.K C) (M : MOk X.prog X.w X.K X.mg X.base C k m ps sp) (hr : Room k X.A)
    (ht : eval (.Call (.Attribute o m apos) [] [] pos) X.env = (do
      let ov ← eval o X.env
      standAt apos.atName
      let (f, first) ← holding [ov] (getMethod ov m pl)
      callWith pos f first (backTo pos (starEach [] X.env)) (backToKw pos (keywordEach [] X.env))) := by rfl) :
    PE X (.Call (.Attribute o m apos) [] [] pos) (tMeth C m sp [] E0 ta tNil) := by
  obtain ⟨f, fd, hm, F, hb⟩ := M.ex
  exact pe_meth0 he c hm F hr hb .nil pass0 ht
theorem pe_callF (M : FOk X.prog X.w X.K X.mg X.base k x ps sp) (hr : Room k X.A) (ha : PA X (e :: es) t) (hg : Gl X x := by rfl) (hdb : (x == ("__debug__" : Str)) = false := by decide)
    (he : starEach (e :: es) X.env = (false, eval e X.env) :: starEach es X.env := by rfl) (hpl : (backTo pos (starEach es X.env)).any (·.1) = false := by rfl) :
    PE X (.Call (.Name x p) (e :: es) [] pos) (tCall sp [] E0 t) := by
  obtain ⟨f, fd, hm, hk, F, hb⟩ := M.ex
  exact pe_call F hr hg hm hk hb .nil pass0 ha hdb he hpl
/-- a class whose __init__ keeps its promise -/
structure COk (P : Program) (w : World) (K : PySem.W.Frag) (mg : Str → Option Value) (base : Heap) (C : Addr) (k : Nat) (x : Str) (ps : List Str) (sp : Sp) : Prop where
  ex : ∃ f fd, mg x = some (.ref C) ∧ Mk K C f ∧ FnOk P w K mg base CX0 k f fd ps sp ∧ Binds K fd ps []
theorem pe_makeM0 (M : COk X.prog X.w X.K X.mg X.base C k x ps sp) (hr : Room (k + 1) X.A) (hg : Gl X x := by rfl) (hdb : (x == ("__debug__" : Str)) = false := by decide) :
    PE X (.Call (.Name x p) [] [] pos) (tMake C sp [] E0 tNil) := by
  obtain ⟨f, fd, hm, mk, F, hb⟩ := M.ex
  exact pe_make0 mk F hr hg hm hb .nil pass0 hdb
end
/-! ### lists that are the program's own: the readings by the heap alone -/
section
variable {X : Cx} {o e : Expr} {to te : TE} {apos cpos : Pos}
theorem CallR.imp {f : Value} {r r' : List V → Hp → VK → Prop} (h : CallR X f r) (k : ∀ xs H Q, r' xs H Q → r xs H Q) : CallR X f r' := fun pins s σ H xs us Q I v q => h pins s σ H xs us Q I v (k _ _ _ q)
theorem IxR.imp {r r' : R2} (h : IxR X r) (k : ∀ x y H Q, r' x y H Q → r x y H Q) : IxR X r' := fun value slice pins s σ H x y v u Q I rx ry q => h value slice pins s σ H x y v u Q I rx ry (k _ _ _ _ q)
def rLenL : List V → Hp → VK → Prop := fun xs H Q => ∃ p ys, xs = [.ref p] ∧ H p = some (.lst ys) ∧ Q (.int ys.length) H
theorem call_lenL : CallR X (.builtin "len") rLenL := call_len_seq.imp fun xs H Q ⟨p, ys, e, h, q⟩ => ⟨p, ys, e, .inl (SqL.of h), q⟩
def rAtL : R2 := fun x y H Q => ∃ p xs i v, x = .ref p ∧ y = .int i ∧ H p = some (.lst xs) ∧ atI xs i = some v ∧ Q v H
theorem ix_L : IxR X rAtL := ix_list.imp fun x y H Q ⟨p, xs, i, v, e1, e2, h, a, q⟩ => ⟨p, xs, i, v, e1, e2, SqL.of h, a, q⟩
/-- xs.append(e) -/
def tApp (to te : TE) : TE := fun σ H Q => to σ H fun x H1 => ∃ l, x = .ref l ∧ (∃ ys, H1 l = some (.lst ys)) ∧ te σ H1 fun y H2 => ∃ xs, H2 l = some (.lst xs) ∧ xs.length < sizeLine ∧ Q .non (upd H2 l (.lst (xs ++ [y])))
theorem PE.imp {x : Expr} {t t' : TE} (h : PE X x t) (k : ∀ σ H Q, t' σ H Q → t σ H Q) : PE X x t' := fun pins s σ H Q I q => h pins s σ H Q I (k _ _ _ q)
end
end L2
end
section
set_option Elab.async false
set_option linter.all false
set_option maxRecDepth 100000
set_option maxHeartbeats 4000000
/-! More rules: list.count, list(range(n)), loops and comprehensions over any iterator, a list that grows while nothing else changes. -/
namespace L2
open PySem PySem.Spec PyProof.Rows
section
variable {X : Cx}
def rCount (K : PySem.W.Frag) : V → List V → Hp → VK → Prop := fun x xs H Q => ∃ (a : Addr) (ns : List Int) (k : Int), x = V.ref a ∧ xs = [.int k] ∧ SqL K H a (ns.map V.int) ∧ Q (.int (ns.count k : Nat)) H
theorem mt_cnt : MtR X "list.count" (rCount X.K) := by
  intro pins s σ H x xs v us Q I rx rxs h
  obtain ⟨a, ns, k, rfl, rfl, hs, q⟩ := h
  cases rx
  obtain ⟨u, rfl, ru⟩ := vals1 rxs
  obtain ⟨t, rfl⟩ := ru
  obtain ⟨its, rv, hl, _⟩ := I.list hs
  exact count_list_ints hl.isList rv.ints ⟨.int _, H, I.tok _, ⟨_, rfl⟩, q⟩
theorem vals_of_get : ∀ {xs : List V} {us : List Value}, xs.length = us.length → (∀ (j : Nat) (x : V) (u : Value), xs[j]? = some x → us[j]? = some u → RelV x u) → Vals xs us
  | [], [], _, _ => .nil
  | x :: xs, u :: us, h, k => .cons (k 0 x u rfl rfl) (vals_of_get (by simpa using h) fun j y v e1 e2 => k (j + 1) y v (by simpa using e1) (by simpa using e2))
  | [], _ :: _, h, _ => by simp at h
  | _ :: _, [], h, _ => by simp at h
/-- list(range(n)) -/
def tListR (ta : TA) : TE := fun σ H Q => ta σ H fun vs H1 => ∃ n : Nat, vs = [.int (n : Int)] ∧ n ≤ 65536 ∧ ∀ l, H1 l = none → Q (.ref l) (upd H1 l (.lst ((List.range n).map fun (i : Nat) => V.int (i : Int))))
theorem pe_listR {a : Expr} {ta : TA} {p pos p2 pos2 : Pos} (hc : X.calm = true) (hgl : Gl X "list") (hml : X.mg "list" = none) (hg : Gl X "range") (hm : X.mg "range" = none) (ha : PA X [a] ta) (hs : starEach [a] X.env = [(false, eval a X.env)] := by rfl)
    (hs2 : starEach [.Call (.Name "range" p2) [a] [] pos2] X.env = [(false, eval (.Call (.Name "range" p2) [a] [] pos2) X.env)] := by rfl) :
    PE X (.Call (.Name "list" p) [.Call (.Name "range" p2) [a] [] pos2] [] pos) (tListR ta) := by
  intro pins s σ H Q I h
  refine wpAny_Call_Name_kw (ld_blt I hgl hml (show bootBuiltins "list" = some (.type "list") by decide +kernel) ?_)
  refine PyProof.Rows.callWith_type1 ?_ hs2 rfl
  rw [hs2]
  refine Calls.spliced_cons ?_
  refine Call_ (ld_blt I hg hm boot_range (PyProof.Rows.callWith_type1 (thn (ha pos2 pins s σ H _ I h) fun us s1 ⟨vs, H1, I1, r1, q1⟩ => ?_) hs rfl))
  obtain ⟨n, e, hn, q⟩ := q1
  subst e
  obtain ⟨u, rfl, ru⟩ := vals1 r1
  obtain ⟨t, rfl⟩ := ru
  refine call_range_1 (Calls.spliced_nil ?_)
  have I2 : Inv X pins σ H1 { s1 with heap := s1.heap.push { cls := .type "range", data := .fields #[.int 0 s1.toks, .int (n : Int) t, .int 1 (s1.toks + 1)] }, toks := s1.toks + 1 + 1 } := I1.kept fun b o e => Heap.get?_push_of_some _ e
  refine call_list_range (I.ok.hd hc) (IsRange.new ..) (small_one (by decide) (by decide) (by omega) (by omega)) (n := n) (by rw [rangeSize_one]; split <;> omega) (by omega) fun h' tk acc' c' hk hS hacc => ?_
  have hv : Vals ((List.range n).map fun (i : Nat) => V.int (i : Int)) acc'.toList := by
    refine vals_of_get (by simp [hacc.1]) fun j x u hx hu => ?_
    have hu' : acc'[j]? = some u := by simpa using hu
    obtain ⟨tk, rfl⟩ := hacc.2 j u hu'
    have hj : j < n := by
      have := (Array.getElem?_eq_some_iff.mp hu').1
      rw [hacc.1] at this; exact this
    rw [List.getElem?_map, List.getElem?_range hj] at hx
    have e := Option.some.inj hx
    subst e
    exact ⟨tk, by simp⟩
  exact ⟨.ref _, _, I2.laid (t' := tk) hk (Nat.le_refl _) (show ObjOk X.prog X.w _ h' _ (.lst ((List.range n).map fun (i : Nat) => V.int (i : Int))) from ⟨by rw [List.length_map, List.length_range, sizeLine_eq]; omega, acc'.toList, c', hv, by simpa using hS⟩), rfl, q _ (I2.hok.fresh (Nat.le_refl _))⟩
end
/-! ### the same rules inside a comprehension: K is the def's -/
section
variable {X : Cx} {K : PySem.W.Frag}
theorem pg_tupK {es : List Expr} {k : Nat} {t : TGs} {n : Nat} {pos : Pos} (hK : X.K = K) (hc : X.calm = true) (h : PGs X es t)
    (hn : (assignEach es X.env).length = n := by rfl) (hst : (assignEach es X.env).findIdx? (·.1) = none := by rfl) : PG X (.Tuple es k pos) (gTup K n t) := by
  subst hK
  exact pg_tup hc h hn hst
theorem ix_tupK (hK : X.K = K) : IxR X (rIxT K) := by
  subst hK
  exact ix_tup
theorem pe_fldK {e : Expr} {ta : TE} {f : Str} {pos : Pos} (hK : X.K = K) (he : PE X e ta) (hb : attributeBase e f X.env (eval e X.env) = eval e X.env) : PE X (.Attribute e f pos) (tFld K ta f) := by
  subst hK
  exact pe_fld he hb
theorem pe_cntK {o e : Expr} {to : TE} {t : TA} {apos cpos : Pos} (hK : X.K = K) (ho : PE X o to) (ha : PA X [e] t)
    (hbase : attributeBase o "count" X.env (eval o X.env) = eval o X.env := by rfl)
    (hfew : ((backTo cpos (starEach [e] X.env)).all (fun x => !x.1) && (backToKw cpos (keywordEach [] X.env)).all (fun x => x.1.isSome)
      && decide ([e].length + ([] : List Keyword).length + (if ([] : List Keyword).isEmpty then 0 else 1) < 30)) = true := by rfl)
    (hline : (apos.endLine == cpos.line) = true := by rfl) (hs : starEach [e] X.env = (false, eval e X.env) :: starEach [] X.env := by rfl) (hplain : (backTo cpos (starEach [] X.env)).any (·.1) = false := by rfl) :
    PE X (.Call (.Attribute o "count" apos) [e] [] cpos) (tBM K "list" (rCount K) to t) := by
  subst hK
  exact pe_bm PySem.F.plainAttrs_list PySem.F.slot_list_count PySem.F.type_list_count mt_cnt ho ha hbase hfew hline hs hplain
end
/-! ### loops by any iterator of n turns -/
section
variable {J : It} {n : Nat} {g : TG}
theorem for_any {tb : TS} {D : Ends} {σ : St} {H : Hp} (Pv : Nat → St → Hp → Prop) (h0 : Pv 0 σ H) (hstop : ∀ σ H, Pv n σ H → J.stop n H) (hgo : ∀ i σ H, i < n → Pv i σ H → J.go i H)
    (hs : ∀ i x σ H H', i < n → Pv i σ H → J.yld i H x H' → g x σ H' fun σ2 H2 => tb { D with nx := Pv (i + 1), ct := Pv (i + 1), bk := D.nx } σ2 H2) (hd : ∀ σ H, Pv n σ H → D.nx σ H) :
    ∃ W : Nat → Nat → St → Hp → Prop, (∃ m, W 0 m σ H) ∧ ∀ i m σ H, W i m σ H →
      (J.stop i H ∧ D.nx σ H) ∨ (J.go i H ∧ ∃ N : St → Hp → Prop, (∀ σ' H', N σ' H' → ∃ m', m' < m ∧ W (i + 1) m' σ' H') ∧ ∀ x H', J.yld i H x H' → g x σ H' fun σ2 H2 => tb { D with nx := N, ct := N, bk := D.nx } σ2 H2) := by
  refine ⟨fun i m σ H => m = n - i ∧ i ≤ n ∧ Pv i σ H, ⟨n, by simp, Nat.zero_le _, h0⟩, ?_⟩
  rintro i m σ H ⟨rfl, hi, p⟩
  by_cases hlt : i < n
  · exact .inr ⟨hgo i σ H hlt p, Pv (i + 1), fun σ' H' p' => ⟨n - (i + 1), by omega, rfl, hlt, p'⟩, fun x H' y => hs i x σ H H' hlt p y⟩
  · have e : i = n := by omega
    subst e
    exact .inl ⟨hstop σ H p, hd σ H p⟩
theorem lc_any {tt : TT} {te : TE} {vs : List Nat} {σ : St} {H1 : Hp} {D : Addr} {Qd : Hp → Prop} (Pv : Nat → Hp → Prop) (h0 : Pv 0 (upd H1 D (.lst []))) (hstop : ∀ H, Pv n H → J.stop n H) (hgo : ∀ i H, i < n → Pv i H → J.go i H)
    (hs : ∀ i x H H', i < n → Pv i H → J.yld i H x H' → g x (wipe σ vs) H' fun σ2 H2 => wipe σ2 vs = wipe σ vs ∧ tt σ2 H2 fun b H3 =>
      if b = true then te σ2 H3 fun y H4 => ∃ acc, H4 D = some (.lst acc) ∧ acc.length < sizeLine ∧ Pv (i + 1) (upd H4 D (.lst (acc ++ [y]))) else Pv (i + 1) H3) (hd : ∀ H, Pv n H → Qd H) :
    ∃ W : Nat → Nat → Hp → Prop, (∃ m, W 0 m (upd H1 D (.lst []))) ∧ ∀ i m H, W i m H →
      (J.stop i H ∧ Qd H) ∨ (J.go i H ∧ ∃ Nx : Hp → Prop, (∀ H', Nx H' → ∃ m', m' < m ∧ W (i + 1) m' H') ∧ ∀ x H', J.yld i H x H' → g x (wipe σ vs) H' fun σ2 H2 => wipe σ2 vs = wipe σ vs ∧ tt σ2 H2 fun b H3 =>
        if b = true then te σ2 H3 fun y H4 => ∃ acc, H4 D = some (.lst acc) ∧ acc.length < sizeLine ∧ Nx (upd H4 D (.lst (acc ++ [y]))) else Nx H3) := by
  refine ⟨fun i m H => m = n - i ∧ i ≤ n ∧ Pv i H, ⟨n, by simp, Nat.zero_le _, h0⟩, ?_⟩
  rintro i m H ⟨rfl, hi, p⟩
  by_cases hlt : i < n
  · exact .inr ⟨hgo i H hlt p, Pv (i + 1), fun H' p' => ⟨n - (i + 1), by omega, rfl, hlt, p'⟩, fun x H' y => hs i x H H' hlt p y⟩
  · have e : i = n := by omega
    subst e
    exact .inl ⟨hstop H p, hd H p⟩
end
theorem yesT {σ : St} {H : Hp} {A B : Hp → Prop} (h : A H) : tYes σ H (fun b H3 => if b = true then A H3 else B H3) := by
  show if true = true then A H else B H
  rw [if_pos rfl]
  exact h
/-! ### a new list that grows -/
theorem Same.new {H : Hp} {a : Addr} {o : HO} (h : H a = none) : Same H (upd H a o) := fun b o' z => by rw [upd_ne (ne_of_none z h)]; exact z
/-- behind i turns -/
structure Grow (H1 : Hp) (D : Addr) (out : Nat → List V) (i : Nat) (H : Hp) : Prop where
  same : Same H1 H
  «at» : H D = some (.lst (out i))
section
variable {H1 H H' : Hp} {D : Addr} {out : Nat → List V} {i : Nat} {y : V}
theorem Grow.start (hD : H1 D = none) (e : out 0 = []) : Grow H1 D out 0 (upd H1 D (.lst [])) := ⟨Same.new hD, by rw [upd_same, e]⟩
theorem Grow.put (hD : H1 D = none) (g : Grow H1 D out i H) (s : Same H H') (e : out (i + 1) = out i ++ [y]) (hz : (out i).length < sizeLine) :
    ∃ acc, H' D = some (.lst acc) ∧ acc.length < sizeLine ∧ Grow H1 D out (i + 1) (upd H' D (.lst (acc ++ [y]))) :=
  ⟨out i, s _ _ g.at, hz, fun b o z => by rw [upd_ne (ne_of_none z hD)]; exact s _ _ (g.same _ _ z), by rw [upd_same, e]⟩
theorem Grow.skip (g : Grow H1 D out i H) (s : Same H H') (e : out (i + 1) = out i) : Grow H1 D out (i + 1) H' := ⟨g.same.trans s, by rw [e]; exact s _ _ g.at⟩
end
/-! ### whole numbers from 0 up: bits -/
theorem bitAnd_nat (a b : Nat) : Builtin.bitAnd (a : Int) (b : Int) = ((a &&& b : Nat) : Int) := by
  unfold Builtin.bitAnd
  simp
theorem bitOr_nat (a b : Nat) : Builtin.bitOr (a : Int) (b : Int) = ((a ||| b : Nat) : Int) := by
  rw [Bits.bitOr_pp (Int.natCast_nonneg _) (Int.natCast_nonneg _)]
  simp
theorem shl_nat (p : Nat) : (1 : Int) * 2 ^ ((p : Int)).toNat = ((2 ^ p : Nat) : Int) := by simp
theorem cpow_one {p : Nat} (h : p ≤ 8) : CPow 1 (p : Int) := ⟨by omega, by omega, by decide⟩
end L2
end
section
set_option Elab.async false
set_option linter.all false
set_option maxRecDepth 100000
set_option maxHeartbeats 4000000
/-! The text by places; what stands at its top. Made by tools/mkhead.py. -/
namespace Rs
open PySem PySem.Spec PyProof.Rows L2
def top (i : Nat) : Stmt := PySem.Challenge.pw_roomsharedesk_s01_answers.main.body.getD i (.Pass ⟨0, 0, 0, 0⟩)
abbrev s_keeps_to_pins : Stmt := top 6
theorem sc_keeps_to_pins : FnScope ["filling", "pins", "room", "where"] ["filling", "pins"] (defScope s_keeps_to_pins) := ⟨rfl, rfl, rfl, by decide +kernel, rfl, by decide +kernel, by decide +kernel⟩
abbrev s_is_too_full : Stmt := top 7
theorem sc_is_too_full : FnScope ["filling", "rooms", "room", "beds"] ["filling", "rooms"] (defScope s_is_too_full) := ⟨rfl, rfl, rfl, by decide +kernel, rfl, by decide +kernel, by decide +kernel⟩
abbrev s_count_together : Stmt := top 8
theorem sc_count_together : FnScope ["filling", "pairs", "a", "b"] ["filling", "pairs"] (defScope s_count_together) := ⟨rfl, rfl, rfl, by decide +kernel, rfl, by decide +kernel, by decide +kernel⟩
abbrev s_count_content : Stmt := top 9
theorem sc_count_content : FnScope ["filling", "wishes", "fulfilled", "a", "b", "pupil"] ["filling", "wishes"] (defScope s_count_content) := ⟨rfl, rfl, rfl, by decide +kernel, rfl, by decide +kernel, by decide +kernel⟩
abbrev s_group_sizes : Stmt := top 10
theorem sc_group_sizes : FnScope ["pupils", "sizes", "group"] ["pupils"] (defScope s_group_sizes) := ⟨rfl, rfl, rfl, by decide +kernel, rfl, by decide +kernel, by decide +kernel⟩
abbrev s_group_parts : Stmt := top 11
theorem sc_group_parts : FnScope ["pupils", "parts", "pupil", "group", "without", "part"] ["pupils"] (defScope s_group_parts) := ⟨rfl, rfl, rfl, by decide +kernel, rfl, by decide +kernel, by decide +kernel⟩
abbrev s_paired_with : Stmt := top 12
theorem sc_paired_with : FnScope ["pupils", "pairs", "groups", "a", "b"] ["pupils", "pairs"] (defScope s_paired_with) := ⟨rfl, rfl, rfl, by decide +kernel, rfl, by decide +kernel, by decide +kernel⟩
abbrev s_worth_together : Stmt := top 13
theorem sc_worth_together : FnScope ["group", "wished", "barred", "sizes", "worth", "pupil", "fulfilled"] ["group", "wished", "barred", "sizes"] (defScope s_worth_together) := ⟨rfl, rfl, rfl, by decide +kernel, rfl, by decide +kernel, by decide +kernel⟩
abbrev s_worth_of_order : Stmt := top 14
theorem sc_worth_of_order : FnScope ["group", "pupils", "pupil"] ["group", "pupils"] (defScope s_worth_of_order) := ⟨rfl, rfl, rfl, by decide +kernel, rfl, by decide +kernel, by decide +kernel⟩
abbrev s_pinned_to : Stmt := top 15
theorem sc_pinned_to : FnScope ["pins", "room", "pupil", "where"] ["pins", "room"] (defScope s_pinned_to) := ⟨rfl, rfl, rfl, by decide +kernel, rfl, by decide +kernel, by decide +kernel⟩
abbrev s_worths_in_rooms : Stmt := top 16
theorem sc_worths_in_rooms : FnScope ["rooms", "wishes", "bars", "pins", "pupils", "groups", "sizes", "wished", "barred", "together", "order", "worths", "room", "beds", "here", "behind", "in_room", "group"] ["rooms", "wishes", "bars", "pins"] (defScope s_worths_in_rooms) := ⟨rfl, rfl, rfl, by decide +kernel, rfl, by decide +kernel, by decide +kernel⟩
abbrev s_best_split : Stmt := top 17
theorem sc_best_split : FnScope ["group", "parts", "first", "second", "part"] ["group", "parts", "first", "second"] (defScope s_best_split) := ⟨rfl, rfl, rfl, by decide +kernel, rfl, by decide +kernel, by decide +kernel⟩
abbrev s_best_worth : Stmt := top 18
theorem sc_best_worth : FnScope ["worths", "parts", "best", "in_room", "group"] ["worths", "parts"] (defScope s_best_worth) := ⟨rfl, rfl, rfl, by decide +kernel, rfl, by decide +kernel, by decide +kernel⟩
abbrev s_filling_of_worth : Stmt := top 19
theorem sc_filling_of_worth : FnScope ["worth", "pupils", "behind", "pupil", "rooms"] ["worth", "pupils"] (defScope s_filling_of_worth) := ⟨rfl, rfl, rfl, by decide +kernel, rfl, by decide +kernel, by decide +kernel⟩
abbrev s_best_filling : Stmt := top 20
theorem sc_best_filling : FnScope ["rooms", "wishes", "bars", "pins", "pupils", "worth"] ["rooms", "wishes", "bars", "pins"] (defScope s_best_filling) := ⟨rfl, rfl, rfl, by decide +kernel, rfl, by decide +kernel, by decide +kernel⟩
abbrev s_tell_pair : Stmt := top 35
theorem sc_tell_pair : FnScope ["pairs", "pair", "on", "told"] ["pairs", "pair", "on"] (defScope s_tell_pair) := ⟨rfl, rfl, rfl, by decide +kernel, rfl, by decide +kernel, by decide +kernel⟩
abbrev s_init : Stmt := inClass (top 36) 0
theorem sc_init : FnScope ["self"] ["self"] (defScope s_init) := ⟨rfl, rfl, rfl, by decide +kernel, rfl, by decide +kernel, by decide +kernel⟩
abbrev s_start_anew : Stmt := inClass (top 36) 1
theorem sc_start_anew : FnScope ["self", "pupils"] ["self", "pupils"] (defScope s_start_anew) := ⟨rfl, rfl, rfl, by decide +kernel, rfl, by decide +kernel, by decide +kernel⟩
abbrev s_has_filling : Stmt := inClass (top 36) 2
theorem sc_has_filling : FnScope ["self"] ["self"] (defScope s_has_filling) := ⟨rfl, rfl, rfl, by decide +kernel, rfl, by decide +kernel, by decide +kernel⟩
abbrev s_filling_refusal : Stmt := inClass (top 36) 3
theorem sc_filling_refusal : FnScope ["self", "filling"] ["self", "filling"] (defScope s_filling_refusal) := ⟨rfl, rfl, rfl, by decide +kernel, rfl, by decide +kernel, by decide +kernel⟩
abbrev s_look_anew : Stmt := inClass (top 36) 4
theorem sc_look_anew : FnScope ["self"] ["self"] (defScope s_look_anew) := ⟨rfl, rfl, rfl, by decide +kernel, rfl, by decide +kernel, by decide +kernel⟩
abbrev s_begin : Stmt := inClass (top 36) 5
theorem sc_begin : FnScope ["self", "pupils"] ["self", "pupils"] (defScope s_begin) := ⟨rfl, rfl, rfl, by decide +kernel, rfl, by decide +kernel, by decide +kernel⟩
abbrev s_room : Stmt := inClass (top 36) 6
theorem sc_room : FnScope ["self", "beds"] ["self", "beds"] (defScope s_room) := ⟨rfl, rfl, rfl, by decide +kernel, rfl, by decide +kernel, by decide +kernel⟩
abbrev s_beds : Stmt := inClass (top 36) 7
theorem sc_beds : FnScope ["self", "room", "beds"] ["self", "room", "beds"] (defScope s_beds) := ⟨rfl, rfl, rfl, by decide +kernel, rfl, by decide +kernel, by decide +kernel⟩
abbrev s_pair_refusal : Stmt := inClass (top 36) 8
theorem sc_pair_refusal : FnScope ["self", "a", "b", "on"] ["self", "a", "b", "on"] (defScope s_pair_refusal) := ⟨rfl, rfl, rfl, by decide +kernel, rfl, by decide +kernel, by decide +kernel⟩
abbrev s_wish : Stmt := inClass (top 36) 9
theorem sc_wish : FnScope ["self", "a", "b", "on", "refusal"] ["self", "a", "b", "on"] (defScope s_wish) := ⟨rfl, rfl, rfl, by decide +kernel, rfl, by decide +kernel, by decide +kernel⟩
abbrev s_bar : Stmt := inClass (top 36) 10
theorem sc_bar : FnScope ["self", "a", "b", "on", "refusal"] ["self", "a", "b", "on"] (defScope s_bar) := ⟨rfl, rfl, rfl, by decide +kernel, rfl, by decide +kernel, by decide +kernel⟩
abbrev s_pin : Stmt := inClass (top 36) 11
theorem sc_pin : FnScope ["self", "a", "where"] ["self", "a", "where"] (defScope s_pin) := ⟨rfl, rfl, rfl, by decide +kernel, rfl, by decide +kernel, by decide +kernel⟩
abbrev s_fill : Stmt := inClass (top 36) 12
theorem sc_fill : FnScope ["self", "best"] ["self"] (defScope s_fill) := ⟨rfl, rfl, rfl, by decide +kernel, rfl, by decide +kernel, by decide +kernel⟩
abbrev s_change_filling : Stmt := inClass (top 36) 13
theorem sc_change_filling : FnScope ["self", "filling", "refusal"] ["self", "filling"] (defScope s_change_filling) := ⟨rfl, rfl, rfl, by decide +kernel, rfl, by decide +kernel, by decide +kernel⟩
abbrev s_move : Stmt := inClass (top 36) 14
theorem sc_move : FnScope ["self", "a", "room", "changed"] ["self", "a", "room"] (defScope s_move) := ⟨rfl, rfl, rfl, by decide +kernel, rfl, by decide +kernel, by decide +kernel⟩
abbrev s_swap : Stmt := inClass (top 36) 15
theorem sc_swap : FnScope ["self", "a", "b", "changed"] ["self", "a", "b"] (defScope s_swap) := ⟨rfl, rfl, rfl, by decide +kernel, rfl, by decide +kernel, by decide +kernel⟩
abbrev s_who : Stmt := inClass (top 36) 16
theorem sc_who : FnScope ["self", "room", "inside", "pupil"] ["self", "room"] (defScope s_who) := ⟨rfl, rfl, rfl, by decide +kernel, rfl, by decide +kernel, by decide +kernel⟩
abbrev s_weigh : Stmt := inClass (top 36) 17
theorem sc_weigh : FnScope ["self"] ["self"] (defScope s_weigh) := ⟨rfl, rfl, rfl, by decide +kernel, rfl, by decide +kernel, by decide +kernel⟩
abbrev s_state : Stmt := inClass (top 36) 18
theorem sc_state : FnScope ["self"] ["self"] (defScope s_state) := ⟨rfl, rfl, rfl, by decide +kernel, rfl, by decide +kernel, by decide +kernel⟩
abbrev s_answer : Stmt := top 50
theorem sc_answer : FnScope ["journey", "call", "told"] ["journey", "call", "told"] (defScope s_answer) := ⟨rfl, rfl, rfl, by decide +kernel, rfl, by decide +kernel, by decide +kernel⟩
abbrev s_answers : Stmt := top 51
theorem sc_answers : FnScope ["calls", "journey", "given", "at", "call", "behind", "numbers"] ["calls"] (defScope s_answers) := ⟨rfl, rfl, rfl, by decide +kernel, rfl, by decide +kernel, by decide +kernel⟩
/-- a method as it stands behind the top -/
def MFun (K : PySem.W.Frag) (C : Addr) (m qual : Str) (st : Stmt) (ps : List Str) : Prop := ∃ f fd, Fun K m qual st f fd ∧ Binds K fd ps [] ∧ Meth K C m f
/-- a def of the top -/
def TFun (K : PySem.W.Frag) (mg : Str → Option Value) (x : Str) (st : Stmt) (ps : List Str) : Prop := ∃ f fd, Fun K x x st f fd ∧ Binds K fd ps [] ∧ mg x = some (.ref f)
/-- what the walk asks of the text as the top has made it -/
structure Txt (K : PySem.W.Frag) (mg : Str → Option Value) (C : Addr) : Prop where
  cl : Cls K C
  n_pupils : NoAttr K C "pupils"
  n_rooms : NoAttr K C "rooms"
  n_wishes : NoAttr K C "wishes"
  n_bars : NoAttr K C "bars"
  n_pins : NoAttr K C "pins"
  n_filling : NoAttr K C "filling"
  mgC : mg "Journey" = some (.ref C)
  c_MOST_ROOMS : ∃ t, mg "MOST_ROOMS" = some (.int 4 t)
  c_ONE_CONTENT : ∃ t, mg "ONE_CONTENT" = some (.int 4194304 t)
  c_ONE_FULFILLED : ∃ t, mg "ONE_FULFILLED" = some (.int 65536 t)
  c_MAY_NOT_BE : ∃ t, mg "MAY_NOT_BE" = some (.int (-1099511627776) t)
  c_BAR_BROKEN : ∃ t, mg "BAR_BROKEN" = some (.int (-1) t)
  c_NOT_THERE : ∃ t, mg "NOT_THERE" = some (.int (-2) t)
  c_NO_PLACE_LEFT : ∃ t, mg "NO_PLACE_LEFT" = some (.int (-12) t)
  c_PINNED_ELSEWHERE : ∃ t, mg "PINNED_ELSEWHERE" = some (.int (-13) t)
  c_NOTHING_TO_CHANGE : ∃ t, mg "NOTHING_TO_CHANGE" = some (.int (-17) t)
  c_OUT_OF_RANGE : ∃ t, mg "OUT_OF_RANGE" = some (.int (-22) t)
  c_TOO_FULL : ∃ t, mg "TOO_FULL" = some (.int (-28) t)
  c_NO_WAY_TO_FILL : ∃ t, mg "NO_WAY_TO_FILL" = some (.int (-33) t)
  c_NO_PLAN : ∃ t, mg "NO_PLAN" = some (.int (-61) t)
  c_NO_FILLING : ∃ t, mg "NO_FILLING" = some (.int (-61) t)
  c_MOST_PUPILS : ∃ t, mg "MOST_PUPILS" = some (.int 8 t)
  c_MOST_BEDS : ∃ t, mg "MOST_BEDS" = some (.int 8 t)
  c_MOST_PAIRS : ∃ t, mg "MOST_PAIRS" = some (.int 32 t)
  c_BEGIN : ∃ t, mg "BEGIN" = some (.int 0 t)
  c_ROOM : ∃ t, mg "ROOM" = some (.int 1 t)
  c_BEDS : ∃ t, mg "BEDS" = some (.int 2 t)
  c_WISH : ∃ t, mg "WISH" = some (.int 3 t)
  c_BAR : ∃ t, mg "BAR" = some (.int 4 t)
  c_PIN : ∃ t, mg "PIN" = some (.int 5 t)
  c_FILL : ∃ t, mg "FILL" = some (.int 6 t)
  c_MOVE : ∃ t, mg "MOVE" = some (.int 7 t)
  c_SWAP : ∃ t, mg "SWAP" = some (.int 8 t)
  c_WHO : ∃ t, mg "WHO" = some (.int 9 t)
  c_WEIGH : ∃ t, mg "WEIGH" = some (.int 10 t)
  t_ONE_ROOM_BEHIND : ∃ a, mg "ONE_ROOM_BEHIND" = some (.ref a) ∧ ∀ H : Hp, SqT K H a [V.int 16384, V.int 4096, V.int 1024, V.int 256, V.int 64, V.int 16, V.int 4, V.int 1]
  t_NUMBERS_BEHIND : ∃ a, mg "NUMBERS_BEHIND" = some (.ref a) ∧ ∀ H : Hp, SqT K H a [V.int 1, V.int 1, V.int 2, V.int 3, V.int 3, V.int 2, V.int 0, V.int 2, V.int 2, V.int 1, V.int 0, V.int 0]
  all : mg "all" = none
  any : mg "any" = none
  enumerate : mg "enumerate" = none
  len : mg "len" = none
  list : mg "list" = none
  max : mg "max" = none
  min : mg "min" = none
  range : mg "range" = none
  sum : mg "sum" = none
  zip : mg "zip" = none
structure Funs (K : PySem.W.Frag) (mg : Str → Option Value) (C : Addr) : Prop where
  keeps_to_pins : TFun K mg "keeps_to_pins" s_keeps_to_pins ["filling", "pins"]
  is_too_full : TFun K mg "is_too_full" s_is_too_full ["filling", "rooms"]
  count_together : TFun K mg "count_together" s_count_together ["filling", "pairs"]
  count_content : TFun K mg "count_content" s_count_content ["filling", "wishes"]
  group_sizes : TFun K mg "group_sizes" s_group_sizes ["pupils"]
  group_parts : TFun K mg "group_parts" s_group_parts ["pupils"]
  paired_with : TFun K mg "paired_with" s_paired_with ["pupils", "pairs"]
  worth_together : TFun K mg "worth_together" s_worth_together ["group", "wished", "barred", "sizes"]
  worth_of_order : TFun K mg "worth_of_order" s_worth_of_order ["group", "pupils"]
  pinned_to : TFun K mg "pinned_to" s_pinned_to ["pins", "room"]
  worths_in_rooms : TFun K mg "worths_in_rooms" s_worths_in_rooms ["rooms", "wishes", "bars", "pins"]
  best_split : TFun K mg "best_split" s_best_split ["group", "parts", "first", "second"]
  best_worth : TFun K mg "best_worth" s_best_worth ["worths", "parts"]
  filling_of_worth : TFun K mg "filling_of_worth" s_filling_of_worth ["worth", "pupils"]
  best_filling : TFun K mg "best_filling" s_best_filling ["rooms", "wishes", "bars", "pins"]
  tell_pair : TFun K mg "tell_pair" s_tell_pair ["pairs", "pair", "on"]
  init : ∃ f fd, Fun K "__init__" "Journey.__init__" s_init f fd ∧ Binds K fd ["self"] [] ∧ Mk K C f
  start_anew : MFun K C "start_anew" "Journey.start_anew" s_start_anew ["self", "pupils"]
  has_filling : MFun K C "has_filling" "Journey.has_filling" s_has_filling ["self"]
  filling_refusal : MFun K C "filling_refusal" "Journey.filling_refusal" s_filling_refusal ["self", "filling"]
  look_anew : MFun K C "look_anew" "Journey.look_anew" s_look_anew ["self"]
  begin : MFun K C "begin" "Journey.begin" s_begin ["self", "pupils"]
  room : MFun K C "room" "Journey.room" s_room ["self", "beds"]
  beds : MFun K C "beds" "Journey.beds" s_beds ["self", "room", "beds"]
  pair_refusal : MFun K C "pair_refusal" "Journey.pair_refusal" s_pair_refusal ["self", "a", "b", "on"]
  wish : MFun K C "wish" "Journey.wish" s_wish ["self", "a", "b", "on"]
  bar : MFun K C "bar" "Journey.bar" s_bar ["self", "a", "b", "on"]
  pin : MFun K C "pin" "Journey.pin" s_pin ["self", "a", "where"]
  fill : MFun K C "fill" "Journey.fill" s_fill ["self"]
  change_filling : MFun K C "change_filling" "Journey.change_filling" s_change_filling ["self", "filling"]
  move : MFun K C "move" "Journey.move" s_move ["self", "a", "room"]
  swap : MFun K C "swap" "Journey.swap" s_swap ["self", "a", "b"]
  who : MFun K C "who" "Journey.who" s_who ["self", "room"]
  weigh : MFun K C "weigh" "Journey.weigh" s_weigh ["self"]
  state : MFun K C "state" "Journey.state" s_state ["self"]
  answer : TFun K mg "answer" s_answer ["journey", "call", "told"]
end Rs
end
section
set_option Elab.async false
set_option linter.all false
set_option maxRecDepth 100000
set_option maxHeartbeats 4000000
set_option linter.all false
/-! Plain facts of the specification's state: what always holds of it, whatever is called. -/
namespace Rs
open Ks306 (Abs Call act looked keepsPins put has pairOk)
open Ks304 (Plan)

/-! ### pairs told and taken back -/
theorem has_iff {q : Nat × Nat} {l : List (Nat × Nat)} : has q l = true ↔ q ∈ l := by
  unfold has
  rw [List.any_eq_true]
  constructor
  · rintro ⟨x, hx, e⟩
    rw [Bool.and_eq_true, beq_iff_eq, beq_iff_eq] at e
    have : x = q := Prod.ext e.1 e.2
    exact this ▸ hx
  · intro h
    exact ⟨q, h, by simp⟩
theorem has_false {q : Nat × Nat} {l : List (Nat × Nat)} : has q l = false ↔ ¬ q ∈ l := by
  rw [← has_iff]
  cases has q l <;> simp
theorem put_one (q : Nat × Nat) (l : List (Nat × Nat)) : put 1 q l = l ++ [q] := rfl
theorem put_zero (q : Nat × Nat) (l : List (Nat × Nat)) : put 0 q l = l.filter fun x => decide (x ≠ q) := by
  show (l.filter fun x => !(x.1 == q.1 && x.2 == q.2)) = _
  congr 1
  funext x
  by_cases h : x = q
  · subst h; simp
  · have : ¬ (x.1 = q.1 ∧ x.2 = q.2) := fun e => h (Prod.ext e.1 e.2)
    simp only [ne_eq, h, not_false_eq_true, decide_true]
    cases h1 : (x.1 == q.1) <;> cases h2 : (x.2 == q.2) <;> simp_all
theorem put_mem {on : Nat} {q x : Nat × Nat} {l : List (Nat × Nat)} (h : x ∈ put on q l) : x ∈ l ∨ x = q := by
  unfold put at h
  split at h
  · exact .inl (List.mem_filter.mp h).1
  · rcases List.mem_append.mp h with h | h
    · exact .inl h
    · exact .inr (List.mem_singleton.mp h)
theorem put_nodup {on : Nat} {q : Nat × Nat} {l : List (Nat × Nat)} (hn : l.Nodup) (ho : on ≤ 1) (h : ¬ has q l = (on == 1)) : (put on q l).Nodup := by
  unfold put
  split
  · exact hn.filter _
  · have e1 : on = 1 := by omega
    subst e1
    have : ¬ q ∈ l := fun m => h (by rw [has_iff.mpr m]; rfl)
    rw [List.nodup_append]
    refine ⟨hn, by simp, ?_⟩
    intro a ha b hb e
    rw [List.mem_singleton] at hb
    subst hb
    exact this (e ▸ ha)
theorem put_length {on : Nat} {q : Nat × Nat} {l : List (Nat × Nat)} (hl : l.length ≤ 32) (ho : on ≤ 1) (h : ¬ (on = 1 ∧ Ks304.PAIRS ≤ l.length)) : (put on q l).length ≤ 32 := by
  unfold put
  split
  · exact Nat.le_trans (List.length_filter_le _ _) hl
  · rw [List.length_append]
    have e1 : on = 1 := by omega
    have : ¬ Ks304.PAIRS ≤ l.length := fun z => h ⟨e1, z⟩
    unfold Ks304.PAIRS at this
    simp
    omega

/-! ### what always holds -/
structure Wf (a : Abs) : Prop where
  pup : a.plan.pupils ≤ 8
  pin : a.pins.length = a.plan.pupils
  pinr : ∀ x ∈ a.pins, x ≤ a.plan.beds.length
  rooms : a.plan.beds.length ≤ 4
  bed : ∀ b ∈ a.plan.beds, b ≤ 8
  wl : a.plan.wishes.length ≤ 32
  bl : a.plan.bars.length ≤ 32
  wn : a.plan.wishes.Nodup
  bn : a.plan.bars.Nodup
  wr : ∀ q ∈ a.plan.wishes, q.1 < a.plan.pupils ∧ q.2 < a.plan.pupils ∧ q.1 ≠ q.2
  br : ∀ q ∈ a.plan.bars, q.1 < q.2 ∧ q.2 < a.plan.pupils
  off : a.plan.pupils = 0 → a.plan.beds = [] ∧ a.filling = none
  fil : ∀ f, a.filling = some f → Ks304.may a.plan f = true ∧ keepsPins a.pins f = true

theorem looked_plan (a : Abs) : (looked a).plan = a.plan := by
  unfold looked
  split
  · rfl
  · split <;> rfl
theorem looked_pins (a : Abs) : (looked a).pins = a.pins := by
  unfold looked
  split
  · rfl
  · split <;> rfl
theorem looked_none {a : Abs} (h : a.filling = none) : looked a = a := by
  unfold looked
  rw [h]
theorem looked_some {a : Abs} {f : List Nat} (h : a.filling = some f) : looked a = if Ks304.may a.plan f && keepsPins a.pins f then a else { a with filling := none } := by
  unfold looked
  rw [h]
theorem looked_fil {a : Abs} {f : List Nat} (h : (looked a).filling = some f) : Ks304.may a.plan f = true ∧ keepsPins a.pins f = true := by
  cases e : a.filling with
  | none => rw [looked_none e, e] at h; cases h
  | some g =>
    rw [looked_some e] at h
    split at h
    · rename_i c
      rw [e] at h
      cases h
      rw [Bool.and_eq_true] at c
      exact c
    · cases h
theorem looked_off {a : Abs} (h : a.filling = none) : (looked a).filling = none := by rw [looked_none h, h]

/-- a state that is as it should be but for its filling, looked at anew -/
theorem wf_looked {a : Abs} (pup : a.plan.pupils ≤ 8) (pin : a.pins.length = a.plan.pupils) (pinr : ∀ x ∈ a.pins, x ≤ a.plan.beds.length) (rooms : a.plan.beds.length ≤ 4) (bed : ∀ b ∈ a.plan.beds, b ≤ 8)
    (wl : a.plan.wishes.length ≤ 32) (bl : a.plan.bars.length ≤ 32) (wn : a.plan.wishes.Nodup) (bn : a.plan.bars.Nodup) (wr : ∀ q ∈ a.plan.wishes, q.1 < a.plan.pupils ∧ q.2 < a.plan.pupils ∧ q.1 ≠ q.2)
    (br : ∀ q ∈ a.plan.bars, q.1 < q.2 ∧ q.2 < a.plan.pupils) (off : a.plan.pupils = 0 → a.plan.beds = [] ∧ a.filling = none) : Wf (looked a) := by
  constructor
  all_goals (try rw [looked_plan])
  all_goals (try rw [looked_pins])
  all_goals (try assumption)
  · exact fun h => ⟨(off h).1, looked_off (off h).2⟩
  · exact fun f h => looked_fil h

/-! ### rooms of a filling -/
theorem may_iff {p : Plan} {f : List Nat} : Ks304.may p f = true ↔ f.length = p.pupils ∧ (∀ r ∈ f, r < p.beds.length) ∧ (∀ r, r < p.beds.length → Ks304.inRoom f r ≤ p.beds.getD r 0) ∧ (∀ q ∈ p.bars, Ks304.together f q = false) := by
  unfold Ks304.may Ks304.okFilling Ks304.tooFull Ks304.broken
  simp only [Bool.and_eq_true, beq_iff_eq, List.all_eq_true, decide_eq_true_eq, Option.isNone_iff_eq_none, List.find?_eq_none, List.mem_range, Nat.not_lt]
  constructor
  · rintro ⟨⟨⟨h1, h2⟩, h3⟩, h4⟩
    refine ⟨h1, h2, h3, fun q hq => ?_⟩
    have h5 : ¬ List.findIdx (fun q => Ks304.together f q) p.bars < p.bars.length := fun z => by rw [if_pos z] at h4; cases h4
    have h6 := List.findIdx_eq_length.mp (Nat.le_antisymm List.findIdx_le_length (Nat.not_lt.mp h5)) q hq
    exact h6
  · rintro ⟨h1, h2, h3, h4⟩
    refine ⟨⟨⟨h1, h2⟩, h3⟩, ?_⟩
    have h5 : List.findIdx (fun q => Ks304.together f q) p.bars = p.bars.length := List.findIdx_eq_length.mpr h4
    rw [if_neg (by omega)]
theorem tooFull_some {p : Plan} {f : List Nat} : (Ks304.tooFull p f).isSome = true ↔ ∃ r, r < p.beds.length ∧ p.beds.getD r 0 < Ks304.inRoom f r := by
  unfold Ks304.tooFull
  rw [List.find?_isSome]
  simp
theorem broken_some {p : Plan} {f : List Nat} : (Ks304.broken p f).isSome = true ↔ ∃ q ∈ p.bars, Ks304.together f q = true := by
  unfold Ks304.broken
  constructor
  · intro h
    by_cases z : List.findIdx (fun q => Ks304.together f q) p.bars < p.bars.length
    · exact ⟨_, List.getElem_mem z, List.findIdx_getElem (w := z)⟩
    · simp only [if_neg z] at h; cases h
  · rintro ⟨q, hq, e⟩
    have z := List.findIdx_lt_length_of_exists (p := fun q => Ks304.together f q) ⟨q, hq, e⟩
    simp only [if_pos z]
    rfl
theorem inRoom_none {f : List Nat} {r : Nat} (h : ∀ x ∈ f, x ≠ r) : Ks304.inRoom f r = 0 := by
  unfold Ks304.inRoom
  rw [List.length_eq_zero_iff, List.filter_eq_nil_iff]
  intro x hx
  simp [h x hx]

theorem wf_room {a : Abs} (w : Wf a) {b : Nat} (ho : ¬ a.plan.pupils = 0) (hb : b ≤ 8) (hr : a.plan.beds.length < 4) : Wf { a with plan := { a.plan with beds := a.plan.beds ++ [b] } } where
  pup := w.pup
  pin := w.pin
  pinr := fun x hx => by
    have := w.pinr x hx
    show x ≤ (a.plan.beds ++ [b]).length
    rw [List.length_append]; omega
  rooms := by
    show (a.plan.beds ++ [b]).length ≤ 4
    rw [List.length_append]; simp; omega
  bed := fun x hx => by
    rcases List.mem_append.mp (show x ∈ a.plan.beds ++ [b] from hx) with h | h
    · exact w.bed x h
    · rw [List.mem_singleton] at h; omega
  wl := w.wl
  bl := w.bl
  wn := w.wn
  bn := w.bn
  wr := w.wr
  br := w.br
  off := fun z => absurd z ho
  fil := fun f hf => by
    obtain ⟨h1, h2⟩ := w.fil f hf
    refine ⟨?_, h2⟩
    rw [may_iff] at h1 ⊢
    obtain ⟨q1, q2, q3, q4⟩ := h1
    refine ⟨q1, fun r hr => ?_, fun r hr => ?_, q4⟩
    · have := q2 r hr
      show r < (a.plan.beds ++ [b]).length
      rw [List.length_append]; omega
    · have hr' : r < (a.plan.beds ++ [b]).length := hr
      show Ks304.inRoom f r ≤ (a.plan.beds ++ [b]).getD r 0
      rw [List.length_append] at hr'
      simp only [List.length_singleton] at hr'
      by_cases z : r < a.plan.beds.length
      · have := q3 r z
        rw [List.getD_eq_getElem?_getD, List.getElem?_append_left z, ← List.getD_eq_getElem?_getD]
        exact this
      · rw [inRoom_none (fun x hx e => by have := q2 x hx; omega)]
        exact Nat.zero_le _

theorem keeps_iff {pins f : List Nat} (hl : f.length = pins.length) : keepsPins pins f = true ↔ ∀ i, i < pins.length → pins.getD i 0 = 0 ∨ pins.getD i 0 = f.getD i 0 + 1 := by
  unfold keepsPins
  rw [List.all_eq_true]
  constructor
  · intro h i hi
    have hm : (pins[i], f[i]'(by omega)) ∈ pins.zip f := by
      have : (pins.zip f)[i]'(by rw [List.length_zip]; omega) = (pins[i], f[i]'(by omega)) := List.getElem_zip
      rw [← this]
      exact List.getElem_mem _
    have := h _ hm
    rw [Bool.or_eq_true, beq_iff_eq, beq_iff_eq] at this
    rw [List.getD_eq_getElem?_getD, List.getElem?_eq_getElem hi, List.getD_eq_getElem?_getD, List.getElem?_eq_getElem (by omega : i < f.length)]
    exact this
  · intro h x hx
    obtain ⟨i, hi, e⟩ := List.getElem_of_mem hx
    rw [List.length_zip] at hi
    have := h i (by omega)
    rw [List.getElem_zip] at e
    rw [List.getD_eq_getElem?_getD, List.getElem?_eq_getElem (by omega : i < pins.length), List.getD_eq_getElem?_getD, List.getElem?_eq_getElem (by omega : i < f.length)] at this
    rw [← e, Bool.or_eq_true, beq_iff_eq, beq_iff_eq]
    exact this

/-! ### two change rooms: as many in each -/
theorem inRoom_eq_sum (f : List Nat) (r : Nat) : Ks304.inRoom f r = f.countP (· == r) := by
  unfold Ks304.inRoom
  rw [List.countP_eq_length_filter]
theorem countP_set {p : Nat → Bool} : ∀ {f : List Nat} {i v : Nat}, i < f.length → (f.set i v).countP p + (if p (f.getD i 0) then 1 else 0) = f.countP p + (if p v then 1 else 0)
  | [], i, v, h => absurd h (by simp)
  | x :: f, 0, v, h => by
    rw [List.set_cons_zero, List.countP_cons, List.countP_cons, List.getD_cons_zero]
    omega
  | x :: f, i + 1, v, h => by
    have ih := countP_set (p := p) (f := f) (i := i) (v := v) (by simpa using h)
    rw [List.set_cons_succ, List.countP_cons, List.countP_cons, List.getD_cons_succ]
    omega
theorem getD_set {f : List Nat} {i j v : Nat} (hj : j < f.length) : (f.set i v).getD j 0 = if i = j then v else f.getD j 0 := by
  rw [List.getD_eq_getElem?_getD, List.getD_eq_getElem?_getD, List.getElem?_set]
  split
  · rename_i h; subst h; rw [if_pos hj]; rfl
  · rfl
theorem inRoom_swap {f : List Nat} {i j : Nat} (hi : i < f.length) (hj : j < f.length) (r : Nat) : Ks304.inRoom ((f.set i (f.getD j 0)).set j (f.getD i 0)) r = Ks304.inRoom f r := by
  rw [inRoom_eq_sum, inRoom_eq_sum]
  have h1 := countP_set (p := (· == r)) (f := f) (i := i) (v := f.getD j 0) hi
  have h2 := countP_set (p := (· == r)) (f := f.set i (f.getD j 0)) (i := j) (v := f.getD i 0) (by rw [List.length_set]; exact hj)
  rw [getD_set hj] at h2
  by_cases e : i = j
  · subst e; rw [if_pos rfl] at h2; omega
  · rw [if_neg e] at h2; omega
theorem mem_swap {f : List Nat} {i j x : Nat} (hi : i < f.length) (hj : j < f.length) (h : x ∈ (f.set i (f.getD j 0)).set j (f.getD i 0)) : x ∈ f := by
  have gm : ∀ k, k < f.length → f.getD k 0 ∈ f := fun k hk => by
    rw [List.getD_eq_getElem?_getD, List.getElem?_eq_getElem hk]; exact List.getElem_mem hk
  rcases List.mem_or_eq_of_mem_set h with h | h
  · rcases List.mem_or_eq_of_mem_set h with h | h
    · exact h
    · rw [h]; exact gm j hj
  · rw [h]; exact gm i hi

/-! ### the best filling keeps what a filling keeps to -/
theorem all_length : ∀ {n : Nat} {pins : List Nat} {f : List Nat}, f ∈ Ks305.all n pins → f.length = pins.length
  | n, [], f, h => by
    have : f = [] := List.mem_singleton.mp h
    rw [this]
  | n, x :: l, f, h => by
    obtain ⟨k, _, hk⟩ := List.mem_flatMap.mp (show f ∈ (if x = 0 then List.range n else [x - 1]).flatMap fun k => (Ks305.all n l).map fun f => k :: f from h)
    obtain ⟨g, hg, rfl⟩ := List.mem_map.mp hk
    rw [List.length_cons, List.length_cons, all_length hg]
theorem all_keeps : ∀ {n : Nat} {pins : List Nat} {f : List Nat}, f ∈ Ks305.all n pins → keepsPins pins f = true
  | n, [], f, h => by
    have : f = [] := List.mem_singleton.mp h
    rw [this]; rfl
  | n, x :: l, f, h => by
    obtain ⟨k, hk0, hk⟩ := List.mem_flatMap.mp (show f ∈ (if x = 0 then List.range n else [x - 1]).flatMap fun k => (Ks305.all n l).map fun f => k :: f from h)
    obtain ⟨g, hg, rfl⟩ := List.mem_map.mp hk
    have ih : ((l.zip g).all fun x => x.1 == 0 || x.1 == x.2 + 1) = true := all_keeps hg
    show (((x :: l).zip (k :: g)).all fun x => x.1 == 0 || x.1 == x.2 + 1) = true
    rw [List.zip_cons_cons, List.all_cons, ih, Bool.and_true]
    split at hk0
    · rename_i z; subst z; rfl
    · rename_i z
      have : k = x - 1 := List.mem_singleton.mp hk0
      subst this
      rw [Bool.or_eq_true, beq_iff_eq, beq_iff_eq]
      right
      show x = x - 1 + 1
      exact (Nat.sub_add_cancel (Nat.pos_of_ne_zero z)).symm
/-- one more is looked at -/
def pick1 (p : Plan) (b : Option (List Nat)) (f : List Nat) : Option (List Nat) := match b with
  | none => some f
  | some g => if Ks305.better p f g then some f else b
theorem pick_mem {p : Plan} : ∀ (l : List (List Nat)) (b : Option (List Nat)) {f : List Nat}, l.foldl (pick1 p) b = some f → f ∈ l ∨ b = some f
  | [], b, f, h => .inr h
  | x :: l, b, f, h => by
    rw [List.foldl_cons] at h
    rcases pick_mem l _ h with h | h
    · exact .inl (List.mem_cons_of_mem _ h)
    · cases b with
      | none =>
        have e : x = f := Option.some.inj h
        exact .inl (e ▸ List.mem_cons_self)
      | some g =>
        unfold pick1 at h
        by_cases z : Ks305.better p x g = true
        · simp only [z, if_true] at h
          have e : x = f := Option.some.inj h
          exact .inl (e ▸ List.mem_cons_self)
        · simp only [z] at h
          exact .inr h
theorem best_mem {p : Plan} {pins f : List Nat} (h : Ks305.best p pins = some f) : Ks304.may p f = true ∧ keepsPins pins f = true := by
  rcases pick_mem _ none (show (Ks305.allowed p pins).foldl (pick1 p) none = some f from h) with h | h
  · obtain ⟨h1, h2⟩ := List.mem_filter.mp (show f ∈ (Ks305.all p.beds.length pins).filter (Ks304.may p) from h)
    exact ⟨h2, all_keeps h1⟩
  · cases h

/-- **It always holds.** -/
theorem wf_act {a : Abs} (w : Wf a) (c : Call) : Wf (act a c).1 := by
  cases c with
  | begin n =>
    by_cases h : n = 0 ∨ Ks304.PUPILS < n
    · simp only [act, if_pos h]; exact w
    · simp only [act, if_neg h]
      have h8 : n ≤ 8 := by unfold Ks304.PUPILS at h; omega
      exact ⟨h8, by simp, fun x hx => by rw [List.eq_of_mem_replicate hx]; exact Nat.zero_le _, Nat.zero_le _, fun x h => (nomatch h), Nat.zero_le _, Nat.zero_le _, List.nodup_nil, List.nodup_nil, fun x h => (nomatch h), fun x h => (nomatch h), fun z => absurd (show n = 0 from z) (by omega), fun f h => (nomatch h)⟩
  | room b =>
    simp only [act]
    split
    · exact w
    · split
      · exact w
      · split
        · exact w
        · rename_i h1 h2 h3
          refine wf_room w (fun z => h1 ?_) (by unfold Ks304.PUPILS at h2; omega) (by unfold Ks304.ROOMS at h3; omega)
          unfold Abs.on; rw [z]; rfl
  | beds r b =>
    simp only [act]
    split
    · exact w
    · split
      · exact w
      · rename_i h1 h2
        have hb : b ≤ 8 := by unfold Ks304.PUPILS at h2; omega
        refine wf_looked w.pup w.pin (fun x hx => ?_) ?_ (fun x hx => ?_) w.wl w.bl w.wn w.bn w.wr w.br (fun z => ?_)
        · show x ≤ (a.plan.beds.set r b).length
          rw [List.length_set]; exact w.pinr x hx
        · show (a.plan.beds.set r b).length ≤ 4
          rw [List.length_set]; exact w.rooms
        · rcases List.mem_or_eq_of_mem_set (show x ∈ a.plan.beds.set r b from hx) with h | h
          · exact w.bed x h
          · omega
        · exfalso
          have := (w.off z).1
          rw [this] at h1
          simp at h1
  | wish i j on =>
    simp only [act]
    split
    · exact w
    · split
      · exact w
      · split
        · exact w
        · split
          · exact w
          · rename_i h1 h2 h3 h4
            have hp : pairOk a i j on = true := by cases z : pairOk a i j on; exact absurd z h2; rfl
            unfold pairOk at hp
            simp only [Bool.and_eq_true, decide_eq_true_eq, bne_iff_ne] at hp
            obtain ⟨⟨⟨p1, p2⟩, p3⟩, p4⟩ := hp
            exact ⟨w.pup, w.pin, w.pinr, w.rooms, w.bed, put_length w.wl p4 h4, w.bl, put_nodup w.wn p4 h3, w.bn, fun q hq => by
              rcases put_mem hq with h | h
              · exact w.wr q h
              · subst h; exact ⟨p1, p2, p3⟩, w.br, w.off, w.fil⟩
  | bar i j on =>
    simp only [act]
    split
    · exact w
    · split
      · exact w
      · split
        · exact w
        · split
          · exact w
          · rename_i h1 h2 h3 h4
            have hp : pairOk a i j on = true := by cases z : pairOk a i j on; exact absurd z h2; rfl
            unfold pairOk at hp
            simp only [Bool.and_eq_true, decide_eq_true_eq, bne_iff_ne] at hp
            obtain ⟨⟨⟨p1, p2⟩, p3⟩, p4⟩ := hp
            refine wf_looked w.pup w.pin w.pinr w.rooms w.bed w.wl (put_length w.bl p4 h4) w.wn (put_nodup w.bn p4 h3) w.wr (fun q hq => ?_) w.off
            rcases put_mem hq with h | h
            · exact w.br q h
            · subst h; show min i j < max i j ∧ max i j < a.plan.pupils; omega
  | pin i x =>
    simp only [act]
    split
    · exact w
    · rename_i h1
      refine wf_looked w.pup (by show (a.pins.set i x).length = _; rw [List.length_set]; exact w.pin) (fun y hy => ?_) w.rooms w.bed w.wl w.bl w.wn w.bn w.wr w.br w.off
      rcases List.mem_or_eq_of_mem_set (show y ∈ a.pins.set i x from hy) with h | h
      · exact w.pinr y h
      · show y ≤ a.plan.beds.length; omega
  | fill =>
    simp only [act]
    split
    · exact w
    · rename_i h1
      split
      · exact w
      · rename_i f hf
        have ho : ¬ a.plan.pupils = 0 := fun z => h1 (by unfold Abs.on; rw [z]; rfl)
        exact ⟨w.pup, w.pin, w.pinr, w.rooms, w.bed, w.wl, w.bl, w.wn, w.bn, w.wr, w.br, fun z => absurd z ho, fun g hg => by cases hg; exact best_mem hf⟩
  | move i r =>
    simp only [act]
    split
    · exact w
    · rename_i f hf
      split
      · exact w
      · split
        · exact w
        · split
          · exact w
          · split
            · exact w
            · rename_i h1 h2 h3 h4
              have ho : ¬ a.plan.pupils = 0 := fun z => by rw [(w.off z).2] at hf; cases hf
              refine ⟨w.pup, w.pin, w.pinr, w.rooms, w.bed, w.wl, w.bl, w.wn, w.bn, w.wr, w.br, fun z => absurd z ho, fun g hg => ?_⟩
              cases hg
              obtain ⟨m1, m2⟩ := w.fil f hf
              rw [may_iff] at m1
              refine ⟨?_, by cases z : keepsPins a.pins (f.set i r); exact absurd z h2; rfl⟩
              rw [may_iff]
              refine ⟨by rw [List.length_set]; exact m1.1, fun x hx => ?_, fun x hx => ?_, fun q hq => ?_⟩
              · rcases List.mem_or_eq_of_mem_set hx with h | h
                · exact m1.2.1 x h
                · show x < a.plan.beds.length
                  omega
              · exact Nat.not_lt.mp fun z => h3 (tooFull_some.mpr ⟨x, hx, z⟩)
              · cases z : Ks304.together (f.set i r) q
                · rfl
                · exact absurd (broken_some.mpr ⟨q, hq, z⟩) h4
  | swap i j =>
    simp only [act]
    split
    · exact w
    · rename_i f hf
      split
      · exact w
      · split
        · exact w
        · split
          · exact w
          · rename_i h1 h2 h3
            have ho : ¬ a.plan.pupils = 0 := fun z => by rw [(w.off z).2] at hf; cases hf
            refine ⟨w.pup, w.pin, w.pinr, w.rooms, w.bed, w.wl, w.bl, w.wn, w.bn, w.wr, w.br, fun z => absurd z ho, fun g hg => ?_⟩
            cases hg
            obtain ⟨m1, m2⟩ := w.fil f hf
            rw [may_iff] at m1
            have hi : i < f.length := by rw [m1.1]; omega
            have hj : j < f.length := by rw [m1.1]; omega
            refine ⟨?_, by cases z : keepsPins a.pins ((f.set i (f.getD j 0)).set j (f.getD i 0)); exact absurd z h2; rfl⟩
            rw [may_iff]
            refine ⟨by rw [List.length_set, List.length_set]; exact m1.1, fun x hx => m1.2.1 x (mem_swap hi hj hx), fun x hx => ?_, fun q hq => ?_⟩
            · rw [inRoom_swap hi hj]; exact m1.2.2.1 x hx
            · cases z : Ks304.together ((f.set i (f.getD j 0)).set j (f.getD i 0)) q
              · rfl
              · exact absurd (broken_some.mpr ⟨q, hq, z⟩) h3
  | who r =>
    simp only [act]
    split
    · exact w
    · split <;> exact w
  | weigh =>
    simp only [act]
    split <;> exact w
  | state =>
    simp only [act]
    split <;> exact w
/-! ### the calls, told by what is asked first -/
theorem on_false {a : Abs} : a.on = false ↔ a.plan.pupils = 0 := by
  unfold Abs.on
  simp
theorem act_wish {a : Abs} {x y on : Nat} (h1 : ¬ a.plan.pupils = 0) (h2 : pairOk a x y on = true) :
    act a (.wish x y on) = if has (x, y) a.plan.wishes = (on == 1) then (a, Ks306.no (-17)) else if on = 1 ∧ 32 ≤ a.plan.wishes.length then (a, Ks306.no (-12)) else ({ a with plan := { a.plan with wishes := put on (x, y) a.plan.wishes } }, Ks306.no 0) := by
  simp only [act, h2]
  rw [if_neg fun z => h1 (on_false.mp z), if_neg (by decide)]
  rfl
theorem act_bar {a : Abs} {x y on : Nat} (h1 : ¬ a.plan.pupils = 0) (h2 : pairOk a x y on = true) :
    act a (.bar x y on) = if has (min x y, max x y) a.plan.bars = (on == 1) then (a, Ks306.no (-17)) else if on = 1 ∧ 32 ≤ a.plan.bars.length then (a, Ks306.no (-12)) else
      (looked { a with plan := { a.plan with bars := put on (min x y, max x y) a.plan.bars } }, Ks306.no (Ks306.there (looked { a with plan := { a.plan with bars := put on (min x y, max x y) a.plan.bars } }))) := by
  simp only [act, h2]
  rw [if_neg fun z => h1 (on_false.mp z), if_neg (by decide)]
  rfl
end Rs
end
section
set_option Elab.async false
set_option linter.all false
set_option maxRecDepth 100000
set_option maxHeartbeats 4000000
set_option linter.all false
/-! The best filling, found pupil by pupil: what a search may skip. -/
namespace Rs
open Ks304 (Plan)
/-- the rooms that a pin lets be tried, in order -/
def tries (rooms x : Nat) : List Nat := if x = 0 then List.range rooms else [x - 1]
theorem all_cons (rooms x : Nat) (l : List Nat) : Ks305.all rooms (x :: l) = (tries rooms x).flatMap fun k => (Ks305.all rooms l).map fun f => k :: f := rfl
/-! ### the search over every filling, pins asked of each -/
/-- every filling, the lesser rooms first -/
def every (rooms : Nat) : Nat → List (List Nat)
  | 0 => [[]]
  | n + 1 => (List.range rooms).flatMap fun k => (every rooms n).map fun f => k :: f
theorem filter_flatMap' {α β : Type} (q : β → Bool) (g : α → List β) : ∀ l : List α, (l.flatMap g).filter q = l.flatMap fun k => (g k).filter q
  | [] => rfl
  | x :: l => by rw [List.flatMap_cons, List.filter_append, filter_flatMap' q g l, List.flatMap_cons]
theorem flatMap_one {α β : Type} [DecidableEq α] (g : α → List β) {x : α} : ∀ {l : List α}, l.Nodup → x ∈ l → (∀ y ∈ l, y ≠ x → g y = []) → l.flatMap g = g x
  | [], _, h, _ => nomatch h
  | y :: l, hn, h, hz => by
    obtain ⟨h1, h2⟩ := List.nodup_cons.mp hn
    rw [List.flatMap_cons]
    by_cases e : y = x
    · subst e
      have : l.flatMap g = [] := by
        rw [List.flatMap_eq_nil_iff]
        intro z hz'
        exact hz z (List.mem_cons_of_mem _ hz') fun e => h1 (e ▸ hz')
      rw [this, List.append_nil]
    · rw [hz y List.mem_cons_self e, List.nil_append]
      exact flatMap_one g h2 ((List.mem_cons.mp h).resolve_left fun z => e z.symm) fun z hz' => hz z (List.mem_cons_of_mem _ hz')
theorem all_every : ∀ {rooms : Nat} {pins : List Nat}, (∀ x ∈ pins, x ≤ rooms) → Ks305.all rooms pins = (every rooms pins.length).filter (Ks306.keepsPins pins)
  | rooms, [], _ => rfl
  | rooms, x :: l, h => by
    have ih := all_every (rooms := rooms) (pins := l) fun y hy => h y (List.mem_cons_of_mem _ hy)
    rw [all_cons, ih]
    show _ = ((List.range rooms).flatMap fun k => (every rooms l.length).map fun f => k :: f).filter _
    rw [filter_flatMap']
    have one : ∀ k, ((every rooms l.length).map fun f => k :: f).filter (Ks306.keepsPins (x :: l)) = if x = 0 ∨ x = k + 1 then ((every rooms l.length).filter (Ks306.keepsPins l)).map fun f => k :: f else [] := fun k => by
      rw [List.filter_map]
      have e : (Ks306.keepsPins (x :: l)) ∘ (fun f => k :: f) = fun f => (x == 0 || x == k + 1) && Ks306.keepsPins l f := by
        funext f
        show (((x :: l).zip (k :: f)).all fun x => x.1 == 0 || x.1 == x.2 + 1) = _
        rw [List.zip_cons_cons, List.all_cons]
        rfl
      rw [e]
      by_cases z : x = 0 ∨ x = k + 1
      · rw [if_pos z]
        congr 2
        funext f
        have : (x == 0 || x == k + 1) = true := by simpa using z
        rw [this, Bool.true_and]
      · rw [if_neg z]
        have : (x == 0 || x == k + 1) = false := by
          cases q : (x == 0 || x == k + 1)
          · rfl
          · exact absurd (by simpa using q) z
        simp [this]
    simp only [one]
    unfold tries
    by_cases z : x = 0
    · subst z
      simp
    · rw [if_neg z]
      have hx : x ≤ rooms := h x List.mem_cons_self
      rw [flatMap_one (x := x - 1) _ List.nodup_range (List.mem_range.mpr (by omega)) fun y _ hy => ?_]
      · rw [if_pos (Or.inr (by omega))]
        simp
      · rw [if_neg]
        rintro (e | e)
        · exact z e
        · exact hy (by omega)
end Rs
end
section
set_option Elab.async false
set_option linter.all false
set_option maxRecDepth 100000
set_option maxHeartbeats 4000000
set_option linter.all false
/-! The list of calls, read number by number. -/
namespace Rs
open PyKs306 (shape)

theorem ite_or {c : Prop} [Decidable c] {α : Type} {x y r : α} (h : (if c then x else y) = r) : (c ∧ x = r) ∨ y = r := by
  by_cases e : c
  · rw [if_pos e] at h; exact .inl ⟨e, h⟩
  · rw [if_neg e] at h; exact .inr h
/-- how many numbers stand behind a call's own -/
def wide (c : Nat) : Nat := [1, 1, 2, 3, 3, 2, 0, 2, 2, 1, 0, 0].getD c 0
theorem shape_wide {p : Int} {n k : Nat} (h : shape p = some (n, k)) : ∃ c : Nat, p = (c : Int) ∧ c < 12 ∧ n = wide c ∧ k = 0 := by
  unfold shape at h
  rcases ite_or h with ⟨e, h⟩ | h
  · cases h; exact ⟨0, e, by decide, rfl, rfl⟩
  rcases ite_or h with ⟨e, h⟩ | h
  · cases h; exact ⟨1, e, by decide, rfl, rfl⟩
  rcases ite_or h with ⟨e, h⟩ | h
  · cases h; exact ⟨2, e, by decide, rfl, rfl⟩
  rcases ite_or h with ⟨e, h⟩ | h
  · cases h; exact ⟨3, e, by decide, rfl, rfl⟩
  rcases ite_or h with ⟨e, h⟩ | h
  · cases h; exact ⟨4, e, by decide, rfl, rfl⟩
  rcases ite_or h with ⟨e, h⟩ | h
  · cases h; exact ⟨5, e, by decide, rfl, rfl⟩
  rcases ite_or h with ⟨e, h⟩ | h
  · cases h; exact ⟨6, e, by decide, rfl, rfl⟩
  rcases ite_or h with ⟨e, h⟩ | h
  · cases h; exact ⟨7, e, by decide, rfl, rfl⟩
  rcases ite_or h with ⟨e, h⟩ | h
  · cases h; exact ⟨8, e, by decide, rfl, rfl⟩
  rcases ite_or h with ⟨e, h⟩ | h
  · cases h; exact ⟨9, e, by decide, rfl, rfl⟩
  rcases ite_or h with ⟨e, h⟩ | h
  · cases h; exact ⟨10, e, by decide, rfl, rfl⟩
  rcases ite_or h with ⟨e, h⟩ | h
  · cases h; exact ⟨11, e, by decide, rfl, rfl⟩
  cases h
theorem calls_cons {f : Nat} {p : Int} {r : List Int} {cs : List (List (List Int))} (h : PyFlat.calls shape f (p :: r) = some cs) :
    ∃ (f' c : Nat) (cs' : List (List (List Int))), p = (c : Int) ∧ c < 12 ∧ wide c ≤ r.length ∧ cs = [p :: r.take (wide c)] :: cs' ∧ PyFlat.calls shape f' (r.drop (wide c)) = some cs' := by
  cases f with
  | zero => cases h
  | succ f =>
    unfold PyFlat.calls at h
    split at h
    · cases h
    · rename_i c t e
      split at h
      · cases h
      · rename_i cs' e2
        simp only [PyFlat.call] at e
        split at e
        · cases e
        · rename_i n k e3
          split at e
          · cases e
          · rename_i hl
            obtain ⟨cn, h1, h2, h3, h4⟩ := shape_wide e3
            subst h3 h4
            simp only [PyFlat.rows] at e
            cases e
            cases h
            exact ⟨f, cn, cs', h1, h2, by omega, rfl, e2⟩
theorem calls_nil {f : Nat} {cs : List (List (List Int))} (h : PyFlat.calls shape f [] = some cs) : cs = [] := by
  cases f <;> (simp only [PyFlat.calls] at h; cases h; rfl)
theorem len1 {l : List Int} (h : l.length = 1) : ∃ x, l = [x] := by
  match l, h with
  | [x], _ => exact ⟨x, rfl⟩
theorem len2 {l : List Int} (h : l.length = 2) : ∃ x y, l = [x, y] := by
  match l, h with
  | [x, y], _ => exact ⟨x, y, rfl⟩
theorem len3 {l : List Int} (h : l.length = 3) : ∃ x y z, l = [x, y, z] := by
  match l, h with
  | [x, y, z], _ => exact ⟨x, y, z, rfl⟩
theorem whole_call {c : Nat} (h : c < 12) {l : List Int} (hl : l.length = wide c) : PyKs306.whole [(c : Int) :: l] = [(c : Int) :: l] := by
  have e := (by decide : ∀ c, c < 12 → c = 0 ∨ c = 1 ∨ c = 2 ∨ c = 3 ∨ c = 4 ∨ c = 5 ∨ c = 6 ∨ c = 7 ∨ c = 8 ∨ c = 9 ∨ c = 10 ∨ c = 11) c h
  rcases e with rfl | rfl | rfl | rfl | rfl | rfl | rfl | rfl | rfl | rfl | rfl | rfl
  · obtain ⟨x, rfl⟩ := len1 hl; rfl
  · obtain ⟨x, rfl⟩ := len1 hl; rfl
  · obtain ⟨x, y, rfl⟩ := len2 hl; rfl
  · obtain ⟨x, y, z, rfl⟩ := len3 hl; rfl
  · obtain ⟨x, y, z, rfl⟩ := len3 hl; rfl
  · obtain ⟨x, y, rfl⟩ := len2 hl; rfl
  · rw [List.length_eq_zero_iff.mp hl]; rfl
  · obtain ⟨x, y, rfl⟩ := len2 hl; rfl
  · obtain ⟨x, y, rfl⟩ := len2 hl; rfl
  · obtain ⟨x, rfl⟩ := len1 hl; rfl
  · rw [List.length_eq_zero_iff.mp hl]; rfl
  · rw [List.length_eq_zero_iff.mp hl]; rfl
theorem calls_whole : ∀ (cs : List (List (List Int))) {f : Nat} {l : List Int}, PyFlat.calls shape f l = some cs → cs.map PyKs306.whole = cs
  | [], _, _, _ => rfl
  | c :: cs, f, [], h => nomatch calls_nil h
  | c :: cs, f, p :: r, h => by
    obtain ⟨f', n, cs', h1, h2, h3, h4, h5⟩ := calls_cons h
    obtain ⟨e1, e2⟩ := List.cons.inj h4
    subst e1 e2
    have e : PyKs306.whole [p :: r.take (wide n)] = [p :: r.take (wide n)] := by
      rw [h1]
      exact whole_call h2 (by rw [List.length_take]; omega)
    rw [List.map_cons, e, calls_whole cs h5]
/-- what is left to read stands at i -/
theorem calls_at {l : List Int} {f i : Nat} {cs : List (List (List Int))} (h : PyFlat.calls shape f (l.drop i) = some cs) (hi : i < l.length) :
    ∃ (f' c : Nat) (cs' : List (List (List Int))), l[i]? = some (c : Int) ∧ c < 12 ∧ i + 1 + wide c ≤ l.length ∧ cs = [(c : Int) :: (l.drop (i + 1)).take (wide c)] :: cs' ∧ PyFlat.calls shape f' (l.drop (i + 1 + wide c)) = some cs' := by
  rw [List.drop_eq_getElem_cons hi] at h
  obtain ⟨f', c, cs', h1, h2, h3, h4, h5⟩ := calls_cons h
  refine ⟨f', c, cs', by rw [List.getElem?_eq_getElem hi, h1], h2, ?_, by rw [h4, h1], by rw [List.drop_drop] at h5; exact h5⟩
  rw [List.length_drop] at h3
  omega
theorem told_cons (a : List Int) (l : List (List Int)) : PyFlat.told (a :: l) = ((a.length : Int) :: a) ++ PyFlat.told l := rfl
theorem played_cons (s : Ks306.Abs) (c : List (List Int)) (r : List (List (List Int))) : PyFlat.played Ks306Neutral.step s (c :: r) = (Ks306Neutral.step s c).2 :: PyFlat.played Ks306Neutral.step (Ks306Neutral.step s c).1 r := rfl
theorem played_runs : ∀ (l : List (List (List Int))) (s : Ks306.Abs), PyFlat.played Ks306Neutral.step s l = Ks306Neutral.runs s l
  | [], _ => rfl
  | c :: l, s => by
    rw [played_cons, played_runs l]
    rfl
theorem played_length : ∀ (l : List (List (List Int))) (s : Ks306.Abs), (PyFlat.played Ks306Neutral.step s l).length = l.length
  | [], _ => rfl
  | c :: l, s => by rw [played_cons, List.length_cons, played_length l, List.length_cons]
theorem foldl_add : ∀ (l : List Nat) (n : Nat), l.foldl (· + ·) n = n + l.foldl (· + ·) 0
  | [], n => by simp
  | x :: l, n => by rw [List.foldl_cons, List.foldl_cons, foldl_add l (n + x), foldl_add l (0 + x)]; omega
theorem told_length : ∀ (l : List (List Int)), (PyFlat.told l).length = (l.map List.length).foldl (· + ·) 0 + l.length
  | [] => rfl
  | a :: l => by
    rw [told_cons, List.length_append, told_length l, List.map_cons, List.foldl_cons, foldl_add _ (0 + a.length), List.length_cons, List.length_cons]
    omega

/-- what is asked, in short -/
structure Asked (l : List Int) (cs : List (List (List Int))) : Prop where
  calls : PyFlat.calls shape l.length l = some cs
  due : PyKs306.answers l = PyFlat.told (PyFlat.played Ks306Neutral.step Ks306Neutral.start cs)
  few : (PyKs306.answers l).length < 1100000
theorem asked_of {l : List Int} (h : PyKs306.answers_asked l = true) : ∃ cs, Asked l cs := by
  unfold PyKs306.answers_asked at h
  split at h
  · cases h
  · rename_i cs e
    have e' : PyKs306.calls l = some cs := e
    unfold PyKs306.calls at e'
    split at e'
    · cases e'
    · rename_i ds e2
      have ew : ds.map PyKs306.whole = ds := calls_whole ds e2
      rw [ew] at e'
      have e4 : ds = cs := Option.some.inj e'
      subst e4
      have due : PyKs306.answers l = PyFlat.told (PyFlat.played Ks306Neutral.step Ks306Neutral.start ds) := by
        unfold PyKs306.answers
        rw [e]
      refine ⟨ds, e2, due, ?_⟩
      rw [due, told_length, played_length]
      rw [Bool.and_eq_true] at h
      obtain ⟨h1, h2⟩ := h
      unfold PyFlat.atMost at h1
      unfold Ks306Neutral.asked Ks306Neutral.f at h2
      rw [played_runs]
      simp only [Bool.and_eq_true, decide_eq_true_eq] at h1 h2
      omega
end Rs
end
section
set_option Elab.async false
set_option linter.all false
set_option maxRecDepth 100000
set_option maxHeartbeats 4000000
set_option linter.all false
/-! Groups as whole numbers: bits, sizes, parts, sums. -/
namespace Rs
/-- the number with the bits of P below n -/
def bitsOf : Nat → (Nat → Bool) → Nat
  | 0, _ => 0
  | n + 1, P => bitsOf n P + if P n then 2 ^ n else 0
theorem bitsOf_succ (n : Nat) (P : Nat → Bool) : bitsOf (n + 1) P = bitsOf n P + if P n then 2 ^ n else 0 := rfl
theorem bitsOf_lt : ∀ (n : Nat) (P : Nat → Bool), bitsOf n P < 2 ^ n
  | 0, _ => by show 0 < 1; decide
  | n + 1, P => by
    have := bitsOf_lt n P
    unfold bitsOf
    rw [Nat.pow_succ]
    split <;> omega
theorem testBit_bitsOf : ∀ (n : Nat) (P : Nat → Bool) (j : Nat), (bitsOf n P).testBit j = (decide (j < n) && P j)
  | 0, P, j => by simp [bitsOf]
  | n + 1, P, j => by
    have hl := bitsOf_lt n P
    have ih := testBit_bitsOf n P j
    unfold bitsOf
    by_cases h : P n = true
    · rw [if_pos h, Nat.add_comm]
      by_cases e : j = n
      · subst e
        rw [Nat.testBit_two_pow_add_eq, Nat.testBit_lt_two_pow hl]
        simp [h]
      · by_cases l : j < n
        · rw [Nat.testBit_two_pow_add_gt l, ih]
          simp [l, Nat.lt_succ_of_lt l]
        · have : 2 ^ n + bitsOf n P < 2 ^ j := by
            have h1 : n + 1 ≤ j := by omega
            have h2 := Nat.pow_le_pow_right (n := 2) (by decide) h1
            rw [Nat.pow_succ] at h2
            omega
          rw [Nat.testBit_lt_two_pow this]
          have : ¬ j < n + 1 := by omega
          simp [this]
    · rw [if_neg h, Nat.add_zero, ih]
      by_cases e : j = n
      · subst e
        simp [h]
      · by_cases l : j < n
        · simp [l, Nat.lt_succ_of_lt l]
        · have : ¬ j < n + 1 := by omega
          simp [this, l]
theorem bitsOf_congr {n : Nat} {P Q : Nat → Bool} (h : ∀ j, j < n → P j = Q j) : bitsOf n P = bitsOf n Q := by
  apply Nat.eq_of_testBit_eq
  intro j
  rw [testBit_bitsOf, testBit_bitsOf]
  by_cases l : j < n
  · rw [h j l]
  · simp [l]
theorem bitsOf_self {n g : Nat} (h : g < 2 ^ n) : bitsOf n g.testBit = g := by
  apply Nat.eq_of_testBit_eq
  intro j
  rw [testBit_bitsOf]
  by_cases l : j < n
  · simp [l]
  · have : g < 2 ^ j := Nat.lt_of_lt_of_le h (Nat.pow_le_pow_right (by decide) (by omega))
    rw [Nat.testBit_lt_two_pow this]
    simp
theorem bitsOf_split : ∀ (n : Nat) (P Q : Nat → Bool), bitsOf n (fun j => P j && Q j) + bitsOf n (fun j => P j && !Q j) = bitsOf n P
  | 0, _, _ => rfl
  | n + 1, P, Q => by
    have ih := bitsOf_split n P Q
    rw [bitsOf_succ, bitsOf_succ, bitsOf_succ]
    cases e1 : P n <;> cases e2 : Q n <;> simp [e1, e2] <;> omega
theorem bitsOf_all : ∀ n : Nat, bitsOf n (fun _ => true) = 2 ^ n - 1
  | 0 => rfl
  | n + 1 => by
    unfold bitsOf
    rw [bitsOf_all n, Nat.pow_succ]
    have := Nat.pos_of_ne_zero (show (2 : Nat) ^ n ≠ 0 from Nat.pos_iff_ne_zero.mp (Nat.two_pow_pos n))
    simp
    omega
theorem and_bit_zero {g p : Nat} : (g &&& 2 ^ p = 0) ↔ g.testBit p = false := by
  constructor
  · intro h
    have : (g &&& 2 ^ p).testBit p = false := by rw [h]; simp
    rw [Nat.testBit_and, Nat.testBit_two_pow_self, Bool.and_true] at this
    exact this
  · intro h
    apply Nat.eq_of_testBit_eq
    intro j
    rw [Nat.testBit_and, Nat.zero_testBit]
    by_cases e : p = j
    · subst e; rw [h]; rfl
    · rw [Nat.testBit_two_pow_of_ne e, Bool.and_false]
theorem and_ne_zero {g h : Nat} : (¬ g &&& h = 0) ↔ ∃ j, g.testBit j = true ∧ h.testBit j = true := by
  constructor
  · intro z
    obtain ⟨j, hj⟩ := Nat.exists_testBit_of_ne_zero z
    rw [Nat.testBit_and, Bool.and_eq_true] at hj
    exact ⟨j, hj⟩
  · rintro ⟨j, h1, h2⟩ z
    have : (g &&& h).testBit j = false := by rw [z]; simp
    rw [Nat.testBit_and, h1, h2] at this
    cases this
theorem and_eq_right {g h : Nat} : (g &&& h = h) ↔ ∀ j, h.testBit j = true → g.testBit j = true := by
  constructor
  · intro z j hj
    have : (g &&& h).testBit j = true := by rw [z]; exact hj
    rw [Nat.testBit_and, Bool.and_eq_true] at this
    exact this.1
  · intro z
    apply Nat.eq_of_testBit_eq
    intro j
    rw [Nat.testBit_and]
    cases e : h.testBit j
    · simp
    · rw [z j e]; rfl
/-! ### how many -/
def cnt : Nat → (Nat → Bool) → Nat
  | 0, _ => 0
  | n + 1, P => cnt n P + if P n then 1 else 0
theorem cnt_succ (n : Nat) (P : Nat → Bool) : cnt (n + 1) P = cnt n P + if P n then 1 else 0 := rfl
theorem cnt_congr {P Q : Nat → Bool} : ∀ {n : Nat}, (∀ j, j < n → P j = Q j) → cnt n P = cnt n Q
  | 0, _ => rfl
  | n + 1, h => by
    unfold cnt
    rw [cnt_congr fun j l => h j (by omega), h n (by omega)]
theorem cnt_le : ∀ (n : Nat) (P : Nat → Bool), cnt n P ≤ n
  | 0, _ => Nat.le_refl _
  | n + 1, P => by
    have := cnt_le n P
    unfold cnt
    split <;> omega
theorem cnt_front : ∀ (n : Nat) (P : Nat → Bool), cnt (n + 1) P = (if P 0 then 1 else 0) + cnt n fun j => P (j + 1)
  | 0, P => by simp [cnt]
  | n + 1, P => by
    have ih := cnt_front n P
    rw [show cnt (n + 1 + 1) P = cnt (n + 1) P + (if P (n + 1) then 1 else 0) from rfl, ih]
    rw [show cnt (n + 1) (fun j => P (j + 1)) = cnt n (fun j => P (j + 1)) + (if P (n + 1) then 1 else 0) from rfl]
    omega
theorem cnt_more {P : Nat → Bool} {n : Nat} : ∀ {m : Nat}, n ≤ m → (∀ j, n ≤ j → P j = false) → cnt m P = cnt n P
  | 0, h, _ => by have : n = 0 := by omega
                  subst this; rfl
  | m + 1, h, hz => by
    by_cases e : n = m + 1
    · subst e; rfl
    · rw [cnt_succ, cnt_more (show n ≤ m by omega) hz, hz m (by omega)]
      simp
/-- how many are in a group -/
def pop (g : Nat) : Nat := cnt 8 g.testBit
theorem pop_le (g : Nat) : pop g ≤ 8 := cnt_le _ _
theorem pop_step {g : Nat} (h : g < 256) : pop g = pop (g / 2) + g % 2 := by
  have z : ∀ j, 8 ≤ j → g.testBit j = false := fun j hj => Nat.testBit_lt_two_pow (Nat.lt_of_lt_of_le h (show 256 ≤ 2 ^ j from Nat.pow_le_pow_right (n := 2) (by decide) hj))
  have e : pop g = cnt (8 + 1) g.testBit := (cnt_more (by decide) z).symm
  rw [e, cnt_front]
  have e2 : (fun j => g.testBit (j + 1)) = (g / 2).testBit := by funext j; exact Nat.testBit_succ ..
  rw [e2]
  show _ + pop (g / 2) = _
  have : g.testBit 0 = decide (g % 2 = 1) := Nat.testBit_zero ..
  rw [this]
  by_cases q : g % 2 = 1
  · simp [q]; omega
  · simp [q]; omega
theorem pop_bitsOf {n : Nat} (h : n ≤ 8) (P : Nat → Bool) : pop (bitsOf n P) = cnt n P := by
  unfold pop
  have e : (bitsOf n P).testBit = fun j => decide (j < n) && P j := by funext j; exact testBit_bitsOf n P j
  rw [e, cnt_more (n := n) h fun j hj => by simp; omega]
  exact cnt_congr fun j hj => by simp [hj]
/-! ### sums -/
def sumN : Nat → (Nat → Int) → Int
  | 0, _ => 0
  | n + 1, h => sumN n h + h n
theorem sumN_succ (n : Nat) (h : Nat → Int) : sumN (n + 1) h = sumN n h + h n := rfl
theorem sumN_congr {f g : Nat → Int} : ∀ {n : Nat}, (∀ j, j < n → f j = g j) → sumN n f = sumN n g
  | 0, _ => rfl
  | n + 1, h => by
    unfold sumN
    rw [sumN_congr fun j l => h j (by omega), h n (by omega)]
theorem sumN_add (f g : Nat → Int) : ∀ n : Nat, sumN n (fun j => f j + g j) = sumN n f + sumN n g
  | 0 => rfl
  | n + 1 => by
    rw [sumN_succ, sumN_succ, sumN_succ, sumN_add f g n]
    show _ + (f n + g n) = _
    omega
theorem sumN_mul (c : Int) (f : Nat → Int) : ∀ n : Nat, sumN n (fun j => c * f j) = c * sumN n f
  | 0 => by simp [sumN]
  | n + 1 => by
    unfold sumN
    rw [sumN_mul c f n, Int.mul_add]
theorem sumN_zero : ∀ n : Nat, sumN n (fun _ => 0) = 0
  | 0 => rfl
  | n + 1 => by
    unfold sumN
    rw [sumN_zero n]
    rfl
theorem sumN_swap (h : Nat → Nat → Int) : ∀ m n : Nat, sumN m (fun i => sumN n fun p => h i p) = sumN n fun p => sumN m fun i => h i p
  | 0, n => (sumN_zero n).symm
  | m + 1, n => by
    rw [show sumN (m + 1) (fun i => sumN n fun p => h i p) = sumN m (fun i => sumN n fun p => h i p) + sumN n fun p => h m p from rfl, sumN_swap h m n, ← sumN_add]
    rfl
theorem sumN_one (c : Int) {k : Nat} : ∀ {m : Nat}, k < m → sumN m (fun i => if k = i then c else 0) = c
  | 0, h => absurd h (by omega)
  | m + 1, h => by
    rw [sumN_succ]
    show _ + (if k = m then c else 0) = c
    by_cases e : k = m
    · subst e
      rw [if_pos rfl, sumN_congr (g := fun _ => 0) fun j hj => if_neg (by omega), sumN_zero]
      omega
    · rw [if_neg e, sumN_one c (show k < m by omega)]
      omega
theorem sumN_le {f : Nat → Int} {c : Int} : ∀ {n : Nat}, (∀ j, j < n → f j ≤ c) → sumN n f ≤ n * c
  | 0, _ => by simp [sumN]
  | n + 1, h => by
    have ih := sumN_le (f := f) (c := c) (n := n) fun j l => h j (by omega)
    have := h n (by omega)
    unfold sumN
    rw [show ((n + 1 : Nat) : Int) * c = (n : Int) * c + c by rw [Int.natCast_add, Int.add_mul]; simp]
    omega
theorem sumN_nonneg {f : Nat → Int} : ∀ {n : Nat}, (∀ j, j < n → 0 ≤ f j) → 0 ≤ sumN n f
  | 0, _ => by simp [sumN]
  | n + 1, h => by
    have ih := sumN_nonneg (f := f) (n := n) fun j l => h j (by omega)
    have := h n (by omega)
    unfold sumN
    omega
theorem sumN_front (h : Nat → Int) : ∀ n : Nat, sumN (n + 1) h = h 0 + sumN n fun j => h (j + 1)
  | 0 => by simp [sumN]
  | n + 1 => by
    have ih := sumN_front h n
    rw [show sumN (n + 1 + 1) h = sumN (n + 1) h + h (n + 1) from rfl, ih]
    rw [show sumN (n + 1) (fun j => h (j + 1)) = sumN n (fun j => h (j + 1)) + h (n + 1) from rfl]
    omega
theorem sumN_cnt (P : Nat → Bool) : ∀ n : Nat, sumN n (fun j => if P j then 1 else 0) = (cnt n P : Int)
  | 0 => rfl
  | n + 1 => by
    rw [sumN_succ, cnt_succ, sumN_cnt P n]
    cases e : P n <;> simp [e]
theorem sum_range (P : Nat → Bool) (h : Nat → Int) : ∀ n : Nat, (((List.range n).filter P).map h).sum = sumN n fun j => if P j then h j else 0
  | 0 => rfl
  | n + 1 => by
    rw [List.range_succ, List.filter_append, List.map_append, List.sum_append, sum_range P h n]
    rw [sumN_succ]
    congr 1
    cases e : P n <;> simp [e]
theorem bitsOf_sum (P : Nat → Bool) : ∀ n : Nat, sumN n (fun j => if P j then ((2 ^ j : Nat) : Int) else 0) = (bitsOf n P : Int)
  | 0 => rfl
  | n + 1 => by
    rw [sumN_succ, bitsOf_succ, bitsOf_sum P n]
    cases e : P n <;> simp [e]
theorem cnt_filter (P : Nat → Bool) : ∀ n : Nat, ((List.range n).filter P).length = cnt n P
  | 0 => rfl
  | n + 1 => by
    rw [List.range_succ, List.filter_append, List.length_append, cnt_filter P n, cnt_succ]
    cases e : P n <;> simp [e]
/-! ### all parts of each group -/
def partsT : Nat → List (List Nat)
  | 0 => [[0]]
  | p + 1 => partsT p ++ (partsT p).map fun w => w ++ w.map (· + 2 ^ p)
theorem partsT_length : ∀ p : Nat, (partsT p).length = 2 ^ p
  | 0 => rfl
  | p + 1 => by
    unfold partsT
    rw [List.length_append, List.length_map, partsT_length p, Nat.pow_succ]
    omega
theorem partsT_low {p g : Nat} (h : g < 2 ^ p) : (partsT (p + 1)).getD g [] = (partsT p).getD g [] := by
  show (partsT p ++ (partsT p).map fun (w : List Nat) => w ++ w.map (· + 2 ^ p)).getD g [] = _
  rw [List.getD_eq_getElem?_getD, List.getElem?_append_left (by rw [partsT_length]; exact h), ← List.getD_eq_getElem?_getD]
theorem partsT_high {p g : Nat} (h : g < 2 ^ p) : (partsT (p + 1)).getD (2 ^ p + g) [] = (partsT p).getD g [] ++ ((partsT p).getD g []).map (· + 2 ^ p) := by
  show (partsT p ++ (partsT p).map fun (w : List Nat) => w ++ w.map (· + 2 ^ p)).getD (2 ^ p + g) [] = _
  have hl : g < (partsT p).length := by rw [partsT_length]; exact h
  rw [List.getD_eq_getElem?_getD, List.getElem?_append_right (by rw [partsT_length]; omega), partsT_length, Nat.add_sub_cancel_left, List.getElem?_map, List.getD_eq_getElem?_getD, List.getElem?_eq_getElem hl]
  rfl
/-- x is a part of g -/
def Sub (x g : Nat) : Prop := ∀ j, x.testBit j = true → g.testBit j = true
theorem mem_parts : ∀ {p g x : Nat}, g < 2 ^ p → (x ∈ (partsT p).getD g [] ↔ x < 2 ^ p ∧ Sub x g)
  | 0, g, x, h => by
    have e : g = 0 := by simpa using h
    subst e
    show x ∈ [0] ↔ _
    rw [List.mem_singleton]
    constructor
    · rintro rfl
      exact ⟨by decide, fun j hj => hj⟩
    · rintro ⟨h, _⟩
      simpa using h
  | p + 1, g, x, h => by
    by_cases l : g < 2 ^ p
    · rw [partsT_low l, mem_parts l]
      constructor
      · rintro ⟨h1, h2⟩
        exact ⟨by rw [Nat.pow_succ]; omega, h2⟩
      · rintro ⟨h1, h2⟩
        refine ⟨?_, h2⟩
        apply Nat.lt_pow_two_of_testBit
        intro j hj
        cases e : x.testBit j
        · rfl
        · have := h2 j e
          rw [Nat.testBit_lt_two_pow (Nat.lt_of_lt_of_le l (Nat.pow_le_pow_right (by decide) hj))] at this
          cases this
    · have hg : g - 2 ^ p < 2 ^ p := by rw [Nat.pow_succ] at h; omega
      have eg : g = 2 ^ p + (g - 2 ^ p) := by omega
      generalize g - 2 ^ p = y at hg eg
      subst eg
      rw [partsT_high hg, List.mem_append, mem_parts hg]
      have gt : ∀ z, z < 2 ^ p → ∀ j, (2 ^ p + z).testBit j = (decide (j = p) || z.testBit j) := fun z hz j => by
        by_cases e : j = p
        · subst e
          rw [Nat.testBit_two_pow_add_eq, Nat.testBit_lt_two_pow hz]
          simp
        · by_cases l : j < p
          · rw [Nat.testBit_two_pow_add_gt l]
            simp [e]
          · have h1 : 2 ^ (p + 1) ≤ 2 ^ j := Nat.pow_le_pow_right (by decide) (by omega)
            rw [Nat.pow_succ] at h1
            rw [Nat.testBit_lt_two_pow (show 2 ^ p + z < 2 ^ j by omega), Nat.testBit_lt_two_pow (show z < 2 ^ j by omega)]
            simp [e]
      constructor
      · rintro (⟨h1, h2⟩ | h1)
        · refine ⟨by rw [Nat.pow_succ]; omega, fun j hj => ?_⟩
          rw [gt y hg, h2 j hj, Bool.or_true]
        · obtain ⟨z, hz, rfl⟩ := List.mem_map.mp h1
          obtain ⟨h1, h2⟩ := (mem_parts hg).mp hz
          refine ⟨by rw [Nat.pow_succ]; omega, fun j hj => ?_⟩
          have hj : (z + 2 ^ p).testBit j = true := hj
          rw [Nat.add_comm, gt z h1] at hj
          rw [gt y hg]
          rcases Bool.or_eq_true _ _ ▸ hj with e | e
          · rw [e]; rfl
          · rw [h2 j e, Bool.or_true]
      · rintro ⟨h1, h2⟩
        have low : ∀ j, j ≠ p → x.testBit j = true → y.testBit j = true := fun j hj hx => by
          have := h2 j hx
          rw [gt y hg] at this
          simpa [hj] using this
        by_cases hx : x < 2 ^ p
        · left
          refine ⟨hx, fun j hj => low j (fun e => ?_) hj⟩
          rw [e, Nat.testBit_lt_two_pow hx] at hj
          cases hj
        · right
          rw [Nat.pow_succ] at h1
          have hz : x - 2 ^ p < 2 ^ p := by omega
          refine List.mem_map.mpr ⟨x - 2 ^ p, (mem_parts hg).mpr ⟨hz, fun j hj => ?_⟩, by show x - 2 ^ p + 2 ^ p = x; omega⟩
          have ex : x = 2 ^ p + (x - 2 ^ p) := by omega
          have np : j ≠ p := fun e => by rw [e, Nat.testBit_lt_two_pow hz] at hj; cases hj
          refine low j np ?_
          rw [ex, gt _ hz, hj, Bool.or_true]
theorem parts_len : ∀ {p : Nat} {w : List Nat}, w ∈ partsT p → w.length ≤ 2 ^ p
  | 0, w, h => by
    rw [show partsT 0 = [[0]] from rfl, List.mem_singleton] at h
    subst h
    decide
  | p + 1, w, h => by
    rw [Nat.pow_succ]
    rcases List.mem_append.mp (show w ∈ partsT p ++ (partsT p).map fun (w : List Nat) => w ++ w.map (· + 2 ^ p) from h) with h | h
    · have := parts_len h; omega
    · obtain ⟨v, hv, rfl⟩ := List.mem_map.mp h
      have := parts_len hv
      rw [List.length_append, List.length_map]
      omega
/-! ### the greatest -/
def mx : List Int → Int
  | [] => 0
  | [x] => x
  | x :: y :: l => max x (mx (y :: l))
theorem mx_mem : ∀ {l : List Int}, l ≠ [] → mx l ∈ l
  | [], h => absurd rfl h
  | [x], _ => List.mem_singleton.mpr rfl
  | x :: y :: l, _ => by
    unfold mx
    have := mx_mem (l := y :: l) (by simp)
    by_cases e : x ≤ mx (y :: l)
    · rw [Int.max_eq_right e]
      exact List.mem_cons_of_mem _ this
    · rw [Int.max_eq_left (by omega)]
      exact List.mem_cons_self
theorem le_mx : ∀ {l : List Int} {x : Int}, x ∈ l → x ≤ mx l
  | [], x, h => nomatch h
  | [y], x, h => by
    have := List.mem_singleton.mp h
    subst this
    exact Int.le_refl _
  | y :: z :: l, x, h => by
    unfold mx
    rcases List.mem_cons.mp h with h | h
    · subst h; omega
    · have := le_mx h
      omega
theorem mx_eq {l : List Int} {m : Int} (h1 : m ∈ l) (h2 : ∀ y, y ∈ l → y ≤ m) : mx l = m := by
  have h3 := le_mx h1
  have h4 := h2 _ (mx_mem (l := l) fun e => by rw [e] at h1; cases h1)
  omega
end Rs
end
section
set_option Elab.async false
set_option linter.all false
set_option maxRecDepth 100000
set_option maxHeartbeats 4000000
set_option linter.all false
/-! The most that all are worth together, room by room; and that it is the best filling's worth. -/
namespace Rs
open Ks304 (Plan)
/-- a group split in two: the most that it is worth so -/
def splitW (n : Nat) (B W : Nat → Int) (g : Nat) : Int := mx (((partsT n).getD g []).map fun x => B x + W (g - x))
/-- the most that a group is worth in the rooms 0 to r -/
def Bd (n : Nat) (F : Nat → Nat → Int) : Nat → Nat → Int
  | 0 => F 0
  | r + 1 => splitW n (Bd n F r) (F (r + 1))
theorem part_sub {n : Nat} (P Q : Nat → Bool) : bitsOf n P - bitsOf n (fun j => P j && Q j) = bitsOf n fun j => P j && !Q j := by
  have := bitsOf_split n P Q
  omega
theorem Bd_ub {n : Nat} {F : Nat → Nat → Int} : ∀ (r : Nat) (P : Nat → Bool) (f : Nat → Nat), (∀ p, f p ≤ r) → sumN (r + 1) (fun i => F i (bitsOf n fun p => P p && f p == i)) ≤ Bd n F r (bitsOf n P)
  | 0, P, f, h => by
    have e : (bitsOf n fun p => P p && f p == 0) = bitsOf n P := bitsOf_congr fun j _ => by
      have := h j
      have : f j = 0 := by omega
      simp [this]
    rw [sumN_succ]
    show 0 + F 0 (bitsOf n fun p => P p && f p == 0) ≤ F 0 (bitsOf n P)
    rw [e]
    omega
  | r + 1, P, f, h => by
    have ih := Bd_ub (F := F) (n := n) r (fun p => P p && decide (f p ≤ r)) (fun p => min (f p) r) (fun p => by omega)
    have e1 : sumN (r + 1) (fun i => F i (bitsOf n fun p => (P p && decide (f p ≤ r)) && min (f p) r == i)) = sumN (r + 1) (fun i => F i (bitsOf n fun p => P p && f p == i)) := by
      refine sumN_congr fun i hi => ?_
      congr 1
      refine bitsOf_congr fun p _ => ?_
      by_cases l : f p ≤ r
      · simp [l, Nat.min_eq_left l]
      · have : ¬ f p = i := by omega
        simp [l, this]
    rw [e1] at ih
    rw [sumN_succ]
    show _ ≤ splitW n (Bd n F r) (F (r + 1)) (bitsOf n P)
    refine Int.le_trans ?_ (le_mx (List.mem_map.mpr ⟨bitsOf n fun p => P p && decide (f p ≤ r), (mem_parts (bitsOf_lt n P)).mpr ⟨bitsOf_lt _ _, fun j hj => ?_⟩, rfl⟩))
    · have e2 : (bitsOf n fun p => P p && f p == r + 1) = bitsOf n P - bitsOf n (fun p => P p && decide (f p ≤ r)) := by
        rw [part_sub]
        refine bitsOf_congr fun p _ => ?_
        have := h p
        by_cases l : f p ≤ r
        · have : ¬ f p = r + 1 := by omega
          simp [l, this]
        · have : f p = r + 1 := by omega
          simp [l, this]
      show _ + F (r + 1) (bitsOf n fun p => P p && f p == r + 1) ≤ _
      rw [e2]
      omega
    · rw [testBit_bitsOf] at hj ⊢
      simp only [Bool.and_eq_true] at hj ⊢
      exact ⟨hj.1, hj.2.1⟩
theorem Bd_at {n : Nat} {F : Nat → Nat → Int} : ∀ (r : Nat) (P : Nat → Bool), ∃ f : Nat → Nat, (∀ p, f p ≤ r) ∧ sumN (r + 1) (fun i => F i (bitsOf n fun p => P p && f p == i)) = Bd n F r (bitsOf n P)
  | 0, P => by
    refine ⟨fun _ => 0, fun _ => Nat.le_refl _, ?_⟩
    rw [sumN_succ]
    show 0 + F 0 (bitsOf n fun p => P p && 0 == 0) = F 0 (bitsOf n P)
    have e : (bitsOf n fun p => P p && 0 == 0) = bitsOf n P := bitsOf_congr fun j _ => by simp
    rw [e]
    omega
  | r + 1, P => by
    have ne : ((partsT n).getD (bitsOf n P) []).map (fun x => Bd n F r x + F (r + 1) (bitsOf n P - x)) ≠ [] := by
      intro z
      have m : bitsOf n P ∈ (partsT n).getD (bitsOf n P) [] := (mem_parts (bitsOf_lt n P)).mpr ⟨bitsOf_lt n P, fun j hj => hj⟩
      rw [List.map_eq_nil_iff.mp z] at m
      cases m
    obtain ⟨x, hx, ex⟩ := List.mem_map.mp (mx_mem ne)
    obtain ⟨hx1, hx2⟩ := (mem_parts (bitsOf_lt n P)).mp hx
    have exx : x = bitsOf n fun p => P p && x.testBit p := by
      rw [← bitsOf_self hx1]
      refine bitsOf_congr fun j hj => ?_
      rw [bitsOf_self hx1]
      cases e : x.testBit j
      · simp
      · have := hx2 j e
        rw [testBit_bitsOf] at this
        simp only [Bool.and_eq_true] at this
        rw [this.2]
        rfl
    obtain ⟨f, hf, ef⟩ := Bd_at (F := F) (n := n) r (fun p => P p && x.testBit p)
    rw [← exx] at ef
    refine ⟨fun p => if x.testBit p then f p else r + 1, fun p => ?_, ?_⟩
    · have := hf p
      by_cases e : x.testBit p = true <;> simp [e] <;> omega
    · rw [sumN_succ]
      show _ = mx (((partsT n).getD (bitsOf n P) []).map fun x => Bd n F r x + F (r + 1) (bitsOf n P - x))
      rw [← ex, ← ef]
      congr 1
      · refine sumN_congr fun i hi => ?_
        congr 1
        refine bitsOf_congr fun p _ => ?_
        by_cases e : x.testBit p = true
        · simp [e]
        · have : ¬ r + 1 = i := by omega
          simp [e, this]
      · show F (r + 1) (bitsOf n fun p => P p && (if x.testBit p then f p else r + 1) == r + 1) = F (r + 1) (bitsOf n P - x)
        congr 1
        rw [congrArg (fun y => bitsOf n P - y) exx, part_sub]
        refine bitsOf_congr fun p _ => ?_
        have := hf p
        by_cases e : x.testBit p = true
        · have : ¬ f p = r + 1 := by omega
          simp [e, this]
        · simp [e]
/-! ### the order's digits -/
/-- of each pupil how many rooms stand behind theirs, as a number with w figures to base 4 -/
def ordW : List Nat → Nat → Nat
  | [], _ => 0
  | k :: f, w => (3 - k) * 4 ^ (w - 1) + ordW f (w - 1)
theorem ordW_lt : ∀ {f : List Nat} {w : Nat}, f.length ≤ w → ordW f w < 4 ^ w
  | [], w, _ => Nat.pow_pos (by decide)
  | k :: f, 0, h => absurd h (by simp)
  | k :: f, w + 1, h => by
    have ih := ordW_lt (f := f) (w := w) (by simpa using h)
    show (3 - k) * 4 ^ w + ordW f w < 4 ^ (w + 1)
    rw [Nat.pow_succ]
    have : (3 - k) * 4 ^ w ≤ 3 * 4 ^ w := Nat.mul_le_mul_right _ (by omega)
    omega
theorem ordW_digit : ∀ {f : List Nat} {w K p : Nat}, f.length ≤ w → p < f.length → (4 ^ w * K + ordW f w) / 4 ^ (w - 1 - p) % 4 = (3 - f.getD p 0)
  | [], w, K, p, _, h => absurd h (by simp)
  | k :: f, 0, K, p, h, _ => absurd h (by simp)
  | k :: f, w + 1, K, 0, h, _ => by
    have ih := ordW_lt (f := f) (w := w) (by simpa using h)
    show (4 ^ (w + 1) * K + ((3 - k) * 4 ^ w + ordW f w)) / 4 ^ (w + 1 - 1 - 0) % 4 = 3 - k
    have e : 4 ^ (w + 1) * K + ((3 - k) * 4 ^ w + ordW f w) = ordW f w + 4 ^ w * (4 * K + (3 - k)) := by
      rw [Nat.pow_succ, Nat.mul_add, Nat.mul_comm (3 - k), Nat.mul_assoc]
      omega
    rw [e, Nat.add_sub_cancel, Nat.sub_zero, Nat.add_mul_div_left _ _ (Nat.pow_pos (by decide)), Nat.div_eq_of_lt ih]
    omega
  | k :: f, w + 1, K, p + 1, h, hp => by
    have ih := ordW_digit (f := f) (w := w) (K := 4 * K + (3 - k)) (p := p) (by simpa using h) (by simpa using hp)
    have e : 4 ^ (w + 1) * K + ordW (k :: f) (w + 1) = 4 ^ w * (4 * K + (3 - k)) + ordW f w := by
      show 4 ^ (w + 1) * K + ((3 - k) * 4 ^ w + ordW f w) = _
      rw [Nat.pow_succ, Nat.mul_add, Nat.mul_comm (3 - k), Nat.mul_assoc]
      omega
    rw [e, show w + 1 - 1 - (p + 1) = w - 1 - p by omega, ih]
    rfl
theorem ordW_sum : ∀ {f : List Nat} {w : Nat}, sumN f.length (fun p => ((3 - f.getD p 0 : Nat) : Int) * ((4 ^ (w - 1 - p) : Nat) : Int)) = (ordW f w : Int)
  | [], w => rfl
  | k :: f, w => by
    rw [show (k :: f).length = f.length + 1 from rfl, sumN_front]
    have ih := ordW_sum (f := f) (w := w - 1)
    show ((3 - k : Nat) : Int) * ((4 ^ (w - 1 - 0) : Nat) : Int) + sumN f.length (fun p => ((3 - f.getD p 0 : Nat) : Int) * ((4 ^ (w - 1 - (p + 1)) : Nat) : Int)) = (((3 - k) * 4 ^ (w - 1) + ordW f (w - 1) : Nat) : Int)
    rw [sumN_congr (g := fun p => ((3 - f.getD p 0 : Nat) : Int) * ((4 ^ (w - 1 - 1 - p) : Nat) : Int)) fun p _ => by rw [show w - 1 - (p + 1) = w - 1 - 1 - p by omega], ih]
    rw [Int.natCast_add, Int.natCast_mul]
    rfl
/-- fillings in order: the worth of order falls -/
theorem all_falls : ∀ {rooms : Nat} {pins : List Nat} {w : Nat}, rooms ≤ 4 → (∀ x ∈ pins, x ≤ rooms) → pins.length ≤ w → (Ks305.all rooms pins).Pairwise fun f g => ordW g w < ordW f w
  | rooms, [], w, _, _, _ => List.pairwise_singleton _ _
  | rooms, x :: l, 0, _, _, h => absurd h (by simp)
  | rooms, x :: l, w + 1, hr, hx, h => by
    have ih := all_falls (rooms := rooms) (pins := l) (w := w) hr (fun y hy => hx y (List.mem_cons_of_mem _ hy)) (by simpa using h)
    rw [all_cons, List.pairwise_flatMap]
    constructor
    · intro k hk
      rw [List.pairwise_map]
      refine ih.imp fun {f g} z => ?_
      show (3 - k) * 4 ^ w + ordW g w < (3 - k) * 4 ^ w + ordW f w
      omega
    · have lt : (tries rooms x).Pairwise fun a b => a < b ∧ b < 4 := by
        unfold tries
        split
        · rw [List.pairwise_iff_getElem]
          intro i j hi hj hij
          rw [List.getElem_range, List.getElem_range]
          rw [List.length_range] at hj
          omega
        · exact List.pairwise_singleton _ _
      refine lt.imp fun {a b} hab f hf g hg => ?_
      obtain ⟨f', hf', rfl⟩ := List.mem_map.mp hf
      obtain ⟨g', hg', rfl⟩ := List.mem_map.mp hg
      have l1 : ordW g' w < 4 ^ w := ordW_lt (by rw [all_length hg']; simpa using h)
      show (3 - b) * 4 ^ w + ordW g' w < (3 - a) * 4 ^ w + ordW f' w
      have l2 : (3 - b + 1) * 4 ^ w ≤ (3 - a) * 4 ^ w := Nat.mul_le_mul_right _ (by omega)
      rw [Nat.add_mul, Nat.one_mul] at l2
      omega
/-! ### what a filling is worth -/
def worthV (p : Plan) (f : List Nat) : Nat := Ks304.contents p f * 4194304 + Ks304.fulfilled p f * 65536 + ordW f 8
theorem fulfilled_le {p : Plan} (h : p.wishes.length ≤ 32) (f : List Nat) : Ks304.fulfilled p f ≤ 32 := Nat.le_trans (List.length_filter_le _ _) h
theorem better_iff {p : Plan} (h : p.wishes.length ≤ 32) {f g : List Nat} (hg : g.length ≤ 8) (o : ordW f 8 < ordW g 8) : Ks305.better p f g = true ↔ worthV p g < worthV p f := by
  have a1 := fulfilled_le h f
  have a2 := fulfilled_le h g
  have a3 : ordW g 8 < 65536 := ordW_lt (w := 8) hg
  unfold Ks305.better worthV
  rw [Bool.or_eq_true, Bool.and_eq_true, decide_eq_true_eq, decide_eq_true_eq, beq_iff_eq]
  constructor
  · rintro (z | ⟨z1, z2⟩)
    · omega
    · omega
  · intro z
    by_cases c : Ks304.contents p g < Ks304.contents p f
    · exact .inl c
    · right
      constructor
      · omega
      · omega
theorem pick_best {p : Plan} (h : p.wishes.length ≤ 32) : ∀ {l : List (List Nat)} {g : List Nat}, (∀ f ∈ g :: l, f.length ≤ 8) → (g :: l).Pairwise (fun f g => ordW g 8 < ordW f 8) →
    ∃ x, l.foldl (pick1 p) (some g) = some x ∧ x ∈ g :: l ∧ ∀ y ∈ g :: l, worthV p y ≤ worthV p x
  | [], g, _, _ => ⟨g, rfl, List.mem_cons_self, fun y hy => by rw [List.mem_singleton.mp hy]; exact Nat.le_refl _⟩
  | f :: l, g, hl, hp => by
    obtain ⟨p1, p2⟩ := List.pairwise_cons.mp hp
    obtain ⟨p3, p4⟩ := List.pairwise_cons.mp p2
    have b := better_iff h (hl g List.mem_cons_self) (p1 f List.mem_cons_self)
    rw [List.foldl_cons]
    by_cases z : Ks305.better p f g = true
    · have e : pick1 p (some g) f = some f := by
        unfold pick1
        simp only [z, if_true]
      obtain ⟨x, e1, e2, e3⟩ := pick_best h (l := l) (g := f) (fun y hy => hl y (List.mem_cons_of_mem _ hy)) p2
      refine ⟨x, by rw [e]; exact e1, List.mem_cons_of_mem _ e2, fun y hy => ?_⟩
      rcases List.mem_cons.mp hy with hy | hy
      · subst hy
        exact Nat.le_trans (Nat.le_of_lt (b.mp z)) (e3 f List.mem_cons_self)
      · exact e3 y hy
    · have e : pick1 p (some g) f = some g := by
        unfold pick1
        simp only [z]
        rfl
      obtain ⟨x, e1, e2, e3⟩ := pick_best h (l := l) (g := g) (fun y hy => hl y (by
        rcases List.mem_cons.mp hy with hy | hy
        · rw [hy]; exact List.mem_cons_self
        · exact List.mem_cons_of_mem _ (List.mem_cons_of_mem _ hy))) (List.pairwise_cons.mpr ⟨fun y hy => p1 y (List.mem_cons_of_mem _ hy), p4⟩)
      refine ⟨x, by rw [e]; exact e1, ?_, fun y hy => ?_⟩
      · rcases List.mem_cons.mp e2 with q | q
        · rw [q]; exact List.mem_cons_self
        · exact List.mem_cons_of_mem _ (List.mem_cons_of_mem _ q)
      · rcases List.mem_cons.mp hy with hy | hy
        · rw [hy]; exact e3 g List.mem_cons_self
        · rcases List.mem_cons.mp hy with hy | hy
          · rw [hy]
            exact Nat.le_trans (Nat.not_lt.mp fun q => z (b.mpr q)) (e3 g List.mem_cons_self)
          · exact e3 y (List.mem_cons_of_mem _ hy)
/-- the best filling is worth the most -/
theorem best_worthV {p : Plan} {pins : List Nat} (h : p.wishes.length ≤ 32) (hr : p.beds.length ≤ 4) (hp : pins.length ≤ 8) (hx : ∀ x ∈ pins, x ≤ p.beds.length) :
    (Ks305.allowed p pins = [] ∧ Ks305.best p pins = none) ∨ ∃ x, Ks305.best p pins = some x ∧ x ∈ Ks305.allowed p pins ∧ ∀ y ∈ Ks305.allowed p pins, worthV p y ≤ worthV p x := by
  have pw : (Ks305.allowed p pins).Pairwise fun f g => ordW g 8 < ordW f 8 := (all_falls hr hx hp).filter _
  have ln : ∀ f ∈ Ks305.allowed p pins, f.length ≤ 8 := fun f hf => by
    rw [all_length (List.mem_filter.mp hf).1]
    exact hp
  have e : Ks305.best p pins = (Ks305.allowed p pins).foldl (pick1 p) none := rfl
  rw [e]
  cases q : Ks305.allowed p pins with
  | nil => exact .inl ⟨rfl, rfl⟩
  | cons g l =>
    rw [q] at pw ln
    right
    exact pick_best h ln pw
end Rs
end
section
set_option Elab.async false
set_option linter.all false
set_option maxRecDepth 100000
set_option maxHeartbeats 4000000
set_option linter.all false
/-! What each group is worth in each room; the sum over the rooms is what the filling is worth. -/
namespace Rs
open Ks304 (Plan)
/-- of each pupil the group of those who stand second in a pair behind them -/
def pairedL (n : Nat) (l : List (Nat × Nat)) : List Nat := l.foldl (fun gs q => gs.set q.1 (gs.getD q.1 0 ||| 2 ^ q.2)) (List.replicate n 0)
theorem paired_fold : ∀ (l : List (Nat × Nat)) (gs : List Nat), (∀ q ∈ l, q.1 < gs.length) →
    (l.foldl (fun gs q => gs.set q.1 (gs.getD q.1 0 ||| 2 ^ q.2)) gs).length = gs.length ∧ ∀ a b, a < gs.length → ((l.foldl (fun gs q => gs.set q.1 (gs.getD q.1 0 ||| 2 ^ q.2)) gs).getD a 0).testBit b = ((gs.getD a 0).testBit b || decide ((a, b) ∈ l))
  | [], gs, _ => ⟨rfl, fun a b _ => by simp⟩
  | q :: l, gs, h => by
    rw [List.foldl_cons]
    obtain ⟨h1, h2⟩ := paired_fold l (gs.set q.1 (gs.getD q.1 0 ||| 2 ^ q.2)) fun r hr => by rw [List.length_set]; exact h r (List.mem_cons_of_mem _ hr)
    rw [List.length_set] at h1
    refine ⟨h1, fun a b ha => ?_⟩
    rw [h2 a b (by rw [List.length_set]; exact ha), getD_set ha]
    by_cases e : q.1 = a
    · rw [if_pos e, ← e, Nat.testBit_or]
      by_cases e2 : q.2 = b
      · rw [← e2, Nat.testBit_two_pow_self]
        have : (q.1, q.2) ∈ q :: l := List.mem_cons_self
        simp [this]
      · rw [Nat.testBit_two_pow_of_ne e2, Bool.or_false]
        have : ((q.1, b) ∈ q :: l) ↔ (q.1, b) ∈ l := by
          rw [List.mem_cons]
          refine ⟨fun z => z.resolve_left fun y => e2 ?_, .inr⟩
          rw [← y]
        simp only [this]
    · rw [if_neg e]
      have : ((a, b) ∈ q :: l) ↔ (a, b) ∈ l := by
        rw [List.mem_cons]
        refine ⟨fun z => z.resolve_left fun y => e ?_, .inr⟩
        rw [← y]
      simp only [this]
theorem paired_length {n : Nat} {l : List (Nat × Nat)} (h : ∀ q ∈ l, q.1 < n) : (pairedL n l).length = n := by
  have := (paired_fold l (List.replicate n 0) (by simpa using h)).1
  rw [List.length_replicate] at this
  exact this
theorem paired_bit {n : Nat} {l : List (Nat × Nat)} (h : ∀ q ∈ l, q.1 < n) {a b : Nat} (ha : a < n) : ((pairedL n l).getD a 0).testBit b = decide ((a, b) ∈ l) := by
  have := (paired_fold l (List.replicate n 0) (by simpa using h)).2 a b (by simpa using ha)
  unfold pairedL
  rw [this]
  have : (List.replicate n 0).getD a 0 = 0 := by
    rw [List.getD_eq_getElem?_getD, List.getElem?_replicate]
    split <;> rfl
  rw [this]
  simp
/-- a bar is broken in the group -/
def badG (n : Nat) (barred : List Nat) (g : Nat) : Bool := (List.range n).any fun p => g.testBit p && (g &&& barred.getD p 0) != 0
def oneW (wished : List Nat) (g p : Nat) : Int := (pop (g &&& wished.getD p 0) : Int) * 65536 + if (g &&& wished.getD p 0) ≠ 0 ∨ wished.getD p 0 = 0 then 4194304 else 0
def NOT : Int := -1099511627776
def togW (n : Nat) (wished barred : List Nat) (g : Nat) : Int := if badG n barred g then NOT else sumN n fun p => if g.testBit p then oneW wished g p else 0
def ordG (n g : Nat) : Int := sumN n fun p => if g.testBit p then ((4 ^ (7 - p) : Nat) : Int) else 0
def hereG (n : Nat) (pins : List Nat) (r : Nat) : Nat := bitsOf n fun p => pins.getD p 0 == r + 1
def FW (n : Nat) (beds wished barred pins : List Nat) (r g : Nat) : Int :=
  if pop g ≤ beds.getD r 0 ∧ (g &&& hereG n pins r) = hereG n pins r then togW n wished barred g + (3 - (r : Int)) * ordG n g else NOT
theorem oneW_le (wished : List Nat) (g p : Nat) : oneW wished g p ≤ 8388608 := by
  have := pop_le (g &&& wished.getD p 0)
  unfold oneW
  split <;> omega
theorem ordG_le {n : Nat} (h : n ≤ 8) (g : Nat) : 0 ≤ ordG n g ∧ ordG n g ≤ 131072 := by
  unfold ordG
  have b : ∀ j, j < n → (if g.testBit j then ((4 ^ (7 - j) : Nat) : Int) else 0) ≤ 16384 := fun j _ => by
    have : 4 ^ (7 - j) ≤ 4 ^ 7 := Nat.pow_le_pow_right (by decide) (by omega)
    split <;> omega
  have := sumN_le b
  refine ⟨sumN_nonneg fun j _ => ?_, ?_⟩
  · split
    · exact Int.natCast_nonneg _
    · exact Int.le_refl _
  · omega
theorem togW_le {n : Nat} (h : n ≤ 8) (wished barred : List Nat) (g : Nat) : togW n wished barred g ≤ 67108864 := by
  unfold togW
  split
  · unfold NOT; omega
  · have b : ∀ j, j < n → (if g.testBit j then oneW wished g j else 0) ≤ 8388608 := fun j _ => by
      have := oneW_le wished g j
      split <;> omega
    have := sumN_le b
    omega
theorem FW_le {n r : Nat} (h : n ≤ 8) (beds wished barred pins : List Nat) (g : Nat) : FW n beds wished barred pins r g ≤ 134217728 := by
  unfold FW
  split
  · have h1 := togW_le h wished barred g
    have h2 := ordG_le h g
    by_cases e : r ≤ 3
    · have : (3 - (r : Int)) * ordG n g ≤ 3 * ordG n g := Int.mul_le_mul_of_nonneg_right (by omega) h2.1
      omega
    · have : (3 - (r : Int)) * ordG n g ≤ 0 * ordG n g := Int.mul_le_mul_of_nonneg_right (by omega) h2.1
      omega
  · unfold NOT; omega
/-- one of the rooms says no -/
theorem sum_not {R : Nat} (hR : R ≤ 4) {h : Nat → Int} (hu : ∀ i, i < R → h i ≤ 134217728) {k : Nat} (hk : k < R) (hn : h k ≤ -549755813888) : sumN R h < 0 := by
  have e : sumN R h = sumN R (fun i => (if k = i then h k else 0) + if k = i then 0 else h i) := sumN_congr fun i _ => by
    by_cases q : k = i
    · subst q; simp
    · simp [q]
  rw [e, sumN_add, sumN_one (h k) hk]
  have b : ∀ j, j < R → (if k = j then 0 else h j) ≤ (134217728 : Int) := fun j hj => by
    have := hu j hj
    split <;> omega
  have := sumN_le b
  omega
/-! ### wishes and bars of a filling -/
section
variable {p : Plan} {f : List Nat}
/-- who is in the room -/
def inR (n : Nat) (f : List Nat) (i : Nat) : Nat := bitsOf n fun p => f.getD p 0 == i
theorem inR_bit {n i j : Nat} : (inR n f i).testBit j = true ↔ j < n ∧ f.getD j 0 = i := by
  unfold inR
  rw [testBit_bitsOf]
  simp
theorem cnt_inRoom : ∀ (f : List Nat) (i : Nat), cnt f.length (fun p => f.getD p 0 == i) = Ks304.inRoom f i
  | [], i => rfl
  | x :: f, i => by
    rw [show (x :: f).length = f.length + 1 from rfl, cnt_front]
    show (if (x == i) = true then 1 else 0) + cnt f.length (fun p => f.getD p 0 == i) = _
    rw [cnt_inRoom f i]
    unfold Ks304.inRoom
    rw [List.filter_cons]
    split
    · rw [List.length_cons]; omega
    · omega
theorem bad_inR {n i : Nat} {l : List (Nat × Nat)} (hl : ∀ q ∈ l, q.1 < n ∧ q.2 < n) : badG n (pairedL n l) (inR n f i) = true ↔ ∃ q ∈ l, f.getD q.1 0 = i ∧ f.getD q.2 0 = i := by
  unfold badG
  rw [List.any_eq_true]
  constructor
  · rintro ⟨a, ha, h⟩
    rw [List.mem_range] at ha
    rw [Bool.and_eq_true, bne_iff_ne] at h
    obtain ⟨h1, h2⟩ := h
    obtain ⟨b, h3, h4⟩ := and_ne_zero.mp h2
    rw [paired_bit (fun q hq => (hl q hq).1) ha, decide_eq_true_eq] at h4
    exact ⟨_, h4, (inR_bit.mp h1).2, (inR_bit.mp h3).2⟩
  · rintro ⟨q, hq, h1, h2⟩
    obtain ⟨l1, l2⟩ := hl q hq
    refine ⟨q.1, List.mem_range.mpr l1, ?_⟩
    rw [Bool.and_eq_true, bne_iff_ne]
    refine ⟨inR_bit.mpr ⟨l1, h1⟩, and_ne_zero.mpr ⟨q.2, inR_bit.mpr ⟨l2, h2⟩, ?_⟩⟩
    rw [paired_bit (fun q hq => (hl q hq).1) l1]
    exact decide_eq_true hq
theorem cnt_single {n k : Nat} (c : Bool) : ∀ {m : Nat}, k < m → cnt m (fun j => decide (j = k) && c) = if c then 1 else 0
  | 0, h => absurd h (by omega)
  | m + 1, h => by
    rw [cnt_succ]
    by_cases e : m = k
    · subst e
      have z : cnt m (fun j => decide (j = m) && c) = 0 := by
        rw [cnt_congr (Q := fun _ => false) fun j hj => by simp; omega]
        exact cnt_more (n := 0) (Nat.zero_le _) fun _ _ => rfl
      rw [z]
      cases c <;> simp
    · rw [cnt_single (n := n) c (show k < m by omega)]
      simp [e]
theorem cnt_or {P Q : Nat → Bool} : ∀ {n : Nat}, (∀ j, j < n → ¬ (P j = true ∧ Q j = true)) → cnt n (fun j => P j || Q j) = cnt n P + cnt n Q
  | 0, _ => rfl
  | n + 1, h => by
    rw [cnt_succ, cnt_succ, cnt_succ, cnt_or fun j l => h j (by omega)]
    have := h n (by omega)
    cases e1 : P n <;> cases e2 : Q n <;> simp_all <;> omega
/-- how many of p's wishes -/
theorem cnt_wishes {n a : Nat} {P : Nat → Bool} : ∀ {l : List (Nat × Nat)}, l.Nodup → (∀ q ∈ l, q.2 < n) → cnt n (fun b => P b && decide ((a, b) ∈ l)) = (l.filter fun q => q.1 == a && P q.2).length
  | [], _, _ => by
    simp
    exact cnt_more (n := 0) (Nat.zero_le _) fun _ _ => rfl
  | q :: l, hn, hl => by
    obtain ⟨h1, h2⟩ := List.nodup_cons.mp hn
    have ih := cnt_wishes (n := n) (a := a) (P := P) h2 fun r hr => hl r (List.mem_cons_of_mem _ hr)
    have e : cnt n (fun b => P b && decide ((a, b) ∈ q :: l)) = cnt n (fun b => (decide (b = q.2) && (P q.2 && q.1 == a)) || (P b && decide ((a, b) ∈ l))) := by
      refine cnt_congr fun b _ => ?_
      by_cases z : (a, b) = q
      · subst z
        cases P b <;> simp
      · have m : ((a, b) ∈ q :: l) ↔ (a, b) ∈ l := by
          rw [List.mem_cons]
          exact ⟨fun y => y.resolve_left z, .inr⟩
        have m2 : (decide (b = q.2) && (P q.2 && q.1 == a)) = false := by
          by_cases y1 : b = q.2
          · by_cases y2 : q.1 = a
            · exact absurd (Prod.ext y2.symm y1 : (a, b) = q) z
            · simp [y2]
          · simp [y1]
        rw [m2]
        simp only [m, Bool.false_or]
    rw [e, cnt_or, ih, cnt_single (n := n) _ (hl q List.mem_cons_self), List.filter_cons]
    · cases e1 : P q.2 <;> cases e2 : (q.1 == a) <;> simp <;> omega
    · rintro b hb ⟨z1, z2⟩
      simp only [Bool.and_eq_true, decide_eq_true_eq, beq_iff_eq] at z1 z2
      obtain ⟨y1, y2, y3⟩ := z1
      apply h1
      have : q = (a, b) := Prod.ext y3 y1.symm
      rw [this]
      exact z2.2
theorem sum_wishes {n : Nat} {P : Nat × Nat → Bool} : ∀ {l : List (Nat × Nat)}, (∀ q ∈ l, q.1 < n) → sumN n (fun a => ((l.filter fun q => q.1 == a && P q).length : Int)) = ((l.filter P).length : Int)
  | [], _ => by
    simp
    exact sumN_zero n
  | q :: l, h => by
    have ih := sum_wishes (n := n) (P := P) (l := l) fun r hr => h r (List.mem_cons_of_mem _ hr)
    have e : sumN n (fun a => (((q :: l).filter fun q => q.1 == a && P q).length : Int)) = sumN n (fun a => (if q.1 = a then (if P q then (1 : Int) else 0) else 0) + ((l.filter fun q => q.1 == a && P q).length : Int)) := by
      refine sumN_congr fun a _ => ?_
      rw [List.filter_cons]
      by_cases z : q.1 = a <;> cases y : P q <;> simp [z] <;> omega
    rw [e, sumN_add, ih, sumN_one _ (h q List.mem_cons_self), List.filter_cons]
    cases P q <;> simp <;> omega
/-- what is known of a plan and pins -/
structure Ok (p : Plan) (pins : List Nat) : Prop where
  pup : p.pupils ≤ 8
  pin : pins.length = p.pupils
  pinr : ∀ x ∈ pins, x ≤ p.beds.length
  rooms : p.beds.length ≤ 4
  wl : p.wishes.length ≤ 32
  wn : p.wishes.Nodup
  wr : ∀ q ∈ p.wishes, q.1 < p.pupils ∧ q.2 < p.pupils
  br : ∀ q ∈ p.bars, q.1 < p.pupils ∧ q.2 < p.pupils
def FP (p : Plan) (pins : List Nat) : Nat → Nat → Int := FW p.pupils p.beds (pairedL p.pupils p.wishes) (pairedL p.pupils p.bars) pins
def total (p : Plan) (pins f : List Nat) : Int := sumN p.beds.length fun i => FP p pins i (inR p.pupils f i)
theorem here_iff {pins : List Nat} {n i : Nat} (hp : pins.length = n) : (inR n f i &&& hereG n pins i) = hereG n pins i ↔ ∀ j, j < n → pins.getD j 0 = i + 1 → f.getD j 0 = i := by
  rw [and_eq_right]
  constructor
  · intro h j hj e
    have := h j (by unfold hereG; rw [testBit_bitsOf]; simp [hj]; rw [← List.getD_eq_getElem?_getD]; exact e)
    exact (inR_bit.mp this).2
  · intro h j hj
    unfold hereG at hj
    rw [testBit_bitsOf, Bool.and_eq_true, decide_eq_true_eq, beq_iff_eq] at hj
    exact inR_bit.mpr ⟨hj.1, h j hj.1 hj.2⟩
theorem keeps_rooms {pins : List Nat} (o : Ok p pins) (hf : f.length = p.pupils) : Ks306.keepsPins pins f = true ↔ ∀ i, i < p.beds.length → (inR p.pupils f i &&& hereG p.pupils pins i) = hereG p.pupils pins i := by
  rw [keeps_iff (by rw [hf, o.pin])]
  constructor
  · intro h i hi
    rw [here_iff o.pin]
    intro j hj e
    rcases h j (by rw [o.pin]; exact hj) with z | z <;> omega
  · intro h j hj
    rw [o.pin] at hj
    by_cases z : pins.getD j 0 = 0
    · exact .inl z
    · right
      have m : pins.getD j 0 ∈ pins := by
        rw [List.getD_eq_getElem?_getD, List.getElem?_eq_getElem (by rw [o.pin]; exact hj)]
        exact List.getElem_mem _
      have := o.pinr _ m
      have := (here_iff o.pin).mp (h (pins.getD j 0 - 1) (by omega)) j hj (by omega)
      omega
theorem may_rooms {pins : List Nat} (o : Ok p pins) (hf : f.length = p.pupils) (hr : ∀ r ∈ f, r < p.beds.length) :
    Ks304.may p f = true ↔ ∀ i, i < p.beds.length → pop (inR p.pupils f i) ≤ p.beds.getD i 0 ∧ badG p.pupils (pairedL p.pupils p.bars) (inR p.pupils f i) = false := by
  rw [may_iff]
  have pc : ∀ i, pop (inR p.pupils f i) = Ks304.inRoom f i := fun i => by
    unfold inR
    rw [pop_bitsOf o.pup, ← hf, cnt_inRoom]
  constructor
  · rintro ⟨_, _, h3, h4⟩ i hi
    refine ⟨by rw [pc]; exact h3 i hi, ?_⟩
    cases e : badG p.pupils (pairedL p.pupils p.bars) (inR p.pupils f i)
    · rfl
    · obtain ⟨q, hq, e1, e2⟩ := (bad_inR o.br).mp e
      have := h4 q hq
      unfold Ks304.together Ks304.room at this
      rw [e1, e2] at this
      simp at this
  · intro h
    refine ⟨hf, hr, fun r hr => by rw [← pc]; exact (h r hr).1, fun q hq => ?_⟩
    cases e : Ks304.together f q
    · rfl
    · unfold Ks304.together Ks304.room at e
      rw [beq_iff_eq] at e
      have l1 := (o.br q hq).1
      have m : f.getD q.1 0 ∈ f := by
        rw [List.getD_eq_getElem?_getD, List.getElem?_eq_getElem (by rw [hf]; exact l1)]
        exact List.getElem_mem _
      have b := (h _ (hr _ m)).2
      rw [(bad_inR o.br).mpr ⟨q, hq, rfl, e.symm⟩] at b
      cases b
/-- what p is worth -/
theorem one_eq {pins : List Nat} (o : Ok p pins) (hf : f.length = p.pupils) {a : Nat} (ha : a < p.pupils) :
    oneW (pairedL p.pupils p.wishes) (inR p.pupils f (f.getD a 0)) a = ((p.wishes.filter fun q => q.1 == a && Ks304.together f q).length : Int) * 65536 + if Ks304.content p f a then 4194304 else 0 := by
  have wr1 : ∀ q ∈ p.wishes, q.1 < p.pupils := fun q hq => (o.wr q hq).1
  have e1 : pop (inR p.pupils f (f.getD a 0) &&& (pairedL p.pupils p.wishes).getD a 0) = (p.wishes.filter fun q => q.1 == a && Ks304.together f q).length := by
    have e : (inR p.pupils f (f.getD a 0) &&& (pairedL p.pupils p.wishes).getD a 0) = bitsOf p.pupils fun b => (f.getD b 0 == f.getD a 0) && decide ((a, b) ∈ p.wishes) := by
      apply Nat.eq_of_testBit_eq
      intro b
      rw [Nat.testBit_and, paired_bit wr1 ha, testBit_bitsOf]
      unfold inR
      rw [testBit_bitsOf, Bool.and_assoc]
    rw [e, pop_bitsOf o.pup, cnt_wishes o.wn fun q hq => (o.wr q hq).2]
    congr 1
    apply List.filter_congr
    intro q hq
    unfold Ks304.together Ks304.room
    by_cases z : q.1 = a
    · subst z
      simp only [beq_self_eq_true, Bool.true_and]
      exact Bool.beq_comm ..
    · have z' : (q.1 == a) = false := beq_eq_false_iff_ne.mpr z
      rw [z']
      rfl
  have e2 : ((inR p.pupils f (f.getD a 0) &&& (pairedL p.pupils p.wishes).getD a 0) ≠ 0 ∨ (pairedL p.pupils p.wishes).getD a 0 = 0) ↔ Ks304.content p f a = true := by
    unfold Ks304.content
    simp only [Bool.or_eq_true, List.isEmpty_iff, List.any_eq_true]
    constructor
    · rintro (h | h)
      · right
        obtain ⟨b, h1, h2⟩ := and_ne_zero.mp h
        rw [paired_bit wr1 ha, decide_eq_true_eq] at h2
        refine ⟨(a, b), List.mem_filter.mpr ⟨h2, by simp⟩, ?_⟩
        unfold Ks304.together Ks304.room
        rw [beq_iff_eq]
        exact (inR_bit.mp h1).2.symm
      · left
        rw [List.filter_eq_nil_iff]
        intro q hq z
        have y : q.1 = a := by simpa using z
        have := paired_bit wr1 ha (b := q.2)
        rw [h, ← y] at this
        simp at this
        exact this hq
    · rintro (h | ⟨q, hq, h⟩)
      · right
        apply Nat.eq_of_testBit_eq
        intro b
        rw [paired_bit wr1 ha, Nat.zero_testBit, decide_eq_false_iff_not]
        intro m
        have : (a, b) ∈ p.wishes.filter fun q => q.1 == a := List.mem_filter.mpr ⟨m, by simp⟩
        rw [h] at this
        cases this
      · left
        obtain ⟨h1, h2⟩ := List.mem_filter.mp hq
        have h2 : q.1 = a := by simpa using h2
        subst h2
        unfold Ks304.together Ks304.room at h
        rw [beq_iff_eq] at h
        refine and_ne_zero.mpr ⟨q.2, inR_bit.mpr ⟨(o.wr q h1).2, h.symm⟩, ?_⟩
        rw [paired_bit wr1 ha]
        exact decide_eq_true h1
  unfold oneW
  rw [e1]
  congr 1
  by_cases c : Ks304.content p f a = true
  · rw [if_pos (e2.mpr c), if_pos c]
  · rw [if_neg (fun z => c (e2.mp z)), if_neg c]
theorem total_valid {pins : List Nat} (o : Ok p pins) (hm : Ks304.may p f = true) (hk : Ks306.keepsPins pins f = true) : total p pins f = (worthV p f : Int) := by
  obtain ⟨hf, hr, _, _⟩ := may_iff.mp hm
  have h1 := (may_rooms o hf hr).mp hm
  have h2 := (keeps_rooms o hf).mp hk
  have hlt : ∀ j, j < p.pupils → f.getD j 0 < p.beds.length := fun j hj => by
    refine hr _ ?_
    rw [List.getD_eq_getElem?_getD, List.getElem?_eq_getElem (by rw [hf]; exact hj)]
    exact List.getElem_mem _
  have e1 : total p pins f = sumN p.beds.length fun i => sumN p.pupils fun j => if f.getD j 0 = i then oneW (pairedL p.pupils p.wishes) (inR p.pupils f (f.getD j 0)) j + (3 - (f.getD j 0 : Int)) * ((4 ^ (7 - j) : Nat) : Int) else 0 := by
    refine sumN_congr fun i hi => ?_
    unfold FP FW togW
    rw [if_pos ⟨(h1 i hi).1, h2 i hi⟩, if_neg (by rw [(h1 i hi).2]; decide)]
    unfold ordG
    rw [← sumN_mul, ← sumN_add]
    refine sumN_congr fun j hj => ?_
    by_cases z : f.getD j 0 = i
    · have b : (inR p.pupils f i).testBit j = true := inR_bit.mpr ⟨hj, z⟩
      rw [if_pos z, if_pos b, if_pos b, z]
    · have b : (inR p.pupils f i).testBit j = false := by
        cases e : (inR p.pupils f i).testBit j
        · rfl
        · exact absurd (inR_bit.mp e).2 z
      rw [if_neg z]
      simp [b]
  rw [e1, sumN_swap]
  have e2 : sumN p.pupils (fun j => sumN p.beds.length fun i => if f.getD j 0 = i then oneW (pairedL p.pupils p.wishes) (inR p.pupils f (f.getD j 0)) j + (3 - (f.getD j 0 : Int)) * ((4 ^ (7 - j) : Nat) : Int) else 0)
      = sumN p.pupils fun j => (65536 * ((p.wishes.filter fun q => q.1 == j && Ks304.together f q).length : Int) + 4194304 * (if Ks304.content p f j then 1 else 0)) + ((3 - f.getD j 0 : Nat) : Int) * ((4 ^ (8 - 1 - j) : Nat) : Int) := by
    refine sumN_congr fun j hj => ?_
    rw [sumN_one _ (hlt j hj), one_eq o hf hj]
    have l := hlt j hj
    have lr := o.rooms
    congr 1
    · cases Ks304.content p f j <;> simp <;> omega
    · rw [show (3 - f.getD j 0 : Nat) = (3 - (f.getD j 0 : Int) : Int) by omega]
  rw [e2, sumN_add, sumN_add, sumN_mul, sumN_mul, sum_wishes fun q hq => (o.wr q hq).1, sumN_cnt]
  have e3 := ordW_sum (f := f) (w := 8)
  rw [hf] at e3
  rw [e3]
  unfold worthV
  have c1 : Ks304.contents p f = cnt p.pupils (Ks304.content p f) := cnt_filter _ _
  have c2 : Ks304.fulfilled p f = (p.wishes.filter (Ks304.together f)).length := rfl
  rw [c1, c2]
  omega
theorem total_not {pins : List Nat} (o : Ok p pins) (hf : f.length = p.pupils) (hr : ∀ r ∈ f, r < p.beds.length) (h : ¬ (Ks304.may p f = true ∧ Ks306.keepsPins pins f = true)) : total p pins f < 0 := by
  have ex : ∃ i, i < p.beds.length ∧ ¬ ((pop (inR p.pupils f i) ≤ p.beds.getD i 0 ∧ badG p.pupils (pairedL p.pupils p.bars) (inR p.pupils f i) = false) ∧ (inR p.pupils f i &&& hereG p.pupils pins i) = hereG p.pupils pins i) := by
    apply Classical.byContradiction
    intro n
    apply h
    rw [may_rooms o hf hr, keeps_rooms o hf]
    refine ⟨fun i hi => ?_, fun i hi => ?_⟩
    · exact (Classical.byContradiction fun z => n ⟨i, hi, fun y => z y.1⟩)
    · exact (Classical.byContradiction fun z => n ⟨i, hi, fun y => z y.2⟩)
  obtain ⟨i, hi, hn⟩ := ex
  refine sum_not o.rooms (fun i _ => FW_le o.pup _ _ _ _ _) hi ?_
  show FW p.pupils p.beds (pairedL p.pupils p.wishes) (pairedL p.pupils p.bars) pins i (inR p.pupils f i) ≤ _
  unfold FW
  split
  · rename_i z
    have hb : badG p.pupils (pairedL p.pupils p.bars) (inR p.pupils f i) = true := by
      cases e : badG p.pupils (pairedL p.pupils p.bars) (inR p.pupils f i)
      · exact absurd ⟨⟨z.1, e⟩, z.2⟩ hn
      · rfl
    unfold togW
    rw [if_pos hb]
    have h2 := ordG_le o.pup (inR p.pupils f i)
    have : (3 - (i : Int)) * ordG p.pupils (inR p.pupils f i) ≤ 3 * ordG p.pupils (inR p.pupils f i) := Int.mul_le_mul_of_nonneg_right (by omega) h2.1
    unfold NOT
    omega
  · unfold NOT; omega
/-! ### the most of all -/
/-- what best_worth gives -/
def mostW (p : Plan) (pins : List Nat) : Int := Bd p.pupils (FP p pins) (p.beds.length - 1) (2 ^ p.pupils - 1)
theorem total_fun {pins : List Nat} (g : Nat → Nat) (hR : 0 < p.beds.length) : sumN (p.beds.length - 1 + 1) (fun i => FP p pins i (bitsOf p.pupils fun j => true && g j == i)) = total p pins ((List.range p.pupils).map g) := by
  rw [Nat.sub_add_cancel hR]
  refine sumN_congr fun i _ => ?_
  congr 1
  refine bitsOf_congr fun j hj => ?_
  rw [List.getD_eq_getElem?_getD, List.getElem?_map, List.getElem?_range hj]
  simp
theorem most_ub {pins : List Nat} (o : Ok p pins) (hR : 0 < p.beds.length) (hf : f.length = p.pupils) (hr : ∀ r ∈ f, r < p.beds.length) : total p pins f ≤ mostW p pins := by
  have h := Bd_ub (n := p.pupils) (F := FP p pins) (p.beds.length - 1) (fun _ => true) (fun j => f.getD j 0) fun j => by
    by_cases hj : j < f.length
    · have := hr (f.getD j 0) (by rw [List.getD_eq_getElem?_getD, List.getElem?_eq_getElem hj]; exact List.getElem_mem _)
      omega
    · rw [List.getD_eq_getElem?_getD, List.getElem?_eq_none (by omega)]
      exact Nat.zero_le _
  rw [total_fun _ hR, bitsOf_all] at h
  have e : (List.range p.pupils).map (fun j => f.getD j 0) = f := by
    apply List.ext_getElem?
    intro j
    rw [List.getElem?_map]
    by_cases hj : j < p.pupils
    · rw [List.getElem?_range hj, List.getElem?_eq_getElem (by rw [hf]; exact hj)]
      simp
      rw [List.getElem?_eq_getElem (by rw [hf]; exact hj)]
      rfl
    · rw [List.getElem?_eq_none (by rw [List.length_range]; omega), List.getElem?_eq_none (by rw [hf]; omega)]
      rfl
  rw [e] at h
  exact h
theorem most_at {pins : List Nat} (o : Ok p pins) (hR : 0 < p.beds.length) : ∃ f : List Nat, f.length = p.pupils ∧ (∀ r ∈ f, r < p.beds.length) ∧ total p pins f = mostW p pins := by
  obtain ⟨g, hg, e⟩ := Bd_at (n := p.pupils) (F := FP p pins) (p.beds.length - 1) fun _ => true
  rw [total_fun _ hR, bitsOf_all] at e
  refine ⟨_, by simp, fun r hr => ?_, e⟩
  obtain ⟨j, _, rfl⟩ := List.mem_map.mp hr
  have := hg j
  omega
theorem mem_every : ∀ {rooms n : Nat} {f : List Nat}, f.length = n → (∀ r ∈ f, r < rooms) → f ∈ every rooms n
  | rooms, 0, f, h, _ => by
    rw [List.length_eq_zero_iff.mp h]
    exact List.mem_singleton.mpr rfl
  | rooms, n + 1, [], h, _ => by cases h
  | rooms, n + 1, x :: f, h, hr => by
    refine List.mem_flatMap.mpr ⟨x, List.mem_range.mpr (hr x List.mem_cons_self), List.mem_map.mpr ⟨f, mem_every (by simpa using h) fun r hr' => hr r (List.mem_cons_of_mem _ hr'), rfl⟩⟩
theorem mem_allowed {pins : List Nat} (o : Ok p pins) (hm : Ks304.may p f = true) (hk : Ks306.keepsPins pins f = true) : f ∈ Ks305.allowed p pins := by
  obtain ⟨hf, hr, _, _⟩ := may_iff.mp hm
  refine List.mem_filter.mpr ⟨?_, hm⟩
  rw [all_every o.pinr]
  exact List.mem_filter.mpr ⟨mem_every (by rw [hf, o.pin]) hr, hk⟩
/-- the filling that is worth so much -/
def decodeW (m : Int) (n : Nat) : List Nat := (List.range n).map fun j => 3 - (m.toNat / 4 ^ (7 - j) % 4)
theorem decode_worth {pins : List Nat} (o : Ok p pins) (hf : f.length = p.pupils) (hr : ∀ r ∈ f, r < p.beds.length) : decodeW (worthV p f : Int) p.pupils = f := by
  unfold decodeW
  apply List.ext_getElem?
  intro j
  rw [List.getElem?_map]
  by_cases hj : j < p.pupils
  · have hj' : j < f.length := by rw [hf]; exact hj
    have e : worthV p f = 4 ^ 8 * (Ks304.contents p f * 64 + Ks304.fulfilled p f) + ordW f 8 := by
      unfold worthV
      rw [show (4 : Nat) ^ 8 = 65536 from rfl]
      omega
    have d := ordW_digit (f := f) (w := 8) (K := Ks304.contents p f * 64 + Ks304.fulfilled p f) (p := j) (by rw [hf]; exact o.pup) hj'
    rw [← e] at d
    rw [List.getElem?_range hj, Option.map_some, Int.toNat_natCast, d, List.getElem?_eq_getElem hj']
    rw [List.getD_eq_getElem?_getD, List.getElem?_eq_getElem hj']
    have := hr _ (List.getElem_mem hj')
    have := o.rooms
    simp only [Option.getD_some, Option.some.injEq]
    omega
  · rw [List.getElem?_eq_none (by rw [List.length_range]; omega), List.getElem?_eq_none (by rw [hf]; omega)]
    rfl
theorem best_most {pins : List Nat} (o : Ok p pins) (hR : 0 < p.beds.length) : Ks305.best p pins = if mostW p pins < 0 then none else some (decodeW (mostW p pins) p.pupils) := by
  obtain ⟨f, hf, hr, ef⟩ := most_at o hR
  rcases best_worthV (p := p) (pins := pins) o.wl o.rooms (by rw [o.pin]; exact o.pup) o.pinr with ⟨h1, h2⟩ | ⟨x, h1, h2, h3⟩
  · rw [h2, if_pos]
    rw [← ef]
    refine total_not o hf hr fun z => ?_
    have := mem_allowed o z.1 z.2
    rw [h1] at this
    cases this
  · obtain ⟨x1, x2⟩ := best_mem h1
    obtain ⟨xl, xr, _, _⟩ := may_iff.mp x1
    have t1 := total_valid o x1 x2
    have t2 := most_ub o hR xl xr
    have nn : ¬ mostW p pins < 0 := by omega
    have fv : Ks304.may p f = true ∧ Ks306.keepsPins pins f = true := Classical.byContradiction fun z => by
      have := total_not o hf hr z
      omega
    have t3 := total_valid o fv.1 fv.2
    have t4 := h3 f (mem_allowed o fv.1 fv.2)
    have e : mostW p pins = (worthV p x : Int) := by omega
    rw [h1, if_neg nn, e, decode_worth o xl xr]
theorem best_no_rooms {pins : List Nat} (o : Ok p pins) (hR : p.beds.length = 0) (hn : ¬ p.pupils = 0) : Ks305.best p pins = none := by
  rcases best_worthV (p := p) (pins := pins) o.wl o.rooms (by rw [o.pin]; exact o.pup) o.pinr with ⟨h1, h2⟩ | ⟨x, h1, h2, h3⟩
  · exact h2
  · obtain ⟨x1, x2⟩ := best_mem h1
    obtain ⟨xl, xr, _, _⟩ := may_iff.mp x1
    cases x with
    | nil => exact absurd xl.symm hn
    | cons y l =>
      have := xr y List.mem_cons_self
      omega
end
theorem Wf.ok {a : Ks306.Abs} (w : Wf a) : Ok a.plan a.pins := ⟨w.pup, w.pin, w.pinr, w.rooms, w.wl, w.wn, fun q hq => ⟨(w.wr q hq).1, (w.wr q hq).2.1⟩, fun q hq => ⟨Nat.lt_trans (w.br q hq).1 (w.br q hq).2, (w.br q hq).2⟩⟩
end Rs
end
section
set_option Elab.async false
set_option linter.all false
set_option maxRecDepth 100000
set_option maxHeartbeats 4000000
/-! The journey's object: what it looks like between two calls. -/
namespace Rs
open PySem PySem.Spec PyProof.Rows L2
open Ks306 (Abs Call act looked keepsPins put has pairOk)

/-- whole numbers as values -/
def nums (l : List Nat) : List V := l.map fun (x : Nat) => V.int (x : Int)
/-- a pair as a dict's key, told -/
def keyP (q : Nat × Nat) : List Key := [Sum.inl (q.1 : Int), Sum.inl (q.2 : Int)]
def pairK (q : Nat × Nat) : List Key × V := (keyP q, .bl true)
theorem keyP_inj {q r : Nat × Nat} (h : keyP q = keyP r) : q = r := by
  unfold keyP at h
  injection h with h1 h2
  injection h2 with h2 _
  have e1 := Sum.inl.inj h1
  have e2 := Sum.inl.inj h2
  exact Prod.ext (by omega) (by omega)
theorem nums_length (l : List Nat) : (nums l).length = l.length := by unfold nums; rw [List.length_map]
theorem nums_get (l : List Nat) (i : Nat) : (nums l)[i]? = (l[i]?).map fun (x : Nat) => V.int (x : Int) := by unfold nums; rw [List.getElem?_map]
theorem nums_set (l : List Nat) (i v : Nat) : (nums l).set i (.int (v : Int)) = nums (l.set i v) := by unfold nums; rw [List.map_set]
theorem nums_snoc (l : List Nat) (v : Nat) : nums l ++ [.int (v : Int)] = nums (l ++ [v]) := by unfold nums; rw [List.map_append]; rfl

/-! ### the attributes -/
def flds (n : Int) (r w b q : Addr) (fv : V) : List (Str × V) := [("pupils", .int n), ("rooms", .ref r), ("wishes", .ref w), ("bars", .ref b), ("pins", .ref q), ("filling", fv)]
section
variable (n : Int) (r w b q : Addr) (fv : V)
theorem f_pupils : (flds n r w b q fv).lookup ("pupils" : Str) = some (.int n) := by rfl
theorem f_rooms : (flds n r w b q fv).lookup ("rooms" : Str) = some (.ref r) := by rfl
theorem f_wishes : (flds n r w b q fv).lookup ("wishes" : Str) = some (.ref w) := by rfl
theorem f_bars : (flds n r w b q fv).lookup ("bars" : Str) = some (.ref b) := by rfl
theorem f_pins : (flds n r w b q fv).lookup ("pins" : Str) = some (.ref q) := by rfl
theorem f_filling : (flds n r w b q fv).lookup ("filling" : Str) = some fv := by rfl
end
/-- where the journey's things lie -/
structure J where
  r : Addr
  w : Addr
  b : Addr
  q : Addr
  f : Option Addr
/-- the addresses that are its own -/
def J.own (j : J) (p : Addr) : List Addr := p :: j.r :: j.w :: j.b :: j.q :: j.f.toList
def J.fv (j : J) : V := match j.f with
  | none => .non
  | some a => .ref a
structure JAt (C : Addr) (H : Hp) (p : Addr) (j : J) (a : Abs) : Prop where
  ob : ∃ dx, H p = some (.ins C dx (flds (a.plan.pupils : Int) j.r j.w j.b j.q j.fv))
  rooms : H j.r = some (.lst (nums a.plan.beds))
  wishes : H j.w = some (.dT (a.plan.wishes.map pairK))
  bars : H j.b = some (.dT (a.plan.bars.map pairK))
  pins : H j.q = some (.lst (nums a.pins))
  fil : match j.f, a.filling with
    | none, none => True
    | some x, some f => H x = some (.lst (nums f))
    | _, _ => False
  nd : (j.own p).Nodup
  wf : Wf a
/-- what else was there stays; what the journey owns behind is its own ahead, or new -/
structure Fr (H H' : Hp) (p : Addr) (j j' : J) : Prop where
  kept : ∀ c o, H c = some o → ¬ c ∈ j.own p → H' c = some o
  new : ∀ c, c ∈ j'.own p → c ∈ j.own p ∨ H c = none
theorem Fr.refl (H : Hp) (p : Addr) (j : J) : Fr H H p j j := ⟨fun _ _ h _ => h, fun _ h => .inl h⟩
theorem Fr.trans {H H1 H2 : Hp} {p : Addr} {j j1 j2 : J} (a : Fr H H1 p j j1) (b : Fr H1 H2 p j1 j2) : Fr H H2 p j j2 := by
  refine ⟨fun c o h n => ?_, fun c h => ?_⟩
  · refine b.kept c o (a.kept c o h n) fun m => ?_
    rcases a.new c m with z | z
    · exact n z
    · rw [z] at h; cases h
  · rcases b.new c h with z | z
    · exact a.new c z
    · by_cases m : c ∈ j.own p
      · exact .inl m
      · refine .inr ?_
        cases q : H c with
        | none => rfl
        | some o => rw [a.kept c o q m] at z; cases z
end Rs
namespace Rs
open PySem PySem.Spec PyProof.Rows L2
end Rs
namespace Rs
open PySem PySem.Spec PyProof.Rows L2
end Rs
namespace Rs
open PySem PySem.Spec PyProof.Rows L2
open Ks306 (Abs Call act looked keepsPins put has pairOk)
theorem upd_at {H : Hp} {a b : Addr} {o : HO} : upd H a o b = if b = a then some o else H b := rfl
/-! ### the journey's addresses differ -/
section
variable {C p : Addr} {H : Hp} {j : J} {a : Abs}
structure Apart (p : Addr) (j : J) : Prop where
  pr : p ≠ j.r
  pw : p ≠ j.w
  pb : p ≠ j.b
  pq : p ≠ j.q
  rw : j.r ≠ j.w
  rb : j.r ≠ j.b
  rq : j.r ≠ j.q
  wb : j.w ≠ j.b
  wq : j.w ≠ j.q
  bq : j.b ≠ j.q
theorem JAt.apart (A : JAt C H p j a) : Apart p j := by
  have h := A.nd
  unfold J.own at h
  simp only [List.nodup_cons, List.mem_cons, not_or] at h
  obtain ⟨⟨h1, h2, h3, h4, _⟩, ⟨h5, h6, h7, _⟩, ⟨h8, h9, _⟩, ⟨h10, _⟩, _⟩ := h
  exact ⟨h1, h2, h3, h4, h5, h6, h7, h8, h9, h10⟩
theorem JAt.fne (A : JAt C H p j a) {x : Addr} (hx : j.f = some x) : x ≠ p ∧ x ≠ j.r ∧ x ≠ j.w ∧ x ≠ j.b ∧ x ≠ j.q := by
  have h := A.nd
  unfold J.own at h
  rw [hx] at h
  simp only [List.nodup_cons, List.mem_cons, not_or, Option.toList_some, List.mem_singleton] at h
  obtain ⟨⟨_, _, _, _, h1, _⟩, ⟨_, _, _, h2, _⟩, ⟨_, _, h3, _⟩, ⟨_, h4, _⟩, ⟨h5, _⟩, _⟩ := h
  exact ⟨Ne.symm h1, Ne.symm h2, Ne.symm h3, Ne.symm h4, Ne.symm h5⟩
/-- the filling's own address, if there is one, is untouched by a change elsewhere -/
theorem JAt.fil_keep (A : JAt C H p j a) {H' : Hp} (k : ∀ x, j.f = some x → H' x = H x) : match j.f, a.filling with
    | none, none => True
    | some x, some f => H' x = some (.lst (nums f))
    | _, _ => False := by
  have z := A.fil
  revert z k
  cases j.f <;> cases a.filling <;> intro k z
  · trivial
  · exact z
  · exact z
  · rename_i x f
    show H' x = _
    rw [k x rfl]
    exact z
theorem fr_upd {c : Addr} {o : HO} (h : c ∈ j.own p) : Fr H (upd H c o) p j j := ⟨fun d u e n => (upd_ne fun (z : d = c) => n (by rw [z]; exact h)).trans e, fun _ m => .inl m⟩
theorem own_r : j.r ∈ j.own p := by unfold J.own; simp
theorem own_w : j.w ∈ j.own p := by unfold J.own; simp
theorem own_b : j.b ∈ j.own p := by unfold J.own; simp
theorem own_q : j.q ∈ j.own p := by unfold J.own; simp
theorem own_p : p ∈ j.own p := by unfold J.own; simp
theorem JAt.setRooms (A : JAt C H p j a) {l : List Nat} (w : Wf { a with plan := { a.plan with beds := l } }) : JAt C (upd H j.r (.lst (nums l))) p j { a with plan := { a.plan with beds := l } } := by
  have D := A.apart
  obtain ⟨dx, hp⟩ := A.ob
  exact ⟨⟨dx, by rw [upd_ne D.pr]; exact hp⟩, upd_same, by rw [upd_ne D.rw.symm]; exact A.wishes, by rw [upd_ne D.rb.symm]; exact A.bars, by rw [upd_ne D.rq.symm]; exact A.pins, A.fil_keep fun x hx => upd_ne (A.fne hx).2.1, A.nd, w⟩
theorem JAt.setWishes (A : JAt C H p j a) {l : List (Nat × Nat)} (w : Wf { a with plan := { a.plan with wishes := l } }) : JAt C (upd H j.w (.dT (l.map pairK))) p j { a with plan := { a.plan with wishes := l } } := by
  have D := A.apart
  obtain ⟨dx, hp⟩ := A.ob
  exact ⟨⟨dx, by rw [upd_ne D.pw]; exact hp⟩, by rw [upd_ne D.rw]; exact A.rooms, upd_same, by rw [upd_ne D.wb.symm]; exact A.bars, by rw [upd_ne D.wq.symm]; exact A.pins, A.fil_keep fun x hx => upd_ne (A.fne hx).2.2.1, A.nd, w⟩
/-- a heap that has all that was there -/
theorem JAt.same (A : JAt C H p j a) {H' : Hp} (s : ∀ c o, H c = some o → H' c = some o) : JAt C H' p j a := by
  obtain ⟨dx, hp⟩ := A.ob
  refine ⟨⟨dx, s _ _ hp⟩, s _ _ A.rooms, s _ _ A.wishes, s _ _ A.bars, s _ _ A.pins, ?_, A.nd, A.wf⟩
  have z := A.fil
  revert z
  cases j.f <;> cases a.filling <;> intro z
  · trivial
  · exact z
  · exact z
  · exact s _ _ z
end
/-! ### a dict of pairs -/
theorem valV_pairs (q : Nat × Nat) : ∀ l : List (Nat × Nat), valV (l.map pairK) (keyP q) = if q ∈ l then some (.bl true) else none
  | [] => rfl
  | x :: l => by
    rw [List.map_cons]
    by_cases e : x = q
    · subst e
      rw [if_pos List.mem_cons_self]
      exact valV_pos (p := pairK x) rfl
    · rw [valV_neg (p := pairK x) (fun z => e (keyP_inj z)), valV_pairs q l]
      have : (q ∈ x :: l) ↔ q ∈ l := ⟨fun h => (List.mem_cons.mp h).resolve_left fun z => e z.symm, fun h => List.mem_cons_of_mem _ h⟩
      by_cases m : q ∈ l
      · rw [if_pos m, if_pos (this.mpr m)]
      · rw [if_neg m, if_neg fun z => m (this.mp z)]
theorem putK_pairs {q : Nat × Nat} {l : List (Nat × Nat)} (h : ¬ q ∈ l) : putK (l.map pairK) (keyP q) (.bl true) = (l ++ [q]).map pairK := by
  rw [putK_new _ (by rw [valV_pairs, if_neg h]), List.map_append]
  rfl
theorem dropK_pairs (q : Nat × Nat) : ∀ l : List (Nat × Nat), dropK (l.map pairK) (keyP q) = (l.filter fun x => decide (x ≠ q)).map pairK
  | [] => rfl
  | x :: l => by
    rw [List.map_cons, List.filter_cons]
    by_cases e : x = q
    · subst e
      rw [dropK_pos (p := pairK x) (k := keyP x) rfl, dropK_pairs x l, if_neg (by simp)]
    · rw [dropK_neg (p := pairK x) (fun z => e (keyP_inj z)), dropK_pairs q l, if_pos (by simp [e]), List.map_cons]
end Rs
namespace Rs
open PySem PySem.Spec PyProof.Rows L2
open Ks306 (Abs Call act looked keepsPins put has pairOk)
/-- a call that changes nothing -/
theorem stays {C p : Addr} {H : Hp} {j : J} {a : Abs} {c : Call} {v : Int} {Q : VK} (e : act a c = (a, Ks306.no v)) (A : JAt C H p j a) (k : ∀ H' j', JAt C H' p j' (act a c).1 → Fr H H' p j j' → Q (.int (act a c).2.ret) H') : Q (.int v) H := by
  have z := k H j (by rw [e]; exact A) (Fr.refl H p j)
  rw [e] at z
  exact z
/-- a call that changes the heap -/
theorem goes {C p : Addr} {H H' : Hp} {j j' : J} {a b : Abs} {c : Call} {v : Int} {Q : VK} (e : act a c = (b, Ks306.no v)) (A : JAt C H' p j' b) (f : Fr H H' p j j') (k : ∀ H' j', JAt C H' p j' (act a c).1 → Fr H H' p j j' → Q (.int (act a c).2.ret) H') : Q (.int v) H' := by
  have z := k H' j' (by rw [e]; exact A) f
  rw [e] at z
  exact z
end Rs
namespace Rs
open PySem PySem.Spec PyProof.Rows L2
open Ks306 (Abs Call act looked keepsPins put has pairOk)
/-- all that is its own stands there -/
theorem JAt.tracked {C p : Addr} {H : Hp} {j : J} {a : Abs} (A : JAt C H p j a) {c : Addr} (m : c ∈ j.own p) : ∃ o, H c = some o := by
  obtain ⟨dx, hp⟩ := A.ob
  have fl := A.fil
  simp only [J.own, List.mem_cons] at m
  rcases m with rfl | rfl | rfl | rfl | rfl | m
  · exact ⟨_, hp⟩
  · exact ⟨_, A.rooms⟩
  · exact ⟨_, A.wishes⟩
  · exact ⟨_, A.bars⟩
  · exact ⟨_, A.pins⟩
  · cases ef : j.f with
    | none => rw [ef] at m; cases m
    | some x =>
      rw [ef] at m fl
      have e : c = x := by simpa using m
      subst e
      cases eg : a.filling with
      | none => rw [eg] at fl; exact fl.elim
      | some f => rw [eg] at fl; exact ⟨_, fl⟩
/-- a heap that has its things as they were -/
theorem JAt.keep {C p : Addr} {H H' : Hp} {j : J} {a : Abs} (A : JAt C H p j a) (s : ∀ c o, c ∈ j.own p → H c = some o → H' c = some o) : JAt C H' p j a := by
  obtain ⟨dx, hp⟩ := A.ob
  refine ⟨⟨dx, s _ _ own_p hp⟩, s _ _ own_r A.rooms, s _ _ own_w A.wishes, s _ _ own_b A.bars, s _ _ own_q A.pins, ?_, A.nd, A.wf⟩
  have z := A.fil
  have mem : ∀ x, j.f = some x → x ∈ j.own p := fun x e => by unfold J.own; rw [e]; simp
  revert z mem
  cases j.f <;> cases a.filling <;> intro z mem
  · trivial
  · exact z
  · exact z
  · exact s _ _ (mem _ rfl) z
end Rs
end
section
set_option Elab.async false
set_option linter.all false
set_option maxRecDepth 100000
set_option maxHeartbeats 4000000
/-! What the walks over fillings ask of lists, apart from the program. -/
namespace Rs
open PySem PySem.Spec PyProof.Rows L2
open Ks306 (Abs Call act looked keepsPins put has pairOk there)
theorem nums_ints (l : List Nat) : nums l = (l.map fun (x : Nat) => (x : Int)).map V.int := by
  unfold nums
  rw [List.map_map]
  rfl
theorem nums_at {l : List Nat} {i : Nat} (h : i < l.length) : (nums l)[i]? = some (.int (l.getD i 0 : Nat)) := by
  rw [nums_get, List.getElem?_eq_getElem h, List.getD_eq_getElem?_getD, List.getElem?_eq_getElem h]
  rfl
theorem nums_atI {l : List Nat} {i : Nat} (h : i < l.length) : atI (nums l) (i : Int) = some (.int (l.getD i 0 : Nat)) := atI_nat (nums_at h)
def intsV (l : List Int) : List V := l.map V.int
theorem intsV_at {l : List Int} {i : Nat} (h : i < l.length) : (intsV l)[i]? = some (.int (l.getD i 0)) := by
  unfold intsV
  rw [List.getElem?_map, List.getElem?_eq_getElem h, List.getD_eq_getElem?_getD, List.getElem?_eq_getElem h]
  rfl
theorem intsV_atI {l : List Int} {i : Nat} (h : i < l.length) : atI (intsV l) (i : Int) = some (.int (l.getD i 0)) := atI_nat (intsV_at h)
theorem intsV_length (l : List Int) : (intsV l).length = l.length := by unfold intsV; rw [List.length_map]
theorem zeros (n : Nat) : (List.replicate ((n : Int)).toNat [V.int 0]).flatten = nums (List.replicate n 0) := by
  rw [Int.toNat_natCast]
  induction n with
  | zero => rfl
  | succ n ih => rw [List.replicate_succ, List.flatten_cons, ih, List.replicate_succ]; rfl
/-! ### a new list, behind i turns -/
section
variable {H1 H H' : Hp} {D : Addr} {i : Nat} {y : V}
/-- one thing a turn -/
theorem Grow.one {h : Nat → V} (hD : H1 D = none) (g : Grow H1 D (fun i => (List.range i).map h) i H) (s : Same H H') (e : h i = y) (hz : i ≤ 65536) :
    ∃ acc, H' D = some (.lst acc) ∧ acc.length < sizeLine ∧ Grow H1 D (fun i => (List.range i).map h) (i + 1) (upd H' D (.lst (acc ++ [y]))) :=
  L2.Grow.put hD g s (by show (List.range (i + 1)).map h = (List.range i).map h ++ [y]; rw [List.range_succ, List.map_append, ← e]; rfl) (by show ((List.range i).map h).length < sizeLine; rw [List.length_map, List.length_range, sizeLine_eq]; omega)
/-- where P holds -/
theorem Grow.yes {P : Nat → Bool} {h : Nat → V} (hD : H1 D = none) (g : Grow H1 D (fun i => ((List.range i).filter P).map h) i H) (s : Same H H') (p : P i = true) (e : h i = y) (hz : i ≤ 65536) :
    ∃ acc, H' D = some (.lst acc) ∧ acc.length < sizeLine ∧ Grow H1 D (fun i => ((List.range i).filter P).map h) (i + 1) (upd H' D (.lst (acc ++ [y]))) :=
  L2.Grow.put hD g s (by show ((List.range (i + 1)).filter P).map h = ((List.range i).filter P).map h ++ [y]; rw [List.range_succ, List.filter_append, List.map_append, ← e]; simp [p])
    (by
      show (((List.range i).filter P).map h).length < sizeLine
      have := List.length_filter_le P (List.range i)
      rw [List.length_range] at this
      rw [List.length_map, sizeLine_eq]; omega)
theorem Grow.no {P : Nat → Bool} {h : Nat → V} (g : Grow H1 D (fun i => ((List.range i).filter P).map h) i H) (s : Same H H') (p : P i = false) : Grow H1 D (fun i => ((List.range i).filter P).map h) (i + 1) H' :=
  L2.Grow.skip g s (by show ((List.range (i + 1)).filter P).map h = ((List.range i).filter P).map h; rw [List.range_succ, List.filter_append, List.map_append]; simp [p])
theorem Same.unlock {d : Addr} {od : Obj} {u : HO} (h : H d = some u) (s : Same (upd H d (.frz od u)) H') : Same H (upd H' d u) := fun b o z => by
  by_cases e : b = d
  · subst e
    rw [upd_same, ← h]; exact z
  · rw [upd_ne e]
    exact s b o (by rw [upd_ne e]; exact z)
end
theorem cnt_list {α : Type} (p : α → Bool) (d : α) : ∀ l : List α, cnt l.length (fun i => p (l.getD i d)) = (l.filter p).length
  | [] => rfl
  | x :: l => by
    rw [show (x :: l).length = l.length + 1 from rfl, cnt_front]
    show (if p x = true then 1 else 0) + cnt l.length (fun i => p (l.getD i d)) = _
    rw [cnt_list p d l, List.filter_cons]
    split
    · rw [List.length_cons]; omega
    · omega
/-! ### keeps_to_pins -/
def keepB (P F : List Nat) (j : Nat) : Bool := P.getD j 0 == 0 || P.getD j 0 == F.getD j 0 + 1
theorem keeps_range {P F : List Nat} (h : F.length = P.length) : ((List.range P.length).map (keepB P F)).all id = keepsPins P F := by
  rw [Bool.eq_iff_iff, keeps_iff h, List.all_eq_true]
  constructor
  · intro z i hi
    have := z (keepB P F i) (List.mem_map.mpr ⟨i, List.mem_range.mpr hi, rfl⟩)
    unfold keepB at this
    rw [id, Bool.or_eq_true, beq_iff_eq, beq_iff_eq] at this
    exact this
  · intro z x hx
    obtain ⟨i, hi, rfl⟩ := List.mem_map.mp hx
    have := z i (List.mem_range.mp hi)
    unfold keepB
    rw [id, Bool.or_eq_true, beq_iff_eq, beq_iff_eq]
    exact this
/-! ### is_too_full -/
def fullB (B F : List Nat) (r : Nat) : Bool := decide (B.getD r 0 < Ks304.inRoom F r)
theorem full_range {p : Ks304.Plan} {F : List Nat} : ((List.range p.beds.length).map (fullB p.beds F)).any id = (Ks304.tooFull p F).isSome := by
  rw [Bool.eq_iff_iff, tooFull_some, List.any_eq_true]
  constructor
  · rintro ⟨x, hx, e⟩
    obtain ⟨i, hi, rfl⟩ := List.mem_map.mp hx
    exact ⟨i, List.mem_range.mp hi, of_decide_eq_true e⟩
  · rintro ⟨r, h1, h2⟩
    exact ⟨_, List.mem_map.mpr ⟨r, List.mem_range.mpr h1, rfl⟩, decide_eq_true h2⟩
theorem count_inRoom (F : List Nat) (r : Nat) : (F.map fun (x : Nat) => (x : Int)).count (r : Int) = Ks304.inRoom F r := by
  unfold Ks304.inRoom
  induction F with
  | nil => rfl
  | cons x F ih =>
    rw [List.map_cons, List.count_cons, ih, List.filter_cons]
    by_cases e : x = r
    · subst e; simp
    · have : ¬ (x : Int) = (r : Int) := by omega
      simp [e, this]
/-! ### count_content -/
/-- what the dict says of a, behind the pairs l -/
def ful (F : List Nat) (l : List (Nat × Nat)) (a : Nat) : Option Bool := if (l.filter fun q => q.1 == a).isEmpty then none else some ((l.filter fun q => q.1 == a).any (Ks304.together F))
theorem ful_snoc (F : List Nat) (l : List (Nat × Nat)) (q : Nat × Nat) (a : Nat) : ful F (l ++ [q]) a = if a = q.1 then some ((ful F l a).getD false || Ks304.together F q) else ful F l a := by
  unfold ful
  rw [List.filter_append]
  by_cases e : a = q.1
  · subst e
    simp only [List.filter_cons, List.filter_nil, beq_self_eq_true, if_true]
    cases h : l.filter fun x => x.1 == q.1 with
    | nil => simp
    | cons x r => simp [Bool.or_assoc]
  · have e2 : [q].filter (fun q => q.1 == a) = [] := by
      rw [List.filter_cons, beq_eq_false_iff_ne.mpr (Ne.symm e)]
      rfl
    rw [e2, List.append_nil, if_neg e]
theorem content_ful (p : Ks304.Plan) (F : List Nat) (a : Nat) : Ks304.content p F a = (ful F p.wishes a).getD true := by
  unfold Ks304.content ful
  cases h : p.wishes.filter fun q => q.1 == a with
  | nil => simp
  | cons x r => simp
end Rs
end
section
set_option Elab.async false
set_option linter.all false
set_option maxRecDepth 100000
set_option maxHeartbeats 4000000
/-! Each call of the journey. -/
namespace Rs
open PySem PySem.Spec PyProof.Rows L2
open Ks306 (Abs Call act looked keepsPins put has pairOk there)
section
variable {P : Program} {w : World} {K : PySem.W.Frag} {mg : Str → Option Value} {base : Heap} {C : Addr}
/-- pair_refusal: a refusal, or 0 -/
def refusal (a : Abs) (x y on : Nat) : Int := if a.plan.pupils = 0 then -61 else if pairOk a x y on = false then -22 else 0
def sp_pair_refusal (C : Addr) : Sp := fun vs H Q _ => ∃ (p : Addr) (j : J) (a : Abs) (x y on : Nat), vs = [.ref p, .int x, .int y, .int on] ∧ JAt C H p j a ∧ Q (.int (refusal a x y on)) H
theorem ok_pair_refusal (M : MFun K C "pair_refusal" "Journey.pair_refusal" s_pair_refusal ["self", "a", "b", "on"]) (T : Txt K mg C) : MOk P w K mg base C 1 "pair_refusal" ["self", "a", "b", "on"] (sp_pair_refusal C) := by
  obtain ⟨f, fd, F, hb, hm⟩ := M
  refine ⟨f, fd, hm, F.ok sc_pair_refusal (fun vs H Q E h => ?_) (fun cdv A outer s H vs Q E hr h => ?_), hb⟩
  · obtain ⟨p, j, a, x, y, on, rfl, _⟩ := h
    rfl
  · obtain ⟨p, j, a, x, y, on, rfl, J, k⟩ := h
    obtain ⟨dx, hp⟩ := J.ob
    refine ⟨_, (pss_cons (ps_if (pt_cmpR op_eq (pe_fld (pv 0) rfl) pe_int (nomark _)) (pss_one (ps_ret (pe_globI T.c_NO_PLAN))) pss_nil)
  (pss_cons (ps_if (PW.pt (pw_or (pt_cmpR op_ge (pv 1) (pe_fld (pv 0) rfl) (nomark _)) (pw_or (pt_cmpR op_ge (pv 2) (pe_fld (pv 0) rfl) (nomark _)) (pw_or (pt_cmpR op_eq (pv 1) (pv 2) (nomark _)) (pw_or1 (pt_cmpR op_gt (pv 3) pe_int (nomark _))))))) (pss_one (ps_ret (pe_globI T.c_OUT_OF_RANGE))) pss_nil)
  (pss_one (ps_ret pe_int)))), ?_⟩
    refine ⟨_, rfl, p, C, dx, _, _, rfl, hp, T.cl, T.n_pupils, f_pupils _ _ _ _ _ _, rfl, _, rfl, ?_⟩
    unfold refusal at k
    refine ite2 (fun c => ?_) (fun c => ?_)
    · have c := of_decide_eq_true c
      injection c with c
      rw [if_pos (by omega)] at k
      exact k
    · rw [if_neg fun z => c (decide_eq_true (by rw [z]; rfl))] at k
      have no : ¬ (x < a.plan.pupils ∧ y < a.plan.pupils ∧ x ≠ y ∧ on ≤ 1) → Q (.int (-22)) H := fun z => by
        rw [if_pos (by
          unfold pairOk
          cases e : (decide (x < a.plan.pupils) && decide (y < a.plan.pupils) && x != y && decide (on ≤ 1))
          · rfl
          · simp only [Bool.and_eq_true, decide_eq_true_eq, bne_iff_ne] at e
            exact absurd ⟨e.1.1.1, e.1.1.2, e.1.2, e.2⟩ z)] at k
        exact k
      refine ⟨_, rfl, _, rfl, p, C, dx, _, _, rfl, hp, T.cl, T.n_pupils, f_pupils _ _ _ _ _ _, _, _, rfl, rfl, _, rfl, ?_⟩
      refine ite2 (fun c1 => ?_) (fun c1 => ?_)
      · have c1 := of_decide_eq_true c1
        exact iteT (no fun z => by omega)
      · have c1 : x < a.plan.pupils := by
          have : ¬ (a.plan.pupils : Int) ≤ (x : Int) := fun z => c1 (decide_eq_true z)
          omega
        refine ⟨_, rfl, _, rfl, p, C, dx, _, _, rfl, hp, T.cl, T.n_pupils, f_pupils _ _ _ _ _ _, _, _, rfl, rfl, _, rfl, ?_⟩
        refine ite2 (fun c2 => ?_) (fun c2 => ?_)
        · have c2 := of_decide_eq_true c2
          exact iteT (no fun z => by omega)
        · have c2 : y < a.plan.pupils := by
            have : ¬ (a.plan.pupils : Int) ≤ (y : Int) := fun z => c2 (decide_eq_true z)
            omega
          refine ⟨_, rfl, _, rfl, rfl, _, rfl, ?_⟩
          refine ite2 (fun c3 => ?_) (fun c3 => ?_)
          · have c3 := of_decide_eq_true c3
            injection c3 with c3
            exact iteT (no fun z => by omega)
          · have c3 : x ≠ y := fun z => c3 (decide_eq_true (by rw [z]))
            refine ⟨_, rfl, _, _, rfl, rfl, _, rfl, ?_⟩
            refine ite2 (fun c4 => ?_) (fun c4 => ?_)
            · have c4 := of_decide_eq_true c4
              exact no fun z => by omega
            · have c4 : on ≤ 1 := by
                have : ¬ (1 : Int) < (on : Int) := fun z => c4 (decide_eq_true z)
                omega
              rw [if_neg (by unfold pairOk; simp [c1, c2, c3, c4])] at k
              exact k
/-- a call of one number -/
def sp1 (C : Addr) (c : Nat → Call) : Sp := fun vs H Q _ => ∃ (p : Addr) (j : J) (a : Abs) (x : Nat), vs = [.ref p, .int x] ∧ JAt C H p j a ∧ ∀ H' j', JAt C H' p j' (act a (c x)).1 → Fr H H' p j j' → Q (.int (act a (c x)).2.ret) H'
theorem ok_room (M : MFun K C "room" "Journey.room" s_room ["self", "beds"]) (T : Txt K mg C) : MOk P w K mg base C 1 "room" ["self", "beds"] (sp1 C Call.room) := by
  obtain ⟨f, fd, F, hb, hm⟩ := M
  refine ⟨f, fd, hm, F.ok sc_room (fun vs H Q E h => ?_) (fun cdv A outer s H vs Q E hr h => ?_), hb⟩
  · obtain ⟨p, j, a, x, rfl, _⟩ := h
    rfl
  · obtain ⟨p, j, a, x, rfl, J, k⟩ := h
    obtain ⟨dx, hp⟩ := J.ob
    have hz : a.plan.beds.length < sizeLine := Nat.lt_of_le_of_lt J.wf.rooms (by decide)
    refine ⟨_, (pss_cons (ps_if (pt_cmpR op_eq (pe_fld (pv 0) rfl) pe_int (nomark _)) (pss_one (ps_ret (pe_globI T.c_NO_PLAN))) pss_nil)
  (pss_cons (ps_if (pt_cmpR op_gt (pv 1) (pe_globI T.c_MOST_BEDS) (nomark _)) (pss_one (ps_ret (pe_globI T.c_OUT_OF_RANGE))) pss_nil)
  (pss_cons (ps_if (pt_cmpR op_ge (pe_callB call_lenL (by rfl) T.len PySem.boot_len (pa_cons (pe_fld (pv 0) rfl) pa_nil)) (pe_globI T.c_MOST_ROOMS) (nomark _)) (pss_one (ps_ret (pe_globI T.c_NO_PLACE_LEFT))) pss_nil)
  (pss_cons (ps_expr (pe_bm PySem.F.plainAttrs_list PySem.F.slot_list_append PySem.F.type_list_append mt_append (pe_fld (pv 0) rfl) (pa_cons (pv 1) pa_nil)))
  (pss_one (ps_ret (pe_op op_sub (pe_callB call_lenL (by rfl) T.len PySem.boot_len (pa_cons (pe_fld (pv 0) rfl) pa_nil)) pe_int))))))), ?_⟩
    refine ⟨_, rfl, p, C, dx, _, _, rfl, hp, T.cl, T.n_pupils, f_pupils _ _ _ _ _ _, rfl, _, rfl, ?_⟩
    refine ite2 (fun c => ?_) (fun c => ?_)
    · have c := of_decide_eq_true c
      injection c with c
      exact stays (by simp only [act]; exact if_pos (on_false.mpr (by omega))) J k
    · have h1 : ¬ a.plan.pupils = 0 := fun z => c (decide_eq_true (by rw [z]; rfl))
      have on : ¬ a.on = false := fun z => h1 (on_false.mp z)
      refine ⟨_, rfl, _, _, rfl, rfl, _, rfl, ?_⟩
      refine ite2 (fun c2 => ?_) (fun c2 => ?_)
      · have c2 := of_decide_eq_true c2
        exact stays (by simp only [act]; rw [if_neg on]; exact if_pos (by show 8 < x; omega)) J k
      · have h2 : ¬ 8 < x := fun z => c2 (decide_eq_true (by omega))
        refine ⟨_, rfl, p, C, dx, _, _, rfl, hp, T.cl, T.n_rooms, f_rooms _ _ _ _ _ _, j.r, _, rfl, J.rooms, _, _, rfl, rfl, _, rfl, ?_⟩
        rw [nums_length]
        refine ite2 (fun c3 => ?_) (fun c3 => ?_)
        · have c3 := of_decide_eq_true c3
          exact stays (by simp only [act]; rw [if_neg on, if_neg (by show ¬ 8 < x; exact h2)]; exact if_pos (by show 4 ≤ a.plan.beds.length; omega)) J k
        · have h3 : ¬ 4 ≤ a.plan.beds.length := fun z => c3 (decide_eq_true (by omega))
          have e : act a (.room x) = ({ a with plan := { a.plan with beds := a.plan.beds ++ [x] } }, Ks306.no a.plan.beds.length) := by
            simp only [act]
            rw [if_neg on, if_neg (by show ¬ 8 < x; exact h2), if_neg (by show ¬ 4 ≤ a.plan.beds.length; exact h3)]
          refine ⟨_, rfl, p, C, dx, _, _, rfl, hp, T.cl, T.n_rooms, f_rooms _ _ _ _ _ _, .inl ⟨rfl, _, SqL.of J.rooms⟩, _, rfl, j.r, _, _, rfl, rfl, J.rooms, (by rw [nums_length]; exact hz), ?_⟩
          rw [nums_snoc]
          have hp1 : (L2.upd H j.r (.lst (nums (a.plan.beds ++ [x])))) p = some (.ins C dx (flds (a.plan.pupils : Int) j.r j.w j.b j.q j.fv)) := by rw [upd_ne J.apart.pr]; exact hp
          refine ⟨_, rfl, p, C, dx, _, _, rfl, hp1, T.cl, T.n_rooms, f_rooms _ _ _ _ _ _, j.r, _, rfl, upd_same, _, _, rfl, rfl, ?_⟩
          have el : (((nums (a.plan.beds ++ [x])).length : Nat) : Int) - 1 = (a.plan.beds.length : Int) := by rw [nums_length, List.length_append, List.length_singleton]; omega
          have z := goes e (J.setRooms (wf_room J.wf h1 (by omega) (by omega))) (fr_upd own_r) k
          rw [← el] at z
          exact z
/-- tell_pair: a pair told or taken back in the dict at d -/
def sp_tell_pair : Sp := fun vs H Q _ => ∃ (d t : Addr) (l : List (Nat × Nat)) (q : Nat × Nat) (on : Nat), vs = [.ref d, .ref t, .int on] ∧ H d = some (.dT (l.map pairK)) ∧ H t = some (.tup ((keyP q).map kV)) ∧ l.length ≤ 32 ∧ on ≤ 1 ∧
  (has q l = (on == 1) → Q (.int (-17)) H) ∧ (¬ has q l = (on == 1) → on = 1 ∧ 32 ≤ l.length → Q (.int (-12)) H) ∧ (¬ has q l = (on == 1) → ¬ (on = 1 ∧ 32 ≤ l.length) → Q (.int 0) (upd H d (.dT ((put on q l).map pairK))))
theorem ok_tell_pair (M : TFun K mg "tell_pair" s_tell_pair ["pairs", "pair", "on"]) (T : Txt K mg C) : FOk P w K mg base 1 "tell_pair" ["pairs", "pair", "on"] sp_tell_pair := by
  obtain ⟨f, fd, F, hb, hm⟩ := M
  refine ⟨f, fd, hm, F.kp, F.ok sc_tell_pair (fun vs H Q E h => ?_) (fun cdv A outer s H vs Q E hr h => ?_), hb⟩
  · obtain ⟨d, t, l, q, on, rfl, _⟩ := h
    rfl
  · obtain ⟨d, t, l, q, on, rfl, hd, ht, hl, ho, k1, k2, k3⟩ := h
    have hu := hu_of hr
    have hz : l.length < sizeLine := Nat.lt_of_le_of_lt hl (by decide)
    refine ⟨_, (pss_cons (ps_set (i := 3) sc_tell_pair.nd rfl (Or.inl rfl) (pe_cmp (pc_din hu (pv 1) (pv 0))))
  (pss_cons (ps_if (pt_cmpR op_eq (pv 3) (pe_cmpR op_eq (pv 2) pe_int (nomark _)) (nomark _)) (pss_one (ps_ret (pe_globI T.c_NOTHING_TO_CHANGE))) pss_nil)
  (pss_cons (ps_if (pt_val (pv 3)) (pss_cons (ps_expr (pe_dpopT hu (pv 0) (pv 1) ⟨rfl, rfl, rfl, rfl⟩))
  (pss_one (ps_ret pe_int))) pss_nil)
  (pss_cons (ps_if (pt_cmpR op_ge (pe_callB call_lenT (by rfl) T.len PySem.boot_len (pa_cons (pv 0) pa_nil)) (pe_globI T.c_MOST_PAIRS) (nomark _)) (pss_one (ps_ret (pe_globI T.c_NO_PLACE_LEFT))) pss_nil)
  (pss_cons (ps_dput hu (pv 0) (pv 1) pe_bl rfl)
  (pss_one (ps_ret pe_int))))))), ?_⟩
    refine ⟨_, rfl, _, rfl, d, _, rfl, DGet.t hd ht, ?_⟩
    rw [valV_pairs]
    have hh : (if q ∈ l then some (V.bl true) else none).isSome = has q l := by
      by_cases m : q ∈ l
      · rw [if_pos m, has_iff.mpr m]; rfl
      · rw [if_neg m, has_false.mpr m]; rfl
    rw [hh]
    have hon : (on == 1) = decide (V.int (on : Int) = V.int 1) := by
      by_cases z : on = 1
      · subst z; rfl
      · rw [decide_eq_false (fun y => by injection y with y; omega)]; exact beq_eq_false_iff_ne.mpr z
    refine ⟨_, rfl, _, rfl, rfl, rfl, _, rfl, ?_⟩
    have eq2 : decide (V.bl (has q l) = V.bl (decide (V.int (on : Int) = V.int 1))) = decide (has q l = (on == 1)) := by
      rw [← hon, Bool.eq_iff_iff, decide_eq_true_eq, decide_eq_true_eq, V.bl.injEq]
    by_cases h1 : has q l = (on == 1)
    · refine (congrArg (fun b => if b = true then _ else _) eq2).mpr ?_
      rw [decide_eq_true h1]
      exact iteT (k1 h1)
    · refine (congrArg (fun b => if b = true then _ else _) eq2).mpr ?_
      rw [decide_eq_false h1]
      refine iteF ?_
      refine ⟨_, rfl, _, rfl, ?_⟩
      by_cases hq : has q l = true
      · rw [hq]
        refine iteT ?_
        have z : on = 0 := by
          rw [hq] at h1
          have : ¬ on = 1 := fun e => h1 (by rw [e]; rfl)
          omega
        refine ⟨_, rfl, d, rfl, .inr ⟨_, .inl hd⟩, _, rfl, _, _, t, _, hd, rfl, ht, (by rw [valV_pairs, if_pos (has_iff.mp hq)]), ?_⟩
        have r := k3 h1 (by omega)
        rw [z, put_zero] at r
        rw [dropK_pairs]
        exact r
      · have hq' : has q l = false := by cases e : has q l; rfl; exact absurd e hq
        rw [hq']
        refine iteF ?_
        have z : on = 1 := by
          rw [hq'] at h1
          have : ¬ on = 0 := fun e => h1 (by rw [e]; rfl)
          omega
        refine ⟨_, rfl, d, _, rfl, .inl hd, _, _, rfl, rfl, _, rfl, ?_⟩
        rw [List.length_map]
        refine ite2 (fun c3 => ?_) (fun c3 => ?_)
        · have c3 := of_decide_eq_true c3
          exact k2 h1 ⟨z, by omega⟩
        · have h3 : ¬ 32 ≤ l.length := fun y => c3 (decide_eq_true (by omega))
          refine ⟨_, rfl, _, rfl, d, _, rfl, DPut.t hd ht (by rw [List.length_map]; exact hz), ?_⟩
          have r := k3 h1 (by omega)
          rw [z, put_one] at r
          rw [putK_pairs (has_false.mp hq')]
          exact r
end
end Rs
end
section
set_option Elab.async false
set_option linter.all false
set_option maxRecDepth 100000
set_option maxHeartbeats 4000000
namespace Rs
open PySem PySem.Spec PyProof.Rows L2
open Ks306 (Abs Call act looked keepsPins put has pairOk there)
section
variable {P : Program} {w : World} {K : PySem.W.Frag} {mg : Str → Option Value} {base : Heap} {C : Addr}
/-- a call of three numbers -/
def sp3 (C : Addr) (c : Nat → Nat → Nat → Call) : Sp := fun vs H Q _ => ∃ (p : Addr) (j : J) (a : Abs) (x y z : Nat), vs = [.ref p, .int x, .int y, .int z] ∧ JAt C H p j a ∧ ∀ H' j', JAt C H' p j' (act a (c x y z)).1 → Fr H H' p j j' → Q (.int (act a (c x y z)).2.ret) H'
theorem refusal_cases (a : Abs) (x y on : Nat) : (a.plan.pupils = 0 ∧ refusal a x y on = -61) ∨ (¬ a.plan.pupils = 0 ∧ pairOk a x y on = false ∧ refusal a x y on = -22) ∨ (¬ a.plan.pupils = 0 ∧ pairOk a x y on = true ∧ refusal a x y on = 0) := by
  unfold refusal
  by_cases h1 : a.plan.pupils = 0
  · exact .inl ⟨h1, if_pos h1⟩
  · rw [if_neg h1]
    cases h2 : pairOk a x y on
    · exact .inr (.inl ⟨h1, rfl, if_pos rfl⟩)
    · exact .inr (.inr ⟨h1, rfl, if_neg (by decide)⟩)
theorem ok_wish (M : MFun K C "wish" "Journey.wish" s_wish ["self", "a", "b", "on"]) (T : Txt K mg C) (G_pair_refusal : MOk P w K mg base C 1 "pair_refusal" ["self", "a", "b", "on"] (sp_pair_refusal C))
    (G_tell_pair : FOk P w K mg base 1 "tell_pair" ["pairs", "pair", "on"] sp_tell_pair) : MOk P w K mg base C 2 "wish" ["self", "a", "b", "on"] (sp3 C Call.wish) := by
  obtain ⟨f, fd, F, hb, hm⟩ := M
  refine ⟨f, fd, hm, F.ok sc_wish (fun vs H Q E h => ?_) (fun cdv A outer s H vs Q E hr h => ?_), hb⟩
  · obtain ⟨p, j, a, x, y, z, rfl, _⟩ := h
    rfl
  · obtain ⟨p, j, a, x, y, on, rfl, J, k⟩ := h
    obtain ⟨dx, hp⟩ := J.ob
    refine ⟨_, (pss_cons (ps_set (i := 4) sc_wish.nd rfl (Or.inl rfl) (pe_methM (pv 0) T.cl G_pair_refusal (hr.mono (by decide)) (pa_cons (pv 1) (pa_cons (pv 2) (pa_cons (pv 3) pa_nil)))))
  (pss_cons (ps_if (pt_cmpR op_lt (pv 4) pe_int (nomark _)) (pss_one (ps_ret (pv 4))) pss_nil)
  (pss_one (ps_ret (pe_callF G_tell_pair (hr.mono (by decide)) (pa_cons (pe_fld (pv 0) rfl) (pa_cons (pe_tup (pa_cons (pv 1) (pa_cons (pv 2) pa_nil))) (pa_cons (pv 3) pa_nil)))))))), ?_⟩
    refine ⟨_, rfl, p, dx, _, rfl, hp, rfl, _, rfl, _, rfl, _, rfl, p, j, a, x, y, on, rfl, J, ?_⟩
    refine ⟨_, rfl, _, _, rfl, rfl, _, rfl, ?_⟩
    rcases refusal_cases a x y on with ⟨h1, e⟩ | ⟨h1, h2, e⟩ | ⟨h1, h2, e⟩
    · rw [e]
      exact iteT ⟨_, rfl, stays (by simp [act, Abs.on, h1]) J k⟩
    · rw [e]
      exact iteT ⟨_, rfl, stays (by simp [act, Abs.on, h1, h2]) J k⟩
    · rw [e]
      refine iteF ?_
      refine ⟨_, rfl, p, C, dx, _, _, rfl, hp, T.cl, T.n_wishes, f_wishes _ _ _ _ _ _, _, rfl, _, rfl, (by show 2 ≤ sizeLine; decide), fun t ht => ?_⟩
      have s1 : Same H (upd H t (.tup [V.int x, V.int y])) := fun b o z => by rw [upd_ne (ne_of_none z ht)]; exact z
      have J1 := J.same s1
      have fr1 : Fr H (upd H t (.tup [V.int x, V.int y])) p j j := ⟨fun c o z _ => s1 c o z, fun _ m => .inl m⟩
      have hon : on ≤ 1 := by
        unfold pairOk at h2
        simp only [Bool.and_eq_true, decide_eq_true_eq] at h2
        exact h2.2
      refine ⟨_, rfl, j.w, t, a.plan.wishes, (x, y), on, rfl, J1.wishes, upd_same, J.wf.wl, hon, fun h3 => ?_, fun h3 h4 => ?_, fun h3 h4 => ?_⟩
      · exact goes (b := a) (by rw [act_wish h1 h2, if_pos h3]) J1 fr1 k
      · exact goes (b := a) (by rw [act_wish h1 h2, if_neg h3, if_pos h4]) J1 fr1 k
      · have e3 : act a (.wish x y on) = ({ a with plan := { a.plan with wishes := put on (x, y) a.plan.wishes } }, Ks306.no 0) := by rw [act_wish h1 h2, if_neg h3, if_neg h4]
        have w' := wf_act J.wf (.wish x y on)
        rw [e3] at w'
        exact goes e3 (J1.setWishes w') (fr1.trans (fr_upd own_w)) k
end
end Rs
end
section
set_option Elab.async false
set_option linter.all false
set_option maxRecDepth 100000
set_option maxHeartbeats 4000000
namespace Rs
open PySem PySem.Spec PyProof.Rows L2
open Ks306 (Abs Call act looked keepsPins put has pairOk there)
section
variable {P : Program} {w : World} {K : PySem.W.Frag} {mg : Str → Option Value} {base : Heap} {C : Addr}
/-- a new plan of n pupils -/
def fresh (n : Nat) : Abs := { plan := ⟨n, [], [], []⟩, pins := List.replicate n 0 }
theorem wf_fresh {n : Nat} (h : n ≤ 8) : Wf (fresh n) :=
  ⟨h, by show (List.replicate n 0).length = n; simp, fun x hx => by rw [List.eq_of_mem_replicate hx]; exact Nat.zero_le _, Nat.zero_le _, fun x h => (nomatch h), Nat.zero_le _, Nat.zero_le _, List.nodup_nil, List.nodup_nil, fun x h => (nomatch h), fun x h => (nomatch h), fun _ => ⟨rfl, rfl⟩, fun f h => (nomatch h)⟩
/-- the attributes, stored one behind another -/
def stored6 (n : Int) (r w b q : Addr) (fs : List (Str × V)) : List (Str × V) := putF "filling" .non (putF "pins" (.ref q) (putF "bars" (.ref b) (putF "wishes" (.ref w) (putF "rooms" (.ref r) (putF "pupils" (.int n) fs)))))
def Attrs (fs : List (Str × V)) : Prop := fs = [] ∨ ∃ n r w b q fv, fs = flds n r w b q fv
theorem stored6_eq {n : Int} {r w b q : Addr} {fs : List (Str × V)} (h : Attrs fs) : stored6 n r w b q fs = flds n r w b q .non := by
  rcases h with rfl | ⟨n', r', w', b', q', fv, rfl⟩
  · rfl
  · rfl
theorem Attrs.length {fs : List (Str × V)} (h : Attrs fs) : fs.length ≤ 6 := by
  rcases h with rfl | ⟨n', r', w', b', q', fv, rfl⟩
  · exact Nat.zero_le _
  · exact Nat.le_refl _
theorem putF_few {f : Str} {v : V} {fs : List (Str × V)} {n : Nat} (h : fs.length ≤ n) : (putF f v fs).length ≤ n + 1 := Nat.le_trans (length_putF f v fs) (Nat.succ_le_succ h)
def sp_start_anew (C : Addr) : Sp := fun vs H Q _ => ∃ (p dx : Addr) (fs : List (Str × V)) (n : Nat), vs = [.ref p, .int n] ∧ n ≤ 8 ∧ H p = some (.ins C dx fs) ∧ Attrs fs ∧
  ∀ H' j', JAt C H' p j' (fresh n) → (∀ c o, H c = some o → c ≠ p → H' c = some o) → (∀ c, c ∈ j'.own p → c = p ∨ H c = none) → Q .non H'
theorem ok_start_anew (M : MFun K C "start_anew" "Journey.start_anew" s_start_anew ["self", "pupils"]) (T : Txt K mg C) : MOk P w K mg base C 1 "start_anew" ["self", "pupils"] (sp_start_anew C) := by
  obtain ⟨f, fd, F, hb, hm⟩ := M
  refine ⟨f, fd, hm, F.ok sc_start_anew (fun vs H Q E h => ?_) (fun cdv A outer s H vs Q E hr h => ?_), hb⟩
  · obtain ⟨p, dx, fs, n, rfl, _⟩ := h
    rfl
  · obtain ⟨p, dx, fs, n, rfl, hn, hp, ha, k⟩ := h
    have l0 := ha.length
    have l1 := putF_few (f := "pupils") (v := V.int n) l0
    refine ⟨_, (pss_cons (ps_fld (pv 0) (pv 1) rfl)
  (pss_cons (ps_fld (pv 0) (pe_lst pa_nil) rfl)
  (pss_cons (ps_fld (pv 0) pe_dnewT rfl)
  (pss_cons (ps_fld (pv 0) pe_dnewT rfl)
  (pss_cons (ps_fld (pv 0) (pe_op op_rep (pe_lst (pa_cons pe_int pa_nil)) (pv 1)) rfl)
  (pss_one (ps_fld (pv 0) pe_non rfl))))))), ?_⟩
    refine ⟨_, rfl, _, rfl, p, C, dx, fs, rfl, hp, T.cl, T.n_pupils, (by omega), ?_⟩
    refine ⟨Nat.zero_le _, fun r hr0 => ?_⟩
    have pr : p ≠ r := ne_of_none upd_same hr0
    have fr : H r = none := by rw [upd_ne pr.symm] at hr0; exact hr0
    refine ⟨_, rfl, p, C, dx, _, rfl, (by rw [upd_ne pr, upd_same]), T.cl, T.n_rooms, (by have := l1; omega), ?_⟩
    have l2 := putF_few (f := "rooms") (v := V.ref r) l1
    intro d hd0
    have pd : p ≠ d := ne_of_none upd_same hd0
    rw [upd_ne pd.symm] at hd0
    have rd : r ≠ d := ne_of_none upd_same hd0
    rw [upd_ne rd.symm, upd_ne pd.symm] at hd0
    refine ⟨_, rfl, p, C, dx, _, rfl, (by rw [upd_ne pd, upd_same]), T.cl, T.n_wishes, (by have := l2; omega), ?_⟩
    have l3 := putF_few (f := "wishes") (v := V.ref d) l2
    intro b hb0
    have pb : p ≠ b := ne_of_none upd_same hb0
    rw [upd_ne pb.symm] at hb0
    have db : d ≠ b := ne_of_none upd_same hb0
    rw [upd_ne db.symm, upd_ne pb.symm] at hb0
    have rb : r ≠ b := ne_of_none upd_same hb0
    rw [upd_ne rb.symm, upd_ne pb.symm] at hb0
    refine ⟨_, rfl, p, C, dx, _, rfl, (by rw [upd_ne pb, upd_same]), T.cl, T.n_bars, (by have := l3; omega), ?_⟩
    have l4 := putF_few (f := "bars") (v := V.ref b) l3
    refine ⟨(by show 1 ≤ sizeLine; decide), fun t ht0 => ?_⟩
    have pt : p ≠ t := ne_of_none upd_same ht0
    rw [upd_ne pt.symm] at ht0
    have bt : b ≠ t := ne_of_none upd_same ht0
    rw [upd_ne bt.symm, upd_ne pt.symm] at ht0
    have dt : d ≠ t := ne_of_none upd_same ht0
    rw [upd_ne dt.symm, upd_ne pt.symm] at ht0
    have rt : r ≠ t := ne_of_none upd_same ht0
    rw [upd_ne rt.symm, upd_ne pt.symm] at ht0
    refine ⟨_, rfl, t, n, _, rfl, rfl, upd_same, (by omega), (by omega), (by show 1 * ((n : Int)).toNat ≤ sizeLine; rw [sizeLine_eq]; omega), fun q hq0 => ?_⟩
    have tq : t ≠ q := ne_of_none upd_same hq0
    rw [upd_ne tq.symm] at hq0
    have pq : p ≠ q := ne_of_none upd_same hq0
    rw [upd_ne pq.symm] at hq0
    have bq : b ≠ q := ne_of_none upd_same hq0
    rw [upd_ne bq.symm, upd_ne pq.symm] at hq0
    have dq : d ≠ q := ne_of_none upd_same hq0
    rw [upd_ne dq.symm, upd_ne pq.symm] at hq0
    have rq : r ≠ q := ne_of_none upd_same hq0
    rw [upd_ne rq.symm, upd_ne pq.symm] at hq0
    refine ⟨_, rfl, p, C, dx, _, rfl, (by rw [upd_ne pq, upd_ne pt, upd_same]), T.cl, T.n_pins, (by have := l4; omega), ?_⟩
    have l5 := putF_few (f := "pins") (v := V.ref q) l4
    refine ⟨_, rfl, p, C, dx, _, rfl, upd_same, T.cl, T.n_filling, (by have := l5; omega), ?_⟩
    have e6 : stored6 (n : Int) r d b q fs = flds (n : Int) r d b q .non := stored6_eq ha
    have ez : (List.replicate ((n : Int)).toNat [V.int 0]).flatten = nums (List.replicate n 0) := zeros n
    refine k _ ⟨r, d, b, q, none⟩ ⟨⟨dx, ?_⟩, ?_, ?_, ?_, ?_, trivial, ?_, wf_fresh hn⟩ (fun c o z hc => ?_) (fun c hc => ?_)
    · rw [upd_same]
      exact congrArg (fun l => some (HO.ins C dx l)) e6
    · simp [upd_at, pr.symm, rq, rt, rb, rd]; rfl
    · simp [upd_at, pd.symm, dq, dt, db]; rfl
    · simp [upd_at, pb.symm, bq, bt]; rfl
    · rw [upd_ne pq.symm, upd_ne pq.symm, upd_same, ez]
      rfl
    · simp [J.own, pr, pd, pb, pq, rd, rb, rq, db, dq, bq]
    · have hr1 := ne_of_none z fr
      have hd1 := ne_of_none z hd0
      have hb1 := ne_of_none z hb0
      have ht1 := ne_of_none z ht0
      have hq1 := ne_of_none z hq0
      simp [upd_at, hc, hr1, hd1, hb1, ht1, hq1]
      exact z
    · simp [J.own] at hc
      rcases hc with rfl | rfl | rfl | rfl | rfl
      · exact .inl rfl
      · exact .inr fr
      · exact .inr hd0
      · exact .inr hb0
      · exact .inr hq0
end
end Rs
end
section
set_option Elab.async false
set_option linter.all false
set_option maxRecDepth 100000
set_option maxHeartbeats 4000000
/-! The whole: the list of calls, answered. -/
namespace Rs
open PySem PySem.Spec PyProof.Rows L2
open Ks306 (Abs Call act looked keepsPins put has pairOk there)
/-- answers' promise: a list of whole numbers is handed in, the specification's list comes out -/
def spAns (K : PySem.W.Frag) : Sp := fun vs H Q _ => ∃ (a : Addr) (ns : List Int), vs = [.ref a] ∧ SqL K H a (ns.map V.int) ∧ ns.length ≤ 30000 ∧ (∀ x ∈ ns, 0 ≤ x) ∧ PyKs306.answers_asked ns = true ∧ ∀ (H' : Hp) (p : Addr), H' p = some (.lst ((PyKs306.answers ns).map V.int)) → Q (.ref p) H'
open PySem.W (Codec)
theorem req (K : PySem.W.Frag) (H : Hp) (xs : List V) (a : Codec.denoteAll PySem.Challenge.rw_roomsharedesk_s01_answers.args) (hwi : Codec.withinAll PySem.Challenge.rw_roomsharedesk_s01_answers.args a = true)
    (hask : Codec.app PySem.Challenge.rw_roomsharedesk_s01_answers.args PySem.Challenge.rw_roomsharedesk_s01_answers.asked a = true) (hx : DwAll K H xs (Codec.encAll PySem.Challenge.rw_roomsharedesk_s01_answers.args a)) :
    spAns K xs H (fun v H' => Dw K H' v (PySem.Challenge.rw_roomsharedesk_s01_answers.ret.enc (Codec.app PySem.Challenge.rw_roomsharedesk_s01_answers.args PySem.Challenge.rw_roomsharedesk_s01_answers.f a))) fun _ _ _ => False := by
  cases hx with
  | cons h1 h2 =>
    cases h2
    cases h1 with
    | lst hs ha =>
      have e := L2.ints_dw a.1 _ ha
      subst e
      have q : ((Codec.inLen 0 30000 a.1 && a.1.all (Codec.inInt 0 4294967295)) && true) = true := hwi
      rw [Bool.and_eq_true, Bool.and_eq_true] at q
      refine ⟨_, a.1, rfl, hs, (Codec.inNat_iff.mp q.1.1).2, fun x hx => ?_, hask, fun H' p hp => .lst (L2.SqL.of hp) (L2.dw_ints _)⟩
      have z := List.all_eq_true.mp q.1.2 x hx
      exact (Codec.inInt_iff.mp z).1
end Rs
end
section
set_option Elab.async false
set_option linter.all false
set_option maxRecDepth 100000
set_option maxHeartbeats 4000000
namespace Rs
open PySem PySem.Spec PyProof.Rows L2
open Ks306 (Abs Call act looked keepsPins put has pairOk there)
section
variable {P : Program} {w : World} {K : PySem.W.Frag} {mg : Str → Option Value} {base : Heap} {C : Addr}
/-- keeps_to_pins -/
def sp_keeps : Sp := fun vs H Q _ => ∃ (f q : Addr) (F N : List Nat), vs = [.ref f, .ref q] ∧ H f = some (.lst (nums F)) ∧ H q = some (.lst (nums N)) ∧ F.length = N.length ∧ N.length ≤ 8 ∧ ∀ H', Same H H' → Q (.bl (keepsPins N F)) H'
theorem ok_keeps (M : TFun K mg "keeps_to_pins" s_keeps_to_pins ["filling", "pins"]) (T : Txt K mg C) : FOk P w K mg base 1 "keeps_to_pins" ["filling", "pins"] sp_keeps := by
  obtain ⟨f, fd, F, hb, hm⟩ := M
  refine ⟨f, fd, hm, F.kp, F.ok sc_keeps_to_pins (fun vs H Q E h => ?_) (fun cdv A outer s H vs Q E hr h => ?_), hb⟩
  · obtain ⟨f, q, F, N, rfl, _⟩ := h
    rfl
  · obtain ⟨f, q, F, N, rfl, hf, hq, hl, h8, k⟩ := h
    refine ⟨_, (pss_one (ps_ret (pe_callB (cr_all rfl) (by rfl) T.all (by decide +kernel) (pa_cons (pe_lc rfl sc_keeps_to_pins.nd (pi_zip (by rfl) T.zip (pa_cons (pv 0) (pa_cons (pv 1) pa_nil))) (blkOk_by (own := [("room", 2), ("where", 3)]) (by change blkC ["filling", "pins", "room", "where"] (defScope s_keeps_to_pins) _ _ = true; decide +kernel)) (fun _ _ _ _ _ => (pg_tupK (K := K) (n := 2) rfl rfl (pgs_cons (pg_name (i := 2) sc_keeps_to_pins.nd rfl (Or.inl rfl)) (pgs_cons (pg_name (i := 3) sc_keeps_to_pins.nd rfl (Or.inl rfl)) pgs_nil)))) (fun _ _ _ _ _ => pts_nil) (fun _ _ _ _ _ => (pe_or (pe_cmpR op_eq (pv 3) pe_int (nomark _)) (pe_one (pe_cmpR op_eq (pv 3) (pe_op op_add (pv 2) pe_int) (nomark _)))))) pa_nil)))), ?_⟩
    refine ⟨_, rfl, _, rfl, f, q, _, _, rfl, SqL.of hf, SqL.of hq, fun D hD => ?_⟩
    refine lc_any (n := N.length) (Grow H D fun i => (List.range i).map fun j => V.bl (keepB N F j)) (L2.Grow.start hD rfl) (fun H' g => ?_) (fun i H' hi g => ?_) (fun i x H' H'' hi g y => ?_) (fun H' g => ?_)
    · exact ⟨_, _, g.same.seq (SqL.of hf), g.same.seq (SqL.of hq), .inl (by rw [nums_length, hl]; exact Nat.le_refl _)⟩
    · exact ⟨_, _, _, _, g.same.seq (SqL.of hf), g.same.seq (SqL.of hq), nums_at (by rw [hl]; exact hi), nums_at hi⟩
    · obtain ⟨t, u, v, rfl, ht, rfl, hu, hv⟩ := y
      have eu := Option.some.inj ((hu _ (g.same.seq (SqL.of hf))).symm.trans (nums_at (by rw [hl]; exact hi)))
      have ev := Option.some.inj ((hv _ (g.same.seq (SqL.of hq))).symm.trans (nums_at hi))
      subst eu ev
      refine ⟨t, _, rfl, SqT.of upd_same, rfl, _, _, rfl, _, _, rfl, rfl, rfl, ?_⟩
      refine yesT ⟨_, rfl, rfl, _, rfl, ?_⟩
      have fin : ∀ b, keepB N F i = b → ∃ acc, (upd H' t (.tup [V.int (F.getD i 0 : Nat), V.int (N.getD i 0 : Nat)])) D = some (.lst acc) ∧ acc.length < sizeLine ∧ Grow H D (fun i => (List.range i).map fun j => V.bl (keepB N F j)) (i + 1) (upd (upd H' t (.tup [V.int (F.getD i 0 : Nat), V.int (N.getD i 0 : Nat)])) D (.lst (acc ++ [V.bl b]))) :=
        fun b e => Grow.one hD g (Same.new ht) (by rw [e]) (by omega)
      refine ite2 (fun c => ?_) (fun c => ?_)
      · have c := of_decide_eq_true c
        refine fin true ?_
        unfold keepB
        injection c with c
        have : N.getD i 0 = 0 := by omega
        rw [this]
        rfl
      · have c : ¬ N.getD i 0 = 0 := fun z => c (decide_eq_true (by rw [z]; rfl))
        refine ⟨_, rfl, _, rfl, _, _, rfl, rfl, rfl, ?_⟩
        refine fin _ ?_
        unfold keepB
        rw [beq_eq_false_iff_ne.mpr c, Bool.false_or, Bool.eq_iff_iff, beq_iff_eq, decide_eq_true_eq, V.int.injEq]
        omega
    · refine ⟨D, (List.range N.length).map (keepB N F), rfl, SqL.of (by rw [g.at, List.map_map]; rfl), ?_⟩
      rw [keeps_range hl]
      exact k H' g.same
/-- is_too_full -/
def sp_full : Sp := fun vs H Q _ => ∃ (f r : Addr) (F B : List Nat), vs = [.ref f, .ref r] ∧ H f = some (.lst (nums F)) ∧ H r = some (.lst (nums B)) ∧ B.length ≤ 4 ∧ ∀ H', Same H H' → Q (.bl (((List.range B.length).map (fullB B F)).any id)) H'
theorem ok_full (M : TFun K mg "is_too_full" s_is_too_full ["filling", "rooms"]) (T : Txt K mg C) : FOk P w K mg base 1 "is_too_full" ["filling", "rooms"] sp_full := by
  obtain ⟨f, fd, F, hb, hm⟩ := M
  refine ⟨f, fd, hm, F.kp, F.ok sc_is_too_full (fun vs H Q E h => ?_) (fun cdv A outer s H vs Q E hr h => ?_), hb⟩
  · obtain ⟨f, r, F, B, rfl, _⟩ := h
    rfl
  · obtain ⟨f, r, F, B, rfl, hf, hq, h4, k⟩ := h
    refine ⟨_, (pss_one (ps_ret (pe_callB (cr_any rfl) (by rfl) T.any (by decide +kernel) (pa_cons (pe_lc rfl sc_is_too_full.nd (pi_enum (by rfl) T.enumerate (pa_cons (pv 1) pa_nil)) (blkOk_by (own := [("room", 2), ("beds", 3)]) (by change blkC ["filling", "rooms", "room", "beds"] (defScope s_is_too_full) _ _ = true; decide +kernel)) (fun _ _ _ _ _ => (pg_tupK (K := K) (n := 2) rfl rfl (pgs_cons (pg_name (i := 2) sc_is_too_full.nd rfl (Or.inl rfl)) (pgs_cons (pg_name (i := 3) sc_is_too_full.nd rfl (Or.inl rfl)) pgs_nil)))) (fun _ _ _ _ _ => pts_nil) (fun _ _ _ _ _ => (pe_cmpR op_gt (pe_cntK (K := K) rfl (pv 0) (pa_cons (pv 2) pa_nil)) (pv 3) (nomark _)))) pa_nil)))), ?_⟩
    refine ⟨_, rfl, r, _, rfl, SqL.of hq, fun D hD => ?_⟩
    refine lc_any (n := B.length) (Grow H D fun i => (List.range i).map fun j => V.bl (fullB B F j)) (L2.Grow.start hD rfl) (fun H' g => ?_) (fun i H' hi g => ?_) (fun i x H' H'' hi g y => ?_) (fun H' g => ?_)
    · exact ⟨_, g.same.seq (SqL.of hq), by rw [nums_length]; exact Nat.le_refl _⟩
    · exact ⟨_, _, g.same.seq (SqL.of hq), nums_at hi⟩
    · obtain ⟨t, u, rfl, ht, rfl, hu⟩ := y
      have eu := Option.some.inj ((hu _ (g.same.seq (SqL.of hq))).symm.trans (nums_at hi))
      subst eu
      refine ⟨t, _, rfl, SqT.of upd_same, rfl, _, _, rfl, _, _, rfl, rfl, rfl, ?_⟩
      have hf2 := SqL.of (K := K) (((g.same.trans (Same.new (o := .tup [V.int (i : Nat), V.int (B.getD i 0 : Nat)]) ht)) _ _ hf))
      refine yesT ⟨_, rfl, .inl ⟨rfl, _, hf2⟩, _, rfl, f, _, _, rfl, rfl, (by rw [← nums_ints]; exact hf2), ?_⟩
      refine ⟨_, rfl, _, _, rfl, rfl, ?_⟩
      refine Grow.one hD g (Same.new ht) ?_ (by omega)
      unfold fullB
      congr 1
      rw [count_inRoom, Bool.eq_iff_iff, decide_eq_true_eq, decide_eq_true_eq]
      omega
    · refine ⟨D, (List.range B.length).map (fullB B F), rfl, SqL.of (by rw [g.at, List.map_map]; rfl), ?_⟩
      exact k H' g.same
/-- count_together -/
def sp_together : Sp := fun vs H Q _ => ∃ (f d : Addr) (F : List Nat) (l : List (Nat × Nat)), vs = [.ref f, .ref d] ∧ H f = some (.lst (nums F)) ∧ H d = some (.dT (l.map pairK)) ∧ l.length ≤ 32 ∧ (∀ q ∈ l, q.1 < F.length ∧ q.2 < F.length) ∧ ∀ H', Same H H' → Q (.int ((l.filter (Ks304.together F)).length : Nat)) H'
theorem key_at {l : List (Nat × Nat)} {i : Nat} (h : i < l.length) : (l.map pairK)[i]? = some (keyP (l.getD i (0, 0)), .bl true) := by
  rw [List.getElem?_map, List.getElem?_eq_getElem h, List.getD_eq_getElem?_getD, List.getElem?_eq_getElem h]
  rfl
theorem getD_mem' {α : Type} {l : List α} {i : Nat} {d : α} (h : i < l.length) : l.getD i d ∈ l := by
  rw [List.getD_eq_getElem?_getD, List.getElem?_eq_getElem h]
  exact List.getElem_mem h
theorem ok_together (M : TFun K mg "count_together" s_count_together ["filling", "pairs"]) (T : Txt K mg C) : FOk P w K mg base 1 "count_together" ["filling", "pairs"] sp_together := by
  obtain ⟨f, fd, F, hb, hm⟩ := M
  refine ⟨f, fd, hm, F.kp, F.ok sc_count_together (fun vs H Q E h => ?_) (fun cdv A outer s H vs Q E hr h => ?_), hb⟩
  · obtain ⟨f, d, F, l, rfl, _⟩ := h
    rfl
  · obtain ⟨f, d, F, l, rfl, hf, hd, h32, hb', k⟩ := h
    refine ⟨_, (pss_one (ps_lock (ps_ret (pe_callB call_lenL (by rfl) T.len PySem.boot_len (pa_cons (pe_lc rfl sc_count_together.nd (pi_keys (pv 1)) (blkOk_by (own := [("a", 2), ("b", 3)]) (by change blkC ["filling", "pairs", "a", "b"] (defScope s_count_together) _ _ = true; decide +kernel)) (fun _ _ _ _ _ => (pg_tupK (K := K) (n := 2) rfl rfl (pgs_cons (pg_name (i := 2) sc_count_together.nd rfl (Or.inl rfl)) (pgs_cons (pg_name (i := 3) sc_count_together.nd rfl (Or.inl rfl)) pgs_nil)))) (fun _ _ _ _ _ => (pts_one (pt_cmpR op_eq (pe_ix ix_L (pv 0) (pv 2) (fun _ _ => rfl)) (pe_ix ix_L (pv 0) (pv 3) (fun _ _ => rfl)) (nomark _)))) (fun _ _ _ _ _ => (pv 2))) pa_nil))))), ?_⟩
    refine ⟨d, _, hd, trivial, fun od => ?_⟩
    have fd' : f ≠ d := ne_of hf hd (by intro z; cases z)
    have hf' : (upd H d (.frz od (.dT (l.map pairK)))) f = some (.lst (nums F)) := by rw [upd_ne fd']; exact hf
    refine ⟨_, rfl, d, od, rfl, .inr ⟨_, upd_same, fun D hD => ?_⟩⟩
    refine lc_any (n := l.length) (Grow (upd H d (.frz od (.dT (l.map pairK)))) D fun i => ((List.range i).filter fun j => Ks304.together F (l.getD j (0, 0))).map fun j => V.int ((l.getD j (0, 0)).1 : Nat)) (L2.Grow.start hD rfl) (fun H' g => ?_) (fun i H' hi g => ?_) (fun i x H' H'' hi g y => ?_) (fun H' g => ?_)
    · exact ⟨g.same _ _ upd_same, by rw [List.length_map]; exact Nat.le_refl _⟩
    · exact ⟨g.same _ _ upd_same, by rw [List.length_map]; exact hi⟩
    · obtain ⟨rfl, kk, v, q, hk, rfl, hq⟩ := y
      have e := Option.some.inj (hk.symm.trans (key_at hi))
      have e1 : kk = keyP (l.getD i (0, 0)) := (Prod.mk.inj e).1
      subst e1
      obtain ⟨b1, b2⟩ := hb' _ (getD_mem' (d := (0, 0)) hi)
      have hf2 := g.same _ _ hf'
      refine ⟨q, _, rfl, SqT.of hq, rfl, _, _, rfl, _, _, rfl, rfl, rfl, ?_⟩
      refine ⟨_, rfl, _, rfl, f, _, _, _, rfl, rfl, hf2, nums_atI b1, _, rfl, _, rfl, f, _, _, _, rfl, rfl, hf2, nums_atI b2, rfl, _, rfl, ?_⟩
      refine ite2 (fun c => ?_) (fun c => ?_)
      · have c := of_decide_eq_true c
        injection c with c
        refine ⟨_, rfl, ?_⟩
        refine Grow.yes hD g (Same.refl _) ?_ rfl (by omega)
        unfold Ks304.together Ks304.room
        rw [beq_iff_eq]
        omega
      · refine Grow.no g (Same.refl _) ?_
        unfold Ks304.together Ks304.room
        rw [beq_eq_false_iff_ne]
        intro z
        exact c (decide_eq_true (by rw [z]))
    · refine ⟨D, _, rfl, g.at, g.same _ _ upd_same, ?_⟩
      rw [List.length_map, cnt_filter, cnt_list (fun q => Ks304.together F q) (0, 0) l]
      exact k _ (Same.unlock hd g.same)
end
end Rs
end
section
set_option Elab.async false
set_option linter.all false
set_option maxRecDepth 100000
set_option maxHeartbeats 4000000
namespace Rs
open PySem PySem.Spec PyProof.Rows L2
open Ks306 (Abs Call act looked keepsPins put has pairOk there)
section
variable {P : Program} {w : World} {K : PySem.W.Frag} {mg : Str → Option Value} {base : Heap} {C : Addr}
/-- count_content -/
def contentN (F : List Nat) (l : List (Nat × Nat)) : Nat := cnt F.length fun a => (ful F l a).getD true
theorem contentN_eq {p : Ks304.Plan} {F : List Nat} (h : F.length = p.pupils) : contentN F p.wishes = Ks304.contents p F := by
  unfold contentN Ks304.contents
  rw [cnt_filter, h]
  exact cnt_congr fun a _ => (content_ful p F a).symm
def sp_content : Sp := fun vs H Q _ => ∃ (f d : Addr) (F : List Nat) (l : List (Nat × Nat)), vs = [.ref f, .ref d] ∧ H f = some (.lst (nums F)) ∧ H d = some (.dT (l.map pairK)) ∧ l.length ≤ 32 ∧ F.length ≤ 8 ∧ (∀ q ∈ l, q.1 < F.length ∧ q.2 < F.length) ∧ ∀ H', Same H H' → Q (.int (contentN F l : Nat)) H'
/-- the dict behind i pairs -/
structure Told (F : List Nat) (l : List (Nat × Nat)) (kvs : List (Key × V)) : Prop where
  len : kvs.length ≤ l.length
  val : ∀ a : Nat, valV kvs (Sum.inl (a : Int)) = (ful F l a).map V.bl
theorem Told.put {F : List Nat} {l : List (Nat × Nat)} {kvs : List (Key × V)} (t : Told F l kvs) (q : Nat × Nat) : Told F (l ++ [q]) (putK kvs (Sum.inl (q.1 : Int)) (.bl ((ful F l q.1).getD false || Ks304.together F q))) := by
  refine ⟨?_, fun a => ?_⟩
  · have := length_putK kvs (Sum.inl (q.1 : Int)) (.bl ((ful F l q.1).getD false || Ks304.together F q))
    have := t.len
    rw [List.length_append, List.length_singleton]
    omega
  · rw [valV_put, ful_snoc, t.val]
    by_cases e : a = q.1
    · subst e
      rw [if_pos rfl, if_pos rfl]
      rfl
    · rw [if_neg e, if_neg fun z => e (by have := Sum.inl.inj z; omega)]
theorem take_snoc {α : Type} {l : List α} {i : Nat} {d : α} (h : i < l.length) : l.take (i + 1) = l.take i ++ [l.getD i d] := by
  rw [List.take_succ, List.getD_eq_getElem?_getD, List.getElem?_eq_getElem h]
  rfl
theorem ok_content (M : TFun K mg "count_content" s_count_content ["filling", "wishes"]) (T : Txt K mg C) : FOk P w K mg base 1 "count_content" ["filling", "wishes"] sp_content := by
  obtain ⟨f, fd, F, hb, hm⟩ := M
  refine ⟨f, fd, hm, F.kp, F.ok sc_count_content (fun vs H Q E h => ?_) (fun cdv A outer s H vs Q E hr h => ?_), hb⟩
  · obtain ⟨f, d, F, l, rfl, _⟩ := h
    rfl
  · obtain ⟨f, e, F, l, rfl, hf, he, h32, h8, hb', k⟩ := h
    have hu := hu_of hr
    refine ⟨_, (pss_cons (ps_set (i := 2) sc_count_content.nd rfl (Or.inr rfl) pe_dnewK)
  (pss_cons (ps_lock (ps_for PassesOwn.never rfl (pi_keys (pv 1)) (pg_tup rfl (pgs_cons (pg_name (i := 3) sc_count_content.nd rfl (Or.inl rfl)) (pgs_cons (pg_name (i := 4) sc_count_content.nd rfl (Or.inl rfl)) pgs_nil))) (pss_one (ps_dput hu (pv 2) (pv 3) (pe_or (pe_dget2 hu (pv 2) (pv 3) pe_bl ⟨rfl, rfl, rfl, rfl⟩) (pe_one (pe_cmpR op_eq (pe_ix ix_L (pv 0) (pv 3) (fun _ _ => rfl)) (pe_ix ix_L (pv 0) (pv 4) (fun _ _ => rfl)) (nomark _)))) rfl))))
  (pss_one (ps_ret (pe_callB call_lenL (by rfl) T.len PySem.boot_len (pa_cons (pe_lc rfl sc_count_content.nd (pi_range1 rfl T.range (pa_cons (pe_callB call_lenL (by rfl) T.len PySem.boot_len (pa_cons (pv 0) pa_nil)) pa_nil)) (blkOk_by (own := [("pupil", 5)]) (by change blkC ["filling", "wishes", "fulfilled", "a", "b", "pupil"] (defScope s_count_content) _ _ = true; decide +kernel)) (fun _ _ _ _ _ => (pg_name (i := 5) sc_count_content.nd rfl (Or.inl rfl))) (fun _ _ _ _ _ => (pts_one (pt_val (pe_dget2 hu (pv 2) (pv 5) pe_bl ⟨rfl, rfl, rfl, rfl⟩)))) (fun _ _ _ _ _ => (pv 5))) pa_nil)))))), ?_⟩
    intro d hd0
    have ed : e ≠ d := ne_of_none he hd0
    have fd' : f ≠ d := ne_of_none hf hd0
    have fe : f ≠ e := ne_of hf he (by intro z; cases z)
    refine ⟨e, .dT (l.map pairK), (by rw [upd_ne ed]; exact he), trivial, fun od => ?_⟩
    have s0 : Same (upd H e (.frz od (.dT (l.map pairK)))) (upd (upd H d (.dK [])) e (.frz od (.dT (l.map pairK)))) := fun b o z => by
      by_cases q : b = e
      · subst q; rw [upd_same] at z ⊢; exact z
      · rw [upd_ne q] at z ⊢
        rw [upd_ne (ne_of_none z hd0)]
        exact z
    have hfl : (upd H e (.frz od (.dT (l.map pairK)))) f = some (.lst (nums F)) := by rw [upd_ne fe]; exact hf
    have nd : (upd H e (.frz od (.dT (l.map pairK)))) d = none := by rw [upd_ne ed.symm]; exact hd0
    refine ⟨_, rfl, e, od, rfl, .inr ⟨_, upd_same, ?_⟩⟩
    refine for_any (n := l.length) (fun i σ H' => ∃ (va vb : Option V) (kvs : List (Key × V)), σ = [some (.ref f), some (.ref e), some (.ref d), va, vb, none] ∧ Same (upd H e (.frz od (.dT (l.map pairK)))) H' ∧ H' d = some (.dK kvs) ∧ Told F (l.take i) kvs) ?_ ?_ ?_ ?_ ?_
    · exact ⟨none, none, [], rfl, s0, by rw [upd_ne ed.symm, upd_same], ⟨Nat.le_refl _, fun a => rfl⟩⟩
    · rintro σ H' ⟨va, vb, kvs, rfl, sm, hd, t⟩
      exact ⟨sm _ _ upd_same, by rw [List.length_map]; exact Nat.le_refl _⟩
    · rintro i σ H' hi ⟨va, vb, kvs, rfl, sm, hd, t⟩
      exact ⟨sm _ _ upd_same, by rw [List.length_map]; exact hi⟩
    · rintro i x σ H' H'' hi ⟨va, vb, kvs, rfl, sm, hd, t⟩ y
      obtain ⟨rfl, kk, v, q, hk, rfl, hq⟩ := y
      have ek := Option.some.inj (hk.symm.trans (key_at hi))
      have e1 : kk = keyP (l.getD i (0, 0)) := (Prod.mk.inj ek).1
      subst e1
      obtain ⟨b1, b2⟩ := hb' _ (getD_mem' (d := (0, 0)) hi)
      have hf2 := sm _ _ hfl
      have hz : kvs.length < sizeLine := by
        have := t.len
        rw [List.length_take] at this
        rw [sizeLine_eq]; omega
      refine ⟨q, _, rfl, SqT.of hq, rfl, _, _, rfl, _, _, rfl, rfl, ?_⟩
      have fin : ∀ c, c = ((ful F (l.take i) (l.getD i (0, 0)).1).getD false || Ks304.together F (l.getD i (0, 0))) → ∃ (va vb : Option V) (kvs' : List (Key × V)), [some (V.ref f), some (.ref e), some (.ref d), some (.int ((l.getD i (0, 0)).1 : Nat)), some (.int ((l.getD i (0, 0)).2 : Nat)), none] = [some (V.ref f), some (.ref e), some (.ref d), va, vb, none] ∧
          Same (upd H e (.frz od (.dT (l.map pairK)))) (upd H'' d (.dK (putK kvs (Sum.inl ((l.getD i (0, 0)).1 : Int)) (.bl c)))) ∧ (upd H'' d (.dK (putK kvs (Sum.inl ((l.getD i (0, 0)).1 : Int)) (.bl c)))) d = some (.dK kvs') ∧ Told F (l.take (i + 1)) kvs' := fun c ec => by
        refine ⟨_, _, _, rfl, fun b o z => ?_, upd_same, ?_⟩
        · rw [upd_ne (ne_of_none z nd)]; exact sm _ _ z
        · rw [take_snoc (d := (0, 0)) hi, ec]
          exact t.put _
      refine ⟨_, rfl, d, rfl, .inl ⟨_, .inl hd⟩, _, rfl, _, DGet.k (k := Sum.inl ((l.getD i (0, 0)).1 : Int)) hd, (ful F (l.take i) (l.getD i (0, 0)).1).getD false, ?_, ?_⟩
      · rw [t.val]
        cases ful F (l.take i) (l.getD i (0, 0)).1 <;> rfl
      refine ite2 (fun c => ?_) (fun c => ?_)
      · refine ⟨_, rfl, _, rfl, d, _, rfl, DPut.k (k := Sum.inl ((l.getD i (0, 0)).1 : Int)) hd hz, ?_⟩
        exact fin true (by rw [c]; rfl)
      · refine ⟨_, rfl, _, rfl, f, _, _, _, rfl, rfl, hf2, nums_atI b1, _, rfl, _, rfl, f, _, _, _, rfl, rfl, hf2, nums_atI b2, rfl, ?_⟩
        refine ⟨_, rfl, _, rfl, d, _, rfl, DPut.k (k := Sum.inl ((l.getD i (0, 0)).1 : Int)) hd hz, ?_⟩
        refine fin _ ?_
        have c : (ful F (l.take i) (l.getD i (0, 0)).1).getD false = false := by
          cases z : (ful F (l.take i) (l.getD i (0, 0)).1).getD false
          · rfl
          · exact absurd z c
        rw [c, Bool.false_or]
        unfold Ks304.together Ks304.room
        rw [Bool.eq_iff_iff, decide_eq_true_eq, beq_iff_eq, V.int.injEq]
        omega
    · rintro σ H' ⟨va, vb, kvs, rfl, sm, hd, t⟩
      rw [List.take_length] at t
      refine ⟨sm _ _ upd_same, ?_⟩
      have s3 : Same H (upd H' e (.dT (l.map pairK))) := Same.unlock he sm
      have hd3 : (upd H' e (.dT (l.map pairK))) d = some (.dK kvs) := by rw [upd_ne ed.symm]; exact hd
      generalize upd H' e (.dT (l.map pairK)) = H3 at s3 hd3
      refine ⟨_, rfl, f, _, rfl, s3 _ _ hf, _, rfl, (by rw [nums_length]; omega), (by rw [nums_length]; omega), fun D hD => ?_⟩
      refine lc_any (n := F.length) (Grow H3 D fun i => ((List.range i).filter fun j => (ful F l j).getD true).map fun (j : Nat) => V.int (0 + (j : Int))) (L2.Grow.start hD rfl) (fun H' g => ?_) (fun i H' hi g => ?_) (fun i x H' H'' hi g y => ?_) (fun H' g => ?_)
      · show _ ≤ _
        rw [nums_length]; omega
      · show _ < _
        rw [nums_length]; omega
      · obtain ⟨rfl, rfl⟩ := y
        refine ⟨rfl, _, rfl, d, rfl, .inl ⟨_, .inl (g.same _ _ hd3)⟩, _, rfl, _, DGet.k (k := Sum.inl (0 + (i : Int))) (g.same _ _ hd3), (ful F l i).getD true, ?_, ?_⟩
        · rw [Int.zero_add, t.val]
          cases ful F l i <;> rfl
        refine ite2 (fun c => ?_) (fun c => ?_)
        · refine ⟨_, rfl, ?_⟩
          exact Grow.yes hD g (Same.refl _) c rfl (by omega)
        · refine Grow.no g (Same.refl _) ?_
          cases z : (ful F l i).getD true
          · rfl
          · exact absurd z c
      · refine ⟨D, _, rfl, g.at, ?_⟩
        rw [List.length_map, cnt_filter]
        exact k _ (s3.trans g.same)
/-- group_sizes -/
def sizesL (n : Nat) : List Nat := (List.range (2 ^ n)).map pop
def sp_sizes : Sp := fun vs H Q _ => ∃ n : Nat, vs = [.int n] ∧ n ≤ 8 ∧ ∀ (H' : Hp) (s : Addr), Same H H' → H s = none → H' s = some (.lst (nums (sizesL n))) → Q (.ref s) H'
theorem pow_le_256 {n : Nat} (h : n ≤ 8) : 1 ≤ 2 ^ n ∧ 2 ^ n ≤ 256 := ⟨Nat.one_le_two_pow, Nat.pow_le_pow_right (n := 2) (by decide) h⟩
theorem ok_sizes (M : TFun K mg "group_sizes" s_group_sizes ["pupils"]) (T : Txt K mg C) : FOk P w K mg base 1 "group_sizes" ["pupils"] sp_sizes := by
  obtain ⟨f, fd, F, hb, hm⟩ := M
  refine ⟨f, fd, hm, F.kp, F.ok sc_group_sizes (fun vs H Q E h => ?_) (fun cdv A outer s H vs Q E hr h => ?_), hb⟩
  · obtain ⟨n, rfl, _⟩ := h
    rfl
  · obtain ⟨n, rfl, hn, k⟩ := h
    obtain ⟨p1, p2⟩ := pow_le_256 hn
    refine ⟨_, (pss_cons (ps_set (i := 1) sc_group_sizes.nd rfl (Or.inl rfl) (pe_lst (pa_cons pe_int pa_nil)))
  (pss_cons (ps_for PassesOwn.never rfl (pi_range2 rfl T.range (pa_cons pe_int (pa_cons (pe_op op_shl pe_int (pv 0)) pa_nil))) (pg_name (i := 2) sc_group_sizes.nd rfl (Or.inl rfl)) (pss_one (ps_expr (pe_bm PySem.F.plainAttrs_list PySem.F.slot_list_append PySem.F.type_list_append mt_append (pv 1) (pa_cons (pe_op op_add (pe_ix ix_L (pv 1) (pe_op op_shr (pv 2) pe_int) (fun _ _ => rfl)) (pe_op op_and (pv 2) pe_int)) pa_nil)))))
  (pss_one (ps_ret (pv 1))))), ?_⟩
    refine ⟨(by show 1 ≤ sizeLine; decide), fun s hs => ?_⟩
    have e : ((1 : Int) * 2 ^ ((n : Int)).toNat) = ((2 ^ n : Nat) : Int) := shl_nat n
    have e1 : ((1 : Int) * 2 ^ ((n : Int)).toNat - 1).toNat = 2 ^ n - 1 := by rw [e]; omega
    refine ⟨_, rfl, _, _, rfl, rfl, cpow_one hn, _, _, rfl, ⟨by decide, by decide, by rw [e]; omega, by rw [e]; omega⟩, ?_⟩
    refine for_any (n := 2 ^ n - 1) (fun i σ H' => ∃ vg : Option V, σ = [some (.int n), some (.ref s), vg] ∧ H' s = some (.lst (nums ((List.range (i + 1)).map pop))) ∧ Same H H') ?_ ?_ ?_ ?_ ?_
    · exact ⟨none, rfl, by rw [upd_same]; rfl, Same.new hs⟩
    · intro σ H' _
      show _ ≤ _
      rw [e1]; exact Nat.le_refl _
    · intro i σ H' hi _
      show _ < _
      rw [e1]; exact hi
    · rintro i x σ H' H'' hi ⟨vg, rfl, hs', sm⟩ y
      obtain ⟨rfl, rfl⟩ := y
      have d1 : ((1 : Int) + (i : Int)) / 2 ^ ((1 : Int)).toNat = (((i + 1) / 2 : Nat) : Int) := by
        show ((1 : Int) + (i : Int)) / 2 = _
        omega
      have d2 : Builtin.bitAnd ((1 : Int) + (i : Int)) 1 = (((i + 1) % 2 : Nat) : Int) := by
        have := bitAnd_nat (i + 1) 1
        rw [Nat.and_one_is_mod] at this
        rw [← this]
        congr 1
        omega
      have hz : ((List.range (i + 1)).map pop).length < sizeLine := by rw [List.length_map, List.length_range, sizeLine_eq]; omega
      have at1 : atI (nums ((List.range (i + 1)).map pop)) (((1 : Int) + (i : Int)) / 2 ^ ((1 : Int)).toNat) = some (.int (((List.range (i + 1)).map pop).getD ((i + 1) / 2) 0 : Nat)) := by
        rw [d1]
        exact nums_atI (by rw [List.length_map, List.length_range]; omega)
      refine ⟨_, rfl, .inl ⟨rfl, _, SqL.of hs'⟩, _, rfl, _, rfl, _, _, rfl, rfl, (show (0 : Int) ≤ 1 by decide), s, _, _, _, rfl, rfl, hs', at1, _, rfl, _, _, rfl, rfl, _, _, rfl, rfl, s, _, _, rfl, rfl, hs', (by rw [nums_length]; exact hz), ?_⟩
      refine ⟨_, rfl, ?_, fun b o z => ?_⟩
      · rw [upd_same, List.range_succ (n := i + 1), List.map_append]
        show some (HO.lst (nums ((List.range (i + 1)).map pop) ++ [_])) = some (HO.lst (nums ((List.range (i + 1)).map pop ++ [pop (i + 1)])))
        rw [← nums_snoc]
        congr 3
        rw [d2, pop_step (show i + 1 < 256 by omega)]
        have g : ((List.range (i + 1)).map pop).getD ((i + 1) / 2) 0 = pop ((i + 1) / 2) := by
          rw [List.getD_eq_getElem?_getD, List.getElem?_map, List.getElem?_range (by omega)]
          rfl
        rw [g]
        simp
      · rw [upd_ne (ne_of_none z hs)]; exact sm _ _ z
    · rintro σ H' ⟨vg, rfl, hs', sm⟩
      refine ⟨_, rfl, ?_⟩
      refine k H' s sm hs ?_
      rw [hs', Nat.sub_add_cancel p1]
      rfl
/-- paired_with -/
def sp_paired : Sp := fun vs H Q _ => ∃ (n : Nat) (d : Addr) (l : List (Nat × Nat)), vs = [.int n, .ref d] ∧ n ≤ 8 ∧ H d = some (.dT (l.map pairK)) ∧ l.length ≤ 32 ∧ (∀ q ∈ l, q.1 < n ∧ q.2 < n) ∧ ∀ (H' : Hp) (s : Addr), Same H H' → H s = none → H' s = some (.lst (nums (pairedL n l))) → Q (.ref s) H'
theorem pairedL_take {n : Nat} {l : List (Nat × Nat)} {i : Nat} (h : i < l.length) : pairedL n (l.take (i + 1)) = (pairedL n (l.take i)).set (l.getD i (0, 0)).1 ((pairedL n (l.take i)).getD (l.getD i (0, 0)).1 0 ||| 2 ^ (l.getD i (0, 0)).2) := by
  rw [take_snoc (d := (0, 0)) h]
  unfold pairedL
  rw [List.foldl_append]
  rfl
theorem ixN_lt {n j : Nat} (h : j < n) : ixN n (j : Int) = some j := by
  unfold ixN
  rw [if_pos (by omega), if_pos (by omega)]
  simp
theorem ok_paired (M : TFun K mg "paired_with" s_paired_with ["pupils", "pairs"]) (T : Txt K mg C) : FOk P w K mg base 1 "paired_with" ["pupils", "pairs"] sp_paired := by
  obtain ⟨f, fd, F, hb, hm⟩ := M
  refine ⟨f, fd, hm, F.kp, F.ok sc_paired_with (fun vs H Q E h => ?_) (fun cdv A outer s H vs Q E hr h => ?_), hb⟩
  · obtain ⟨n, d, l, rfl, _⟩ := h
    rfl
  · obtain ⟨n, e, l, rfl, hn, he, h32, hb', k⟩ := h
    refine ⟨_, (pss_cons (ps_set (i := 2) sc_paired_with.nd rfl (Or.inl rfl) (pe_op op_rep (pe_lst (pa_cons pe_int pa_nil)) (pv 0)))
  (pss_cons (ps_lock (ps_for PassesOwn.never rfl (pi_keys (pv 1)) (pg_tup rfl (pgs_cons (pg_name (i := 3) sc_paired_with.nd rfl (Or.inl rfl)) (pgs_cons (pg_name (i := 4) sc_paired_with.nd rfl (Or.inl rfl)) pgs_nil))) (pss_one (ps_asg (pe_op op_or (pe_ix ix_L (pv 2) (pv 3) (fun _ _ => rfl)) (pe_op op_shl pe_int (pv 4))) (pg_sub (pv 2) (pv 3) set_list)))))
  (pss_one (ps_ret (pv 2))))), ?_⟩
    refine ⟨(by show 1 ≤ sizeLine; decide), fun t ht => ?_⟩
    refine ⟨_, rfl, t, _, _, rfl, rfl, upd_same, (by omega), (by omega), (by show 1 * ((n : Int)).toNat ≤ sizeLine; rw [sizeLine_eq]; omega), fun s hs => ?_⟩
    have ts : t ≠ s := ne_of_none upd_same hs
    have hs0 : H s = none := by rw [upd_ne ts.symm] at hs; exact hs
    have et : e ≠ t := ne_of_none he ht
    have es : e ≠ s := ne_of_none he hs0
    refine ⟨e, .dT (l.map pairK), (by rw [upd_ne es, upd_ne et]; exact he), trivial, fun od => ?_⟩
    have ns : (upd H e (.frz od (.dT (l.map pairK)))) s = none := by rw [upd_ne es.symm]; exact hs0
    refine ⟨_, rfl, e, od, rfl, .inr ⟨_, upd_same, ?_⟩⟩
    have pl : ∀ i, (pairedL n (l.take i)).length = n := fun i => paired_length fun q hq => (hb' q (List.mem_of_mem_take hq)).1
    refine for_any (n := l.length) (fun i σ H' => ∃ (va vb : Option V), σ = [some (.int n), some (.ref e), some (.ref s), va, vb] ∧ Same (upd H e (.frz od (.dT (l.map pairK)))) H' ∧ H' s = some (.lst (nums (pairedL n (l.take i))))) ?_ ?_ ?_ ?_ ?_
    · refine ⟨none, none, rfl, fun b o z => ?_, ?_⟩
      · by_cases q : b = e
        · subst q; rw [upd_same] at z ⊢; exact z
        · rw [upd_ne q] at z ⊢
          rw [upd_ne (ne_of_none z hs0), upd_ne (ne_of_none z ht)]
          exact z
      · rw [upd_ne es.symm, upd_same, zeros]
        rfl
    · rintro σ H' ⟨va, vb, rfl, sm, hs'⟩
      exact ⟨sm _ _ upd_same, by rw [List.length_map]; exact Nat.le_refl _⟩
    · rintro i σ H' hi ⟨va, vb, rfl, sm, hs'⟩
      exact ⟨sm _ _ upd_same, by rw [List.length_map]; exact hi⟩
    · rintro i x σ H' H'' hi ⟨va, vb, rfl, sm, hs'⟩ y
      obtain ⟨rfl, kk, v, q, hk, rfl, hq⟩ := y
      have ek := Option.some.inj (hk.symm.trans (key_at hi))
      have e1 : kk = keyP (l.getD i (0, 0)) := (Prod.mk.inj ek).1
      subst e1
      obtain ⟨b1, b2⟩ := hb' _ (getD_mem' (d := (0, 0)) hi)
      refine ⟨q, _, rfl, SqT.of hq, rfl, _, _, rfl, _, _, rfl, rfl, ?_⟩
      refine ⟨_, rfl, _, rfl, s, _, _, _, rfl, rfl, hs', nums_atI (by rw [pl]; exact b1), _, rfl, _, _, rfl, rfl, cpow_one (by omega), _, _, rfl, rfl, ?_⟩
      refine ⟨_, rfl, _, rfl, s, _, _, _, rfl, rfl, hs', ixN_lt (by rw [nums_length, pl]; exact b1), ?_⟩
      refine ⟨_, _, rfl, fun b o z => ?_, ?_⟩
      · rw [upd_ne (ne_of_none z ns)]; exact sm _ _ z
      · rw [upd_same, pairedL_take hi, ← nums_set, ← bitOr_nat, ← shl_nat]
    · rintro σ H' ⟨va, vb, rfl, sm, hs'⟩
      refine ⟨sm _ _ upd_same, _, rfl, ?_⟩
      rw [List.take_length] at hs'
      exact k _ s (Same.unlock he sm) hs0 (by rw [upd_ne es.symm]; exact hs')
end
end Rs
end
section
set_option Elab.async false
set_option linter.all false
set_option maxRecDepth 100000
set_option maxHeartbeats 4000000
namespace Rs
open PySem PySem.Spec PyProof.Rows L2
open Ks306 (Abs Call act looked keepsPins put has pairOk there)
section
variable {P : Program} {w : World} {K : PySem.W.Frag} {mg : Str → Option Value} {base : Heap} {C : Addr}
theorem bit_ne {g p : Nat} : (¬ ((g &&& 2 ^ p : Nat) : Int) = 0) ↔ g.testBit p = true := by
  have := and_bit_zero (g := g) (p := p)
  cases e : g.testBit p
  · rw [this.mpr e]; simp
  · simp only [iff_true]
    intro z
    rw [this.mp (by omega)] at e
    cases e
theorem and_shl (g p : Nat) : Builtin.bitAnd (g : Int) ((1 : Int) * 2 ^ ((p : Int)).toNat) = ((g &&& 2 ^ p : Nat) : Int) := by rw [shl_nat, bitAnd_nat]
/-- worth_together -/
def sp_worth_together : Sp := fun vs H Q _ => ∃ (g n : Nat) (a b s : Addr) (W B : List Nat), vs = [.int g, .ref a, .ref b, .ref s] ∧ n ≤ 8 ∧ g < 2 ^ n ∧ H a = some (.lst (nums W)) ∧ H b = some (.lst (nums B)) ∧ H s = some (.lst (nums (sizesL n))) ∧ W.length = n ∧ B.length = n ∧ Q (.int (togW n W B g)) H
theorem sizes_at {n g : Nat} (h : g < 2 ^ n) : atI (nums (sizesL n)) (g : Int) = some (.int (pop g : Nat)) := by
  have l : g < (sizesL n).length := by unfold sizesL; rw [List.length_map, List.length_range]; exact h
  rw [nums_atI l]
  unfold sizesL
  rw [List.getD_eq_getElem?_getD, List.getElem?_map, List.getElem?_range h]
  rfl
theorem badG_upto {n i : Nat} {B : List Nat} {g : Nat} (h : ∀ p, p < i → ¬ (g.testBit p = true ∧ ¬ (g &&& B.getD p 0) = 0)) (e : i = n) : badG n B g = false := by
  subst e
  cases z : badG i B g
  · rfl
  · unfold badG at z
    rw [List.any_eq_true] at z
    obtain ⟨p, hp, q⟩ := z
    rw [Bool.and_eq_true, bne_iff_ne] at q
    exact absurd q (h p (List.mem_range.mp hp))
theorem badG_at {n p : Nat} {B : List Nat} {g : Nat} (hp : p < n) (h1 : g.testBit p = true) (h2 : ¬ (g &&& B.getD p 0) = 0) : badG n B g = true := by
  unfold badG
  rw [List.any_eq_true]
  exact ⟨p, List.mem_range.mpr hp, by rw [Bool.and_eq_true, bne_iff_ne]; exact ⟨h1, h2⟩⟩
theorem ok_worth_together (M : TFun K mg "worth_together" s_worth_together ["group", "wished", "barred", "sizes"]) (T : Txt K mg C) : FOk P w K mg base 1 "worth_together" ["group", "wished", "barred", "sizes"] sp_worth_together := by
  obtain ⟨f, fd, F, hb, hm⟩ := M
  refine ⟨f, fd, hm, F.kp, F.ok sc_worth_together (fun vs H Q E h => ?_) (fun cdv A outer s H vs Q E hr h => ?_), hb⟩
  · obtain ⟨g, n, a, b, s, W, B, rfl, _⟩ := h
    rfl
  · obtain ⟨g, n, a, b, s, W, B, rfl, hn, hg, ha, hB, hs, lw, lb, k⟩ := h
    obtain ⟨p1, p2⟩ := pow_le_256 hn
    refine ⟨_, (pss_cons (ps_set (i := 4) sc_worth_together.nd rfl (Or.inl rfl) pe_int)
  (pss_cons (ps_for PassesOwn.never rfl (pi_range1 rfl T.range (pa_cons (pe_callB call_lenL (by rfl) T.len PySem.boot_len (pa_cons (pv 1) pa_nil)) pa_nil)) (pg_name (i := 5) sc_worth_together.nd rfl (Or.inl rfl)) (pss_cons (ps_if (pt_cmpR op_eq (pe_op op_and (pv 0) (pe_op op_shl pe_int (pv 5))) pe_int (nomark _)) (pss_one (ps_continue)) pss_nil)
  (pss_cons (ps_if (pt_cmpR op_ne (pe_op op_and (pv 0) (pe_ix ix_L (pv 2) (pv 5) (fun _ _ => rfl))) pe_int (nomark _)) (pss_one (ps_ret (pe_globI T.c_MAY_NOT_BE))) pss_nil)
  (pss_cons (ps_set (i := 6) sc_worth_together.nd rfl (Or.inl rfl) (pe_op op_and (pv 0) (pe_ix ix_L (pv 1) (pv 5) (fun _ _ => rfl))))
  (pss_cons (ps_aug (i := 4) sc_worth_together.nd rfl (Or.inl rfl) (pe_op op_mul (pe_ix ix_L (pv 3) (pv 6) (fun _ _ => rfl)) (pe_globI T.c_ONE_FULFILLED)) ip_add)
  (pss_one (ps_if (PW.pt (pw_or (pt_cmpR op_ne (pv 6) pe_int (nomark _)) (pw_or1 (pt_cmpR op_eq (pe_ix ix_L (pv 1) (pv 5) (fun _ _ => rfl)) pe_int (nomark _))))) (pss_one (ps_aug (i := 4) sc_worth_together.nd rfl (Or.inl rfl) (pe_globI T.c_ONE_CONTENT) ip_add)) pss_nil)))))))
  (pss_one (ps_ret (pv 4))))), ?_⟩
    refine ⟨_, rfl, a, _, rfl, ha, _, rfl, (by rw [nums_length]; omega), (by rw [nums_length]; omega), ?_⟩
    refine for_any (n := n) (fun i σ H' => ∃ (vp vf : Option V), σ = [some (.int g), some (.ref a), some (.ref b), some (.ref s), some (.int (sumN i fun p => if g.testBit p then oneW W g p else 0)), vp, vf] ∧ H' = H ∧ ∀ p, p < i → ¬ (g.testBit p = true ∧ ¬ (g &&& B.getD p 0) = 0)) ?_ ?_ ?_ ?_ ?_
    · exact ⟨none, none, rfl, rfl, fun p hp => absurd hp (Nat.not_lt_zero _)⟩
    · intro σ H' _
      show _ ≤ _
      rw [nums_length, lw]; omega
    · intro i σ H' hi _
      show _ < _
      rw [nums_length, lw]; omega
    · rintro i x σ H' H'' hi ⟨vp, vf, rfl, rfl, nb⟩ y
      obtain ⟨rfl, rfl⟩ := y
      have zi : (0 : Int) + (i : Int) = (i : Int) := Int.zero_add _
      rw [zi]
      refine ⟨_, rfl, _, rfl, _, _, rfl, rfl, cpow_one (by omega), _, _, rfl, rfl, rfl, _, rfl, ?_⟩
      refine ite2 (fun c => ?_) (fun c => ?_)
      · have c := of_decide_eq_true c
        injection c with c
        rw [and_shl] at c
        have bit : g.testBit i = false := and_bit_zero.mp (by omega)
        refine ⟨some (.int (i : Nat)), vf, ?_, rfl, fun p hp => ?_⟩
        · rw [sumN_succ]
          simp only [bit, Bool.false_eq_true, if_false, Int.add_zero]
          rfl
        · by_cases e : p = i
          · subst e; rw [bit]; simp
          · exact nb p (by omega)
      · have bit : g.testBit i = true := bit_ne.mp fun z => c (decide_eq_true (congrArg V.int ((and_shl g i).trans z)))
        refine ⟨_, rfl, _, rfl, _, rfl, b, _, _, _, rfl, rfl, hB, nums_atI (by omega), _, _, rfl, rfl, rfl, _, rfl, ?_⟩
        refine ite2 (fun c2 => ?_) (fun c2 => ?_)
        · have c2 : ¬ (g &&& B.getD i 0) = 0 := fun z => by
            rw [Bool.not_eq_true', decide_eq_false_iff_not] at c2
            exact c2 (congrArg V.int ((bitAnd_nat g (B.getD i 0)).trans (by rw [z]; rfl)))
          have e : togW n W B g = NOT := by
            unfold togW
            rw [if_pos (badG_at hi bit c2)]
          rw [e] at k
          exact k
        · have c2 : (g &&& B.getD i 0) = 0 := Classical.byContradiction fun z => c2 (by
            rw [Bool.not_eq_true', decide_eq_false_iff_not]
            intro y
            injection y with y
            rw [bitAnd_nat] at y
            omega)
          refine ⟨_, rfl, _, rfl, _, rfl, a, _, _, _, rfl, rfl, ha, nums_atI (by omega), _, _, rfl, rfl, ?_⟩
          have hle : (g &&& W.getD i 0) < 2 ^ n := Nat.lt_of_le_of_lt Nat.and_le_left hg
          have hpl := pop_le (g &&& W.getD i 0)
          have at2 : atI (nums (sizesL n)) (Builtin.bitAnd (g : Int) (W.getD i 0 : Nat)) = some (.int (pop (g &&& W.getD i 0) : Nat)) := by
            rw [bitAnd_nat]
            exact sizes_at hle
          refine ⟨_, rfl, _, rfl, _, rfl, s, _, _, _, rfl, rfl, hs, at2, _, _, rfl, rfl, .inl ⟨by omega, by omega⟩, _, _, rfl, rfl, ?_⟩
          have nb' : ∀ p, p < i + 1 → ¬ (g.testBit p = true ∧ ¬ (g &&& B.getD p 0) = 0) := fun p hp => by
            by_cases e : p = i
            · subst e; rw [c2]; simp
            · exact nb p (by omega)
          have su : sumN (i + 1) (fun p => if g.testBit p then oneW W g p else 0) = sumN i (fun p => if g.testBit p then oneW W g p else 0) + oneW W g i := by
            rw [sumN_succ]
            simp only [bit, if_true]
          refine ⟨_, rfl, rfl, _, rfl, ?_⟩
          refine ite2 (fun c3 => ?_) (fun c3 => ?_)
          · have c3 : ¬ (g &&& W.getD i 0) = 0 := fun z => by
              rw [Bool.not_eq_true', decide_eq_false_iff_not] at c3
              exact c3 (congrArg V.int ((bitAnd_nat g (W.getD i 0)).trans (by rw [z]; rfl)))
            refine iteT ⟨_, rfl, _, _, rfl, rfl, some (.int (i : Nat)), some (.int (Builtin.bitAnd (g : Int) (W.getD i 0 : Nat))), ?_, rfl, nb'⟩
            rw [su]
            unfold oneW
            rw [if_pos (.inl c3)]
            simp only [List.set_cons_succ, List.set_cons_zero, Int.add_assoc]
          · have c3 : (g &&& W.getD i 0) = 0 := Classical.byContradiction fun z => c3 (by
              rw [Bool.not_eq_true', decide_eq_false_iff_not]
              intro y
              injection y with y
              rw [bitAnd_nat] at y
              omega)
            refine ⟨_, rfl, _, rfl, a, _, _, _, rfl, rfl, ha, nums_atI (by omega), rfl, _, rfl, ?_⟩
            refine ite2 (fun c4 => ?_) (fun c4 => ?_)
            · have c4 := of_decide_eq_true c4
              injection c4 with c4
              refine ⟨_, rfl, _, _, rfl, rfl, some (.int (i : Nat)), some (.int (Builtin.bitAnd (g : Int) (W.getD i 0 : Nat))), ?_, rfl, nb'⟩
              rw [su]
              unfold oneW
              rw [if_pos (.inr (by omega))]
              simp only [List.set_cons_succ, List.set_cons_zero, Int.add_assoc]
            · refine ⟨some (.int (i : Nat)), some (.int (Builtin.bitAnd (g : Int) (W.getD i 0 : Nat))), ?_, rfl, nb'⟩
              rw [su]
              unfold oneW
              rw [if_neg]
              · simp only [List.set_cons_succ, List.set_cons_zero, Int.add_zero]
              · rintro (z | z)
                · exact z c3
                · exact c4 (decide_eq_true (by rw [z]; rfl))
    · rintro σ H' ⟨vp, vf, rfl, rfl, nb⟩
      refine ⟨_, rfl, ?_⟩
      have e : togW n W B g = sumN n fun p => if g.testBit p then oneW W g p else 0 := by
        unfold togW
        rw [if_neg (by rw [badG_upto nb rfl]; decide)]
      rw [← e]
      exact k
theorem behind_at {j : Nat} (h : j < 8) : atI [V.int 16384, V.int 4096, V.int 1024, V.int 256, V.int 64, V.int 16, V.int 4, V.int 1] (j : Int) = some (.int ((4 ^ (7 - j) : Nat) : Int)) := by
  match j, h with
  | 0, _ => rfl
  | 1, _ => rfl
  | 2, _ => rfl
  | 3, _ => rfl
  | 4, _ => rfl
  | 5, _ => rfl
  | 6, _ => rfl
  | 7, _ => rfl
/-- worth_of_order -/
def sp_order : Sp := fun vs H Q _ => ∃ (g n : Nat), vs = [.int g, .int n] ∧ n ≤ 8 ∧ ∀ H', Same H H' → Q (.int (ordG n g)) H'
theorem ok_order (M : TFun K mg "worth_of_order" s_worth_of_order ["group", "pupils"]) (T : Txt K mg C) : FOk P w K mg base 1 "worth_of_order" ["group", "pupils"] sp_order := by
  obtain ⟨aO, g_ONE_ROOM_BEHIND, hO⟩ := T.t_ONE_ROOM_BEHIND
  obtain ⟨f, fd, F, hb, hm⟩ := M
  refine ⟨f, fd, hm, F.kp, F.ok sc_worth_of_order (fun vs H Q E h => ?_) (fun cdv A outer s H vs Q E hr h => ?_), hb⟩
  · obtain ⟨g, n, rfl, _⟩ := h
    rfl
  · obtain ⟨g, n, rfl, hn, k⟩ := h
    refine ⟨_, (pss_one (ps_ret (pe_callB (cr_sum rfl) (by rfl) T.sum (by decide +kernel) (pa_cons (pe_lc rfl sc_worth_of_order.nd (pi_range1 rfl T.range (pa_cons (pv 1) pa_nil)) (blkOk_by (own := [("pupil", 2)]) (by change blkC ["group", "pupils", "pupil"] (defScope s_worth_of_order) _ _ = true; decide +kernel)) (fun _ _ _ _ _ => (pg_name (i := 2) sc_worth_of_order.nd rfl (Or.inl rfl))) (fun _ _ _ _ _ => (pts_one (pt_cmpR op_ne (pe_op op_and (pv 0) (pe_op op_shl pe_int (pv 2))) pe_int (nomark _)))) (fun _ _ _ _ _ => (pe_ix (ix_tupK (K := K) rfl) (pe_globR g_ONE_ROOM_BEHIND) (pv 2) (fun _ _ => rfl)))) pa_nil)))), ?_⟩
    refine ⟨_, rfl, _, rfl, (by omega), (by omega), fun D hD => ?_⟩
    refine lc_any (n := n) (Grow H D fun i => ((List.range i).filter fun j => g.testBit j).map fun j => V.int ((4 ^ (7 - j) : Nat) : Int)) (L2.Grow.start hD rfl) (fun H' gr => ?_) (fun i H' hi gr => ?_) (fun i x H' H'' hi gr y => ?_) (fun H' gr => ?_)
    · show _ ≤ _
      omega
    · show _ < _
      omega
    · obtain ⟨rfl, rfl⟩ := y
      have zi : (0 : Int) + (i : Int) = (i : Int) := Int.zero_add _
      rw [zi]
      refine ⟨rfl, _, rfl, _, rfl, _, _, rfl, rfl, cpow_one (by omega), _, _, rfl, rfl, rfl, _, rfl, ?_⟩
      refine ite2 (fun c => ?_) (fun c => ?_)
      · have bit : g.testBit i = true := bit_ne.mp fun z => by
          rw [Bool.not_eq_true', decide_eq_false_iff_not] at c
          exact c (congrArg V.int ((and_shl g i).trans z))
        refine ⟨_, rfl, aO, _, _, _, rfl, rfl, hO _, behind_at (by omega), ?_⟩
        exact Grow.yes hD gr (Same.refl _) bit rfl (by omega)
      · refine Grow.no gr (Same.refl _) ?_
        cases e : g.testBit i
        · rfl
        · exact absurd (by
            rw [Bool.not_eq_true', decide_eq_false_iff_not]
            intro y
            injection y with y
            rw [and_shl] at y
            exact bit_ne.mpr e y) c
    · refine ⟨D, ((List.range n).filter fun j => g.testBit j).map fun j => ((4 ^ (7 - j) : Nat) : Int), rfl, SqL.of (by rw [gr.at, List.map_map]; rfl), ?_⟩
      rw [sum_range]
      exact k H' gr.same
/-- pinned_to -/
def sp_pinned : Sp := fun vs H Q _ => ∃ (q : Addr) (N : List Nat) (r : Nat), vs = [.ref q, .int r] ∧ H q = some (.lst (nums N)) ∧ N.length ≤ 8 ∧ ∀ H', Same H H' → Q (.int (hereG N.length N r : Nat)) H'
theorem ok_pinned (M : TFun K mg "pinned_to" s_pinned_to ["pins", "room"]) (T : Txt K mg C) : FOk P w K mg base 1 "pinned_to" ["pins", "room"] sp_pinned := by
  obtain ⟨f, fd, F, hb, hm⟩ := M
  refine ⟨f, fd, hm, F.kp, F.ok sc_pinned_to (fun vs H Q E h => ?_) (fun cdv A outer s H vs Q E hr h => ?_), hb⟩
  · obtain ⟨q, N, r, rfl, _⟩ := h
    rfl
  · obtain ⟨q, N, r, rfl, hq, hn, k⟩ := h
    refine ⟨_, (pss_one (ps_ret (pe_callB (cr_sum rfl) (by rfl) T.sum (by decide +kernel) (pa_cons (pe_lc rfl sc_pinned_to.nd (pi_enum (by rfl) T.enumerate (pa_cons (pv 0) pa_nil)) (blkOk_by (own := [("pupil", 2), ("where", 3)]) (by change blkC ["pins", "room", "pupil", "where"] (defScope s_pinned_to) _ _ = true; decide +kernel)) (fun _ _ _ _ _ => (pg_tupK (K := K) (n := 2) rfl rfl (pgs_cons (pg_name (i := 2) sc_pinned_to.nd rfl (Or.inl rfl)) (pgs_cons (pg_name (i := 3) sc_pinned_to.nd rfl (Or.inl rfl)) pgs_nil)))) (fun _ _ _ _ _ => (pts_one (pt_cmpR op_eq (pv 3) (pe_op op_add (pv 1) pe_int) (nomark _)))) (fun _ _ _ _ _ => (pe_op op_shl pe_int (pv 2)))) pa_nil)))), ?_⟩
    refine ⟨_, rfl, q, _, rfl, SqL.of hq, fun D hD => ?_⟩
    refine lc_any (n := N.length) (Grow H D fun i => ((List.range i).filter fun j => N.getD j 0 == r + 1).map fun j => V.int ((2 ^ j : Nat) : Int)) (L2.Grow.start hD rfl) (fun H' gr => ?_) (fun i H' hi gr => ?_) (fun i x H' H'' hi gr y => ?_) (fun H' gr => ?_)
    · exact ⟨_, gr.same.seq (SqL.of hq), by rw [nums_length]; exact Nat.le_refl _⟩
    · exact ⟨_, _, gr.same.seq (SqL.of hq), nums_at hi⟩
    · obtain ⟨t, u, rfl, ht, rfl, hu⟩ := y
      have eu := Option.some.inj ((hu _ (gr.same.seq (SqL.of hq))).symm.trans (nums_at hi))
      subst eu
      refine ⟨t, _, rfl, SqT.of upd_same, rfl, _, _, rfl, _, _, rfl, rfl, rfl, ?_⟩
      refine ⟨_, rfl, _, rfl, _, _, rfl, rfl, rfl, _, rfl, ?_⟩
      refine ite2 (fun c => ?_) (fun c => ?_)
      · have c := of_decide_eq_true c
        injection c with c
        refine ⟨_, rfl, _, _, rfl, rfl, cpow_one (by omega), ?_⟩
        exact Grow.yes hD gr (Same.new ht) (by rw [beq_iff_eq]; omega) (congrArg V.int (shl_nat i).symm) (by omega)
      · refine Grow.no gr (Same.new ht) ?_
        rw [beq_eq_false_iff_ne]
        intro z
        exact c (decide_eq_true (by rw [z]; rfl))
    · refine ⟨D, ((List.range N.length).filter fun j => N.getD j 0 == r + 1).map fun j => ((2 ^ j : Nat) : Int), rfl, SqL.of (by rw [gr.at, List.map_map]; rfl), ?_⟩
      rw [sum_range, bitsOf_sum]
      exact k H' gr.same
end
end Rs
end
section
set_option Elab.async false
set_option linter.all false
set_option maxRecDepth 100000
set_option maxHeartbeats 4000000
namespace Rs
open PySem PySem.Spec PyProof.Rows L2
open Ks306 (Abs Call act looked keepsPins put has pairOk there)
/-! ### a list of lists -/
structure Rows (H : Hp) (ps : List Addr) (L : List (List V)) : Prop where
  len : ps.length = L.length
  «at» : ∀ (i : Nat) (a : Addr), ps[i]? = some a → H a = some (.lst (L.getD i []))
theorem Rows.same {H H' : Hp} {ps : List Addr} {L : List (List V)} (r : Rows H ps L) (s : Same H H') : Rows H' ps L := ⟨r.len, fun i a h => s _ _ (r.at i a h)⟩
theorem Rows.snoc {H : Hp} {ps : List Addr} {L : List (List V)} {a : Addr} {x : List V} (r : Rows H ps L) (h : H a = some (.lst x)) : Rows H (ps ++ [a]) (L ++ [x]) := by
  refine ⟨by rw [List.length_append, List.length_append, r.len]; rfl, fun i b hb => ?_⟩
  by_cases e : i < ps.length
  · rw [List.getElem?_append_left e] at hb
    rw [List.getD_eq_getElem?_getD, List.getElem?_append_left (by rw [← r.len]; exact e), ← List.getD_eq_getElem?_getD]
    exact r.at i b hb
  · rw [List.getElem?_append_right (by omega)] at hb
    have e2 : i - ps.length = 0 := by
      have := (List.getElem?_eq_some_iff.mp hb).1
      simpa using this
    rw [e2] at hb
    have e3 : a = b := Option.some.inj hb
    subst e3
    rw [List.getD_eq_getElem?_getD, List.getElem?_append_right (by rw [← r.len]; omega), ← r.len, e2]
    exact h
theorem Rows.upd {H : Hp} {ps : List Addr} {L : List (List V)} {c : Addr} {o : HO} (r : Rows H ps L) (n : ¬ c ∈ ps) : Rows (L2.upd H c o) ps L :=
  ⟨r.len, fun i a h => by
    rw [upd_ne (fun e => n (by rw [← e]; exact List.mem_of_getElem? h))]
    exact r.at i a h⟩
theorem Rows.get {H : Hp} {ps : List Addr} {L : List (List V)} (r : Rows H ps L) {i : Nat} (h : i < L.length) : ∃ a, ps[i]? = some a ∧ H a = some (.lst (L.getD i [])) := by
  have h' : i < ps.length := by rw [r.len]; exact h
  exact ⟨ps[i], List.getElem?_eq_getElem h', r.at i _ (List.getElem?_eq_getElem h')⟩
theorem refs_at {ps : List Addr} {i : Nat} {a : Addr} (h : ps[i]? = some a) : (ps.map V.ref)[i]? = some (.ref a) := by rw [List.getElem?_map, h]; rfl
theorem refs_atI {ps : List Addr} {i : Nat} {a : Addr} (h : ps[i]? = some a) : atI (ps.map V.ref) (i : Int) = some (.ref a) := atI_nat (refs_at h)
theorem atI_minus1 {α : Type} {xs : List α} {n : Nat} {v : α} (hl : xs.length = n + 1) (h : xs[n]? = some v) : atI xs (-1) = some v := by
  unfold atI ixN
  rw [hl, if_neg (by decide), if_pos (by omega)]
  show xs[(-1 + ((n + 1 : Nat) : Int)).toNat]? = some v
  rw [show (-1 + ((n + 1 : Nat) : Int)).toNat = n by omega]
  exact h
section
variable {P : Program} {w : World} {K : PySem.W.Frag} {mg : Str → Option Value} {base : Heap} {C : Addr}
/-- group_parts -/
def sp_parts : Sp := fun vs H Q _ => ∃ n : Nat, vs = [.int n] ∧ n ≤ 8 ∧ ∀ (H' : Hp) (p : Addr) (ps : List Addr), Same H H' → H p = none → H' p = some (.lst (ps.map V.ref)) → Rows H' ps ((partsT n).map nums) → Q (.ref p) H'
/-- the parts behind j groups of the pupil p -/
def partsJ (p j : Nat) : List (List Nat) := partsT p ++ ((partsT p).take j).map fun (w : List Nat) => w ++ w.map (· + 2 ^ p)
theorem partsJ_zero (p : Nat) : partsJ p 0 = partsT p := by unfold partsJ; simp
theorem partsJ_all (p : Nat) : partsJ p (2 ^ p) = partsT (p + 1) := by
  have h : (partsT p).take (2 ^ p) = partsT p := by rw [← partsT_length p, List.take_length]
  unfold partsJ
  rw [h]
  rfl
theorem partsJ_succ {p j : Nat} (h : j < 2 ^ p) : partsJ p (j + 1) = partsJ p j ++ [(partsT p).getD j [] ++ ((partsT p).getD j []).map (· + 2 ^ p)] := by
  unfold partsJ
  rw [take_snoc (d := []) (by rw [partsT_length]; exact h), List.map_append, List.append_assoc]
  rfl
theorem partsJ_length {p j : Nat} (h : j ≤ 2 ^ p) : (partsJ p j).length = 2 ^ p + j := by
  unfold partsJ
  rw [List.length_append, List.length_map, List.length_take, partsT_length, Nat.min_eq_left h]
theorem partsJ_low {p j g : Nat} (h : g < 2 ^ p) : (partsJ p j).getD g [] = (partsT p).getD g [] := by
  unfold partsJ
  rw [List.getD_eq_getElem?_getD, List.getElem?_append_left (by rw [partsT_length]; exact h), ← List.getD_eq_getElem?_getD]
theorem map_getD {α β : Type} (f : α → β) (l : List α) (i : Nat) (d : α) (e : β) (h : i < l.length) : (l.map f).getD i e = f (l.getD i d) := by
  rw [List.getD_eq_getElem?_getD, List.getD_eq_getElem?_getD, List.getElem?_map, List.getElem?_eq_getElem h]
  rfl
/-- between two turns -/
structure PartsAt (H0 : Hp) (p : Addr) (L : List (List Nat)) (H : Hp) : Prop where
  same : Same H0 H
  ex : ∃ ps : List Addr, H p = some (.lst (ps.map V.ref)) ∧ Rows H ps (L.map nums) ∧ ¬ p ∈ ps
theorem ok_parts (M : TFun K mg "group_parts" s_group_parts ["pupils"]) (T : Txt K mg C) : FOk P w K mg base 1 "group_parts" ["pupils"] sp_parts := by
  obtain ⟨f, fd, F, hb, hm⟩ := M
  refine ⟨f, fd, hm, F.kp, F.ok sc_group_parts (fun vs H Q E h => ?_) (fun cdv A outer s H vs Q E hr h => ?_), hb⟩
  · obtain ⟨n, rfl, _⟩ := h
    rfl
  · obtain ⟨n, rfl, hn, k⟩ := h
    refine ⟨_, (pss_cons (ps_set (i := 1) sc_group_parts.nd rfl (Or.inl rfl) (pe_lst (pa_cons (pe_lst (pa_cons pe_int pa_nil)) pa_nil)))
  (pss_cons (ps_for PassesOwn.never rfl (pi_range1 rfl T.range (pa_cons (pv 0) pa_nil)) (pg_name (i := 2) sc_group_parts.nd rfl (Or.inr rfl)) (pss_one (ps_for PassesOwn.never rfl (pi_range1 rfl T.range (pa_cons (pe_op op_shl pe_int (pv 2)) pa_nil)) (pg_name (i := 3) sc_group_parts.nd rfl (Or.inl rfl)) (pss_cons (ps_set (i := 4) sc_group_parts.nd rfl (Or.inl rfl) (pe_ix ix_L (pv 1) (pv 3) (fun _ _ => rfl)))
  (pss_one (ps_expr (pe_bm PySem.F.plainAttrs_list PySem.F.slot_list_append PySem.F.type_list_append mt_append (pv 1) (pa_cons (pe_op op_cat (pv 4) (pe_lc rfl sc_group_parts.nd (pi_list (pv 4)) (blkOk_by (own := [("part", 5)]) (by change blkC ["pupils", "parts", "pupil", "group", "without", "part"] (defScope s_group_parts) _ _ = true; decide +kernel)) (fun _ _ _ _ _ => (pg_name (i := 5) sc_group_parts.nd rfl (Or.inl rfl))) (fun _ _ _ _ _ => pts_nil) (fun _ _ _ _ _ => (pe_op op_add (pv 5) (pe_op op_shl pe_int (pv 2)))))) pa_nil))))))))
  (pss_one (ps_ret (pv 1))))), ?_⟩
    refine ⟨(by show 1 ≤ sizeLine; decide), fun a0 ha0 => ⟨(by show 1 ≤ sizeLine; decide), fun p hp => ?_⟩⟩
    have ap : a0 ≠ p := ne_of_none upd_same hp
    have hp0 : H p = none := by rw [upd_ne ap.symm] at hp; exact hp
    refine ⟨_, rfl, _, rfl, (by omega), (by omega), ?_⟩
    refine for_any (n := n) (fun i σ H' => ∃ (v1 v2 v3 : Option V), σ = [some (.int n), some (.ref p), v1, v2, v3, none] ∧ PartsAt H p (partsT i) H') ?_ ?_ ?_ ?_ ?_
    · refine ⟨none, none, none, rfl, (Same.new ha0).trans (Same.new hp), [a0], ?_, ⟨rfl, fun i a h => ?_⟩, by simpa using ap.symm⟩
      · rw [upd_same]; rfl
      · cases i with
        | zero =>
          have e : a0 = a := Option.some.inj h
          subst e
          rw [upd_ne ap, upd_same]
          rfl
        | succ i => simp at h
    · intro σ H' _
      show _ ≤ _
      omega
    · intro i σ H' hi _
      show _ < _
      omega
    · rintro i x σ H' H'' hi ⟨v1, v2, v3, rfl, pa⟩ y
      obtain ⟨rfl, rfl⟩ := y
      have zi : (0 : Int) + (i : Int) = (i : Int) := Int.zero_add _
      rw [zi]
      obtain ⟨p1, p2⟩ := pow_le_256 (show i ≤ 8 by omega)
      have e : ((1 : Int) * 2 ^ ((i : Int)).toNat) = ((2 ^ i : Nat) : Int) := shl_nat i
      refine ⟨_, rfl, _, _, rfl, rfl, cpow_one (by omega), _, rfl, (by rw [e]; omega), (by rw [e]; omega), ?_⟩
      refine for_any (n := 2 ^ i) (fun j σ H' => ∃ (v2 v3 : Option V), σ = [some (.int n), some (.ref p), some (.int i), v2, v3, none] ∧ PartsAt H p (partsJ i j) H') ?_ ?_ ?_ ?_ ?_
      · exact ⟨_, _, rfl, by rw [partsJ_zero]; exact pa⟩
      · intro σ H' _
        show _ ≤ _
        rw [e]; omega
      · intro j σ H' hj _
        show _ < _
        rw [e]; omega
      · rintro j x σ H' H'' hj ⟨v2, v3, rfl, sm, ps, hps, rows, nps⟩ y
        obtain ⟨rfl, rfl⟩ := y
        have zj : (0 : Int) + (j : Int) = (j : Int) := Int.zero_add _
        rw [zj]
        have pj := partsJ_length (p := i) (j := j) (by omega)
        obtain ⟨a, ha, hal⟩ := rows.get (i := j) (by rw [List.length_map, pj]; omega)
        have hl0 : ((partsJ i j).map nums).getD j [] = nums ((partsT i).getD j []) := by
          rw [map_getD nums _ j [] [] (by rw [pj]; omega), partsJ_low hj]
        rw [hl0] at hal
        have hlen : ((partsT i).getD j []).length ≤ 2 ^ i := parts_len (getD_mem' (by rw [partsT_length]; exact hj))
        -- without = parts[group]
        refine ⟨_, rfl, _, rfl, p, _, _, _, rfl, rfl, hps, refs_atI ha, ?_⟩
        -- parts.append(without + [..])
        refine ⟨_, rfl, .inl ⟨rfl, _, SqL.of hps⟩, _, rfl, _, rfl, a, rfl, ⟨_, SqL.of hal⟩, fun D hD => ?_⟩
        refine lc_any (n := ((partsT i).getD j []).length) (Grow H'' D fun m => (List.range m).map fun t => V.int ((((partsT i).getD j []).getD t 0 + 2 ^ i : Nat) : Int)) (L2.Grow.start hD rfl) (fun H' g => ?_) (fun m H' hm g => ?_) (fun m x H' H3 hm g y => ?_) (fun H' g => ?_)
        · exact ⟨_, g.same.seq (SqL.of hal), by rw [nums_length]; exact Nat.le_refl _⟩
        · exact ⟨_, _, g.same.seq (SqL.of hal), nums_at hm⟩
        · obtain ⟨rfl, y⟩ := y
          have ex := Option.some.inj ((y _ (g.same.seq (SqL.of hal))).symm.trans (nums_at hm))
          subst ex
          refine ⟨rfl, yesT ⟨_, rfl, _, rfl, _, _, rfl, rfl, cpow_one (by omega), _, _, rfl, rfl, ?_⟩⟩
          refine Grow.one hD g (Same.refl _) ?_ (by omega)
          rw [e]
          congr 1
        · have eD : H' D = some (.lst (nums (((partsT i).getD j []).map (· + 2 ^ i)))) := by
            rw [g.at]
            congr 2
            unfold nums
            rw [List.map_map]
            apply List.ext_getElem?
            intro t
            rw [List.getElem?_map, List.getElem?_map]
            by_cases ht : t < ((partsT i).getD j []).length
            · rw [List.getElem?_range ht, List.getElem?_eq_getElem ht]
              simp only [Option.map_some, Function.comp]
              rw [List.getD_eq_getElem?_getD (l := (partsT i).getD j []), List.getElem?_eq_getElem ht]
              rfl
            · rw [List.getElem?_eq_none (by rw [List.length_range]; omega), List.getElem?_eq_none (by omega)]
              rfl
          refine ⟨a, D, _, _, rfl, rfl, g.same _ _ hal, eD, (by rw [nums_length, nums_length, List.length_map, sizeLine_eq]; omega), fun c hc => ?_⟩
          have s4 : Same H'' (L2.upd H' c (.lst (nums ((partsT i).getD j []) ++ nums (((partsT i).getD j []).map (· + 2 ^ i))))) := g.same.trans (Same.new hc)
          have hps4 := s4 _ _ hps
          have pc : p ≠ c := ne_of_none (g.same _ _ hps) hc
          refine ⟨p, _, _, rfl, rfl, hps4, (by rw [List.length_map, rows.len, List.length_map, pj, sizeLine_eq]; omega), ?_⟩
          refine ⟨_, _, rfl, fun b o z => ?_, ps ++ [c], ?_, ?_, ?_⟩
          · rw [upd_ne (ne_of_none z hp0)]; exact s4 _ _ (sm _ _ z)
          · rw [upd_same, List.map_append]; rfl
          · rw [partsJ_succ hj, List.map_append]
            refine Rows.upd (Rows.snoc (rows.same s4) ?_) ?_
            · rw [upd_same]
              unfold nums
              rw [List.map_append]
            · rw [List.mem_append, List.mem_singleton]
              exact fun z => z.elim nps pc
          · rw [List.mem_append, List.mem_singleton]
            exact fun z => z.elim nps pc
      · rintro σ H' ⟨v2, v3, rfl, pa'⟩
        rw [partsJ_all] at pa'
        exact ⟨_, _, _, rfl, pa'⟩
    · rintro σ H' ⟨v1, v2, v3, rfl, sm, ps, hps, rows, _⟩
      exact ⟨_, rfl, k H' p ps sm hp0 hps rows⟩
/-- best_split -/
def sp_split : Sp := fun vs H Q _ => ∃ (g : Nat) (p a b : Addr) (Ps : List Nat) (A B : List Int), vs = [.int g, .ref p, .ref a, .ref b] ∧ H p = some (.lst (nums Ps)) ∧ H a = some (.lst (intsV A)) ∧ H b = some (.lst (intsV B)) ∧ Ps ≠ [] ∧ Ps.length ≤ 256 ∧
  (∀ x ∈ Ps, x ≤ g ∧ x < A.length ∧ g - x < B.length) ∧ ∀ H', Same H H' → Q (.int (mx (Ps.map fun x => A.getD x 0 + B.getD (g - x) 0))) H'
theorem range_map {α β : Type} (f : α → β) (d : α) (l : List α) : (List.range l.length).map (fun j => f (l.getD j d)) = l.map f := by
  apply List.ext_getElem?
  intro j
  rw [List.getElem?_map, List.getElem?_map]
  by_cases hj : j < l.length
  · rw [List.getElem?_range hj, List.getElem?_eq_getElem hj, Option.map_some, List.getD_eq_getElem?_getD, List.getElem?_eq_getElem hj]
    rfl
  · rw [List.getElem?_eq_none (by rw [List.length_range]; omega), List.getElem?_eq_none (by omega)]
    rfl
theorem ok_split (M : TFun K mg "best_split" s_best_split ["group", "parts", "first", "second"]) (T : Txt K mg C) : FOk P w K mg base 1 "best_split" ["group", "parts", "first", "second"] sp_split := by
  obtain ⟨f, fd, F, hb, hm⟩ := M
  refine ⟨f, fd, hm, F.kp, F.ok sc_best_split (fun vs H Q E h => ?_) (fun cdv A outer s H vs Q E hr h => ?_), hb⟩
  · obtain ⟨g, p, a, b, Ps, A, B, rfl, _⟩ := h
    rfl
  · obtain ⟨g, p, a, b, Ps, A, B, rfl, hp, ha, hB, hne, h256, hin, k⟩ := h
    refine ⟨_, (pss_one (ps_ret (pe_callB (cr_max rfl) (by rfl) T.max (by decide +kernel) (pa_cons (pe_lc rfl sc_best_split.nd (pi_list (pv 1)) (blkOk_by (own := [("part", 4)]) (by change blkC ["group", "parts", "first", "second", "part"] (defScope s_best_split) _ _ = true; decide +kernel)) (fun _ _ _ _ _ => (pg_name (i := 4) sc_best_split.nd rfl (Or.inl rfl))) (fun _ _ _ _ _ => pts_nil) (fun _ _ _ _ _ => (pe_op op_add (pe_ix ix_L (pv 2) (pv 4) (fun _ _ => rfl)) (pe_ix ix_L (pv 3) (pe_op op_sub (pv 0) (pv 4)) (fun _ _ => rfl))))) pa_nil)))), ?_⟩
    refine ⟨_, rfl, p, rfl, ⟨_, SqL.of hp⟩, fun D hD => ?_⟩
    refine lc_any (n := Ps.length) (Grow H D fun i => (List.range i).map fun j => V.int (A.getD (Ps.getD j 0) 0 + B.getD (g - Ps.getD j 0) 0)) (L2.Grow.start hD rfl) (fun H' gr => ?_) (fun i H' hi gr => ?_) (fun i x H' H'' hi gr y => ?_) (fun H' gr => ?_)
    · exact ⟨_, gr.same.seq (SqL.of hp), by rw [nums_length]; exact Nat.le_refl _⟩
    · exact ⟨_, _, gr.same.seq (SqL.of hp), nums_at hi⟩
    · obtain ⟨rfl, y⟩ := y
      have ex := Option.some.inj ((y _ (gr.same.seq (SqL.of hp))).symm.trans (nums_at hi))
      subst ex
      obtain ⟨i1, i2, i3⟩ := hin _ (getD_mem' (d := 0) hi)
      have sb : (g : Int) - (Ps.getD i 0 : Nat) = ((g - Ps.getD i 0 : Nat) : Int) := by omega
      refine ⟨rfl, yesT ⟨_, rfl, _, rfl, a, _, _, _, rfl, rfl, gr.same _ _ ha, intsV_atI i2, _, rfl, _, rfl, _, rfl, _, _, rfl, rfl, b, _, _, _, rfl, rfl, gr.same _ _ hB, (by rw [sb]; exact intsV_atI i3), _, _, rfl, rfl, ?_⟩⟩
      exact Grow.one hD gr (Same.refl _) rfl (by omega)
    · refine ⟨D, Ps.map fun x => A.getD x 0 + B.getD (g - x) 0, rfl, SqL.of ?_, ?_, fun m h1 h2 => ?_⟩
      · rw [gr.at, List.map_map, range_map (fun x => V.int (A.getD x 0 + B.getD (g - x) 0)) 0 Ps]
        rfl
      · rw [List.length_map]
        exact List.length_pos_iff.mpr hne
      · rw [← mx_eq h1 h2]
        exact k H' gr.same
/-- filling_of_worth -/
def sp_decode : Sp := fun vs H Q _ => ∃ (m : Int) (n : Nat), vs = [.int m, .int n] ∧ 0 ≤ m ∧ n ≤ 8 ∧ ∀ (H' : Hp) (s : Addr), Same H H' → H s = none → H' s = some (.lst (nums (decodeW m n))) → Q (.ref s) H'
theorem ok_decode (M : TFun K mg "filling_of_worth" s_filling_of_worth ["worth", "pupils"]) (T : Txt K mg C) : FOk P w K mg base 1 "filling_of_worth" ["worth", "pupils"] sp_decode := by
  obtain ⟨aO, g_ONE_ROOM_BEHIND, hO⟩ := T.t_ONE_ROOM_BEHIND
  obtain ⟨f, fd, F, hb, hm⟩ := M
  refine ⟨f, fd, hm, F.kp, F.ok sc_filling_of_worth (fun vs H Q E h => ?_) (fun cdv A outer s H vs Q E hr h => ?_), hb⟩
  · obtain ⟨m, n, rfl, _⟩ := h
    rfl
  · obtain ⟨m, n, rfl, h0, hn, k⟩ := h
    obtain ⟨M, rfl⟩ := Int.eq_ofNat_of_zero_le h0
    refine ⟨_, (pss_cons (ps_setLc (i := 2) rfl sc_filling_of_worth.nd rfl rfl (sw_true rfl rfl rfl rfl) (pi_range1 rfl T.range (pa_cons (pv 1) pa_nil)) (blkOk_by (own := [("pupil", 3)]) (by change blkC ["worth", "pupils", "behind", "pupil", "rooms"] (defScope s_filling_of_worth) _ _ = true; decide +kernel)) (fun _ _ _ _ _ => (pg_name (i := 3) sc_filling_of_worth.nd rfl (Or.inl rfl))) (fun _ _ _ _ _ => pts_nil) (fun _ _ _ _ _ => (pe_op op_mod (pe_op op_fdiv (pv 0) (pe_ix (ix_tupK (K := K) rfl) (pe_globR g_ONE_ROOM_BEHIND) (pv 3) (fun _ _ => rfl))) (pe_globI T.c_MOST_ROOMS))))
  (pss_one (ps_ret (pe_lc rfl sc_filling_of_worth.nd (pi_list (pv 2)) (blkOk_by (own := [("rooms", 4)]) (by change blkC ["worth", "pupils", "behind", "pupil", "rooms"] (defScope s_filling_of_worth) _ _ = true; decide +kernel)) (fun _ _ _ _ _ => (pg_name (i := 4) sc_filling_of_worth.nd rfl (Or.inl rfl))) (fun _ _ _ _ _ => pts_nil) (fun _ _ _ _ _ => (pe_op op_sub (pe_op op_sub (pe_globI T.c_MOST_ROOMS) pe_int) (pv 4))))))), ?_⟩
    refine ⟨_, rfl, _, rfl, (by omega), (by omega), fun D hD => ?_⟩
    refine lc_any (n := n) (Grow H D fun i => (List.range i).map fun j => V.int ((M / 4 ^ (7 - j) % 4 : Nat) : Int)) (L2.Grow.start hD rfl) (fun H' gr => ?_) (fun i H' hi gr => ?_) (fun i x H' H'' hi gr y => ?_) (fun H' gr => ?_)
    · show _ ≤ _
      omega
    · show _ < _
      omega
    · obtain ⟨rfl, rfl⟩ := y
      have zi : (0 : Int) + (i : Int) = (i : Int) := Int.zero_add _
      rw [zi]
      have pp : 0 < 4 ^ (7 - i) := Nat.pow_pos (by decide)
      have pl : 4 ^ (7 - i) ≤ 4 ^ 7 := Nat.pow_le_pow_right (by decide) (by omega)
      refine ⟨rfl, yesT ⟨_, rfl, _, rfl, aO, _, _, _, rfl, rfl, hO _, behind_at (by omega), _, _, rfl, rfl, ⟨by omega, by omega⟩, _, _, rfl, rfl, (show (0 : Int) < 4 by decide), ?_⟩⟩
      refine Grow.one hD gr (Same.refl _) ?_ (by omega)
      congr 1
    · have s1 : Same H H' := gr.same
      have hD' : H' D = some (.lst (nums ((List.range n).map fun j => M / 4 ^ (7 - j) % 4))) := by
        rw [gr.at]
        unfold nums
        rw [List.map_map]
        rfl
      refine ⟨_, rfl, D, rfl, ⟨_, SqL.of hD'⟩, fun E hE => ?_⟩
      refine lc_any (n := n) (Grow H' E fun i => (List.range i).map fun j => V.int ((3 - M / 4 ^ (7 - j) % 4 : Nat) : Int)) (L2.Grow.start hE rfl) (fun H' gr => ?_) (fun i H' hi gr => ?_) (fun i x H' H'' hi gr y => ?_) (fun H' gr => ?_)
      · exact ⟨_, gr.same.seq (SqL.of hD'), by rw [nums_length, List.length_map, List.length_range]; exact Nat.le_refl _⟩
      · exact ⟨_, _, gr.same.seq (SqL.of hD'), nums_at (by rw [List.length_map, List.length_range]; exact hi)⟩
      · obtain ⟨rfl, y⟩ := y
        have ex := Option.some.inj ((y _ (gr.same.seq (SqL.of hD'))).symm.trans (nums_at (by rw [List.length_map, List.length_range]; exact hi)))
        subst ex
        have ge : ((List.range n).map fun j => M / 4 ^ (7 - j) % 4).getD i 0 = M / 4 ^ (7 - i) % 4 := by
          rw [List.getD_eq_getElem?_getD, List.getElem?_map, List.getElem?_range hi]
          rfl
        rw [ge]
        refine ⟨rfl, yesT ⟨_, _, rfl, rfl, _, rfl, _, _, rfl, rfl, ?_⟩⟩
        refine Grow.one hE gr (Same.refl _) ?_ (by omega)
        congr 1
        have := Nat.mod_lt (M / 4 ^ (7 - i)) (show 0 < 4 by decide)
        omega
      · refine k H' E (s1.trans gr.same) (s1.free hE) ?_
        rw [gr.at]
        unfold nums decodeW
        rw [List.map_map, Int.toNat_natCast]
        rfl
end
end Rs
end
section
set_option Elab.async false
set_option linter.all false
set_option maxRecDepth 100000
set_option maxHeartbeats 4000000
namespace Rs
open PySem PySem.Spec PyProof.Rows L2
open Ks306 (Abs Call act looked keepsPins put has pairOk there)
section
variable {P : Program} {w : World} {K : PySem.W.Frag} {mg : Str → Option Value} {base : Heap} {C : Addr}
/-- of each group what it is worth -/
def worthL (n : Nat) (G : Nat → Int) : List Int := (List.range (2 ^ n)).map G
theorem worthL_length (n : Nat) (G : Nat → Int) : (worthL n G).length = 2 ^ n := by unfold worthL; rw [List.length_map, List.length_range]
theorem worthL_at {n : Nat} {G : Nat → Int} {g : Nat} (h : g < 2 ^ n) : (worthL n G).getD g 0 = G g := by
  unfold worthL
  rw [List.getD_eq_getElem?_getD, List.getElem?_map, List.getElem?_range h]
  rfl
def roomsL (n R : Nat) (F : Nat → Nat → Int) : List (List V) := (List.range R).map fun r => intsV (worthL n (F r))
theorem roomsL_at {n R : Nat} {F : Nat → Nat → Int} {r : Nat} (h : r < R) : (roomsL n R F).getD r [] = intsV (worthL n (F r)) := by
  unfold roomsL
  rw [List.getD_eq_getElem?_getD, List.getElem?_map, List.getElem?_range h]
  rfl
theorem roomsL_length (n R : Nat) (F : Nat → Nat → Int) : (roomsL n R F).length = R := by unfold roomsL; rw [List.length_map, List.length_range]
/-- best_split of whole lists -/
theorem split_eq {n g : Nat} (hg : g < 2 ^ n) (B W : Nat → Int) : mx (((partsT n).getD g []).map fun x => (worthL n B).getD x 0 + (worthL n W).getD (g - x) 0) = splitW n B W g := by
  unfold splitW
  congr 1
  apply List.map_congr_left
  intro x hx
  obtain ⟨h1, _⟩ := (mem_parts hg).mp hx
  rw [worthL_at h1, worthL_at (by omega)]
theorem sub_le {x g : Nat} (h : Sub x g) : x ≤ g := by
  have e : x &&& g = x := by
    apply Nat.eq_of_testBit_eq
    intro j
    rw [Nat.testBit_and]
    cases z : x.testBit j
    · rfl
    · rw [h j z]; rfl
  rw [← e]
  exact Nat.and_le_right
theorem split_in {n g : Nat} (hg : g < 2 ^ n) (B W : Nat → Int) : ∀ x ∈ (partsT n).getD g [], x ≤ g ∧ x < (worthL n B).length ∧ g - x < (worthL n W).length := fun x hx => by
  obtain ⟨h1, h2⟩ := (mem_parts hg).mp hx
  rw [worthL_length, worthL_length]
  exact ⟨sub_le h2, h1, by omega⟩
theorem split_ne {n g : Nat} (hg : g < 2 ^ n) : (partsT n).getD g [] ≠ [] := fun z => by
  have : g ∈ (partsT n).getD g [] := (mem_parts hg).mpr ⟨hg, fun j h => h⟩
  rw [z] at this
  cases this
theorem split_len {n g : Nat} (hn : n ≤ 8) (hg : g < 2 ^ n) : ((partsT n).getD g []).length ≤ 256 :=
  Nat.le_trans (parts_len (getD_mem' (by rw [partsT_length]; exact hg))) (pow_le_256 hn).2
/-- best_worth -/
def sp_best_worth : Sp := fun vs H Q _ => ∃ (wa pa : Addr) (ws ps : List Addr) (n R : Nat) (F : Nat → Nat → Int), vs = [.ref wa, .ref pa] ∧ n ≤ 8 ∧ 0 < R ∧ R ≤ 4 ∧ H wa = some (.lst (ws.map V.ref)) ∧ H pa = some (.lst (ps.map V.ref)) ∧
  Rows H ws (roomsL n R F) ∧ Rows H ps ((partsT n).map nums) ∧ ∀ H', Same H H' → Q (.int (Bd n F (R - 1) (2 ^ n - 1))) H'
theorem cut_mid {ws : List Addr} {R : Nat} (h : ws.length = R) (h2 : 2 ≤ R) : cutV (ws.map V.ref) (some 1) (some (-1)) = ((ws.drop 1).take (R - 2)).map V.ref := by
  unfold cutV
  rw [List.length_map, h]
  have e1 : HT.sIx R 0 (some 1) = 1 := by
    show (if (1 : Int) < 0 then ((1 : Int) + (R : Int)).toNat else min (1 : Int).toNat R) = 1
    rw [if_neg (by decide)]
    show min 1 R = 1
    omega
  have e2 : HT.sIx R R (some (-1)) = R - 1 := by
    show (if (-1 : Int) < 0 then (-1 + (R : Int)).toNat else min (-1 : Int).toNat R) = R - 1
    rw [if_pos (by decide)]
    omega
  rw [e1, e2, ← List.map_drop, ← List.map_take]
  congr 2
theorem ok_best_worth (M : TFun K mg "best_worth" s_best_worth ["worths", "parts"]) (T : Txt K mg C) (G_best_split : FOk P w K mg base 1 "best_split" ["group", "parts", "first", "second"] sp_split) :
    FOk P w K mg base 3 "best_worth" ["worths", "parts"] sp_best_worth := by
  obtain ⟨f, fd, F, hb, hm⟩ := M
  refine ⟨f, fd, hm, F.kp, F.ok sc_best_worth (fun vs H Q E h => ?_) (fun cdv A outer s H vs Q E hr h => ?_), hb⟩
  · obtain ⟨wa, pa, ws, ps, n, R, F, rfl, _⟩ := h
    rfl
  · obtain ⟨wa, pa, ws, ps, n, R, F, rfl, hn, hR0, hR4, hw, hp, rw_, rp, k⟩ := h
    obtain ⟨p1, p2⟩ := pow_le_256 hn
    have lw : ws.length = R := by rw [rw_.len, roomsL_length]
    have lp : ps.length = 2 ^ n := by rw [rp.len, List.length_map, partsT_length]
    have prt : ∀ {H' : Hp}, Same H H' → ∀ g, g < 2 ^ n → ∃ a, ps[g]? = some a ∧ H' a = some (.lst (nums ((partsT n).getD g []))) := fun {H'} sm g hg => by
      obtain ⟨a, h1, h2⟩ := (rp.same sm).get (i := g) (by rw [List.length_map, partsT_length]; exact hg)
      rw [map_getD nums _ g [] [] (by rw [partsT_length]; exact hg)] at h2
      exact ⟨a, h1, h2⟩
    have rms : ∀ {H' : Hp}, Same H H' → ∀ r, r < R → ∃ a, ws[r]? = some a ∧ H' a = some (.lst (intsV (worthL n (F r)))) := fun {H'} sm r hr => by
      obtain ⟨a, h1, h2⟩ := (rw_.same sm).get (i := r) (by rw [roomsL_length]; exact hr)
      rw [roomsL_at hr] at h2
      exact ⟨a, h1, h2⟩
    refine ⟨_, (pss_cons (ps_if (pt_cmpR op_eq (pe_callB call_lenL (by rfl) T.len PySem.boot_len (pa_cons (pv 0) pa_nil)) pe_int (nomark _)) (pss_one (ps_ret (pe_ix ix_L (pe_ix ix_L (pv 0) pe_int (fun _ _ => rfl)) (pe_un un_neg pe_int) (fun _ _ => rfl)))) pss_nil)
  (pss_cons (ps_set (i := 2) sc_best_worth.nd rfl (Or.inr rfl) (pe_ix ix_L (pv 0) pe_int (fun _ _ => rfl)))
  (pss_cons (ps_for PassesOwn.never rfl (pi_list (pe_slice sl_list (pv 0) (po_some pe_int) (po_some (pe_un un_neg pe_int)))) (pg_name (i := 3) sc_best_worth.nd rfl (Or.inr rfl)) (pss_one (ps_set (i := 2) sc_best_worth.nd rfl (Or.inr rfl) (pe_lc rfl sc_best_worth.nd (pi_range1 rfl T.range (pa_cons (pe_callB call_lenL (by rfl) T.len PySem.boot_len (pa_cons (pv 1) pa_nil)) pa_nil)) (blkOk_by (own := [("group", 4)]) (by change blkC ["worths", "parts", "best", "in_room", "group"] (defScope s_best_worth) _ _ = true; decide +kernel)) (fun _ _ _ _ _ => (pg_name (i := 4) sc_best_worth.nd rfl (Or.inl rfl))) (fun _ _ _ _ _ => pts_nil) (fun _ _ _ _ _ => (pe_callF G_best_split (hr.mono (by decide)) (pa_cons (pv 4) (pa_cons (pe_ix ix_L (pv 1) (pv 4) (fun _ _ => rfl)) (pa_cons (pv 2) (pa_cons (pv 3) pa_nil))))))))))
  (pss_one (ps_ret (pe_callF G_best_split (hr.mono (by decide)) (pa_cons (pe_op op_sub (pe_callB call_lenL (by rfl) T.len PySem.boot_len (pa_cons (pv 1) pa_nil)) pe_int) (pa_cons (pe_ix ix_L (pv 1) (pe_un un_neg pe_int) (fun _ _ => rfl)) (pa_cons (pv 2) (pa_cons (pe_ix ix_L (pv 0) (pe_un un_neg pe_int) (fun _ _ => rfl)) pa_nil)))))))))), ?_⟩
    obtain ⟨w0, hw0, hw0'⟩ := rms (Same.refl H) 0 hR0
    refine ⟨_, rfl, wa, _, rfl, hw, rfl, _, rfl, ?_⟩
    refine ite2 (fun c => ?_) (fun c => ?_)
    · have c := of_decide_eq_true c
      injection c with c
      rw [List.length_map, lw] at c
      have e1 : R = 1 := by omega
      subst e1
      refine ⟨_, rfl, wa, _, _, _, rfl, rfl, hw, refs_atI (i := 0) hw0, _, rfl, w0, _, _, _, rfl, rfl, hw0', atI_minus1 (n := 2 ^ n - 1) (by rw [intsV_length, worthL_length]; omega) (intsV_at (by rw [worthL_length]; omega)), ?_⟩
      rw [worthL_at (by omega)]
      exact k H (Same.refl H)
    · have hR2 : 2 ≤ R := by
        have : ¬ R = 1 := fun z => c (decide_eq_true (by rw [List.length_map, lw, z]; rfl))
        omega
      -- best = worths[0]
      refine ⟨_, rfl, wa, _, _, _, rfl, rfl, hw, refs_atI (i := 0) hw0, ?_⟩
      -- for in_room in worths[1:-1]
      refine ⟨_, rfl, _, rfl, _, rfl, _, rfl, wa, _, rfl, SqL.of hw, fun sl hsl => ?_⟩
      rw [cut_mid lw hR2]
      have lmid : ((ws.drop 1).take (R - 2)).length = R - 2 := by rw [List.length_take, List.length_drop, lw]; omega
      have mid : ∀ i, i < R - 2 → ((ws.drop 1).take (R - 2))[i]? = ws[i + 1]? := fun i hi => by rw [List.getElem?_take_of_lt hi, List.getElem?_drop, Nat.add_comm]
      refine ⟨sl, rfl, ⟨_, SqL.of upd_same⟩, ?_⟩
      refine for_any (n := R - 2) (fun i σ H' => ∃ (b : Addr) (vi : Option V), σ = [some (.ref wa), some (.ref pa), some (.ref b), vi, none] ∧ Same (L2.upd H sl (.lst (((ws.drop 1).take (R - 2)).map V.ref))) H' ∧ H' b = some (.lst (intsV (worthL n (Bd n F i))))) ?_ ?_ ?_ ?_ ?_
      · exact ⟨w0, none, rfl, Same.refl _, (Same.new hsl) _ _ hw0'⟩
      · rintro σ H' ⟨b, vi, rfl, sm, hb'⟩
        exact ⟨_, SqL.of (sm _ _ upd_same), by rw [List.length_map, lmid]; exact Nat.le_refl _⟩
      · rintro i σ H' hi ⟨b, vi, rfl, sm, hb'⟩
        obtain ⟨a, ha, _⟩ := rms (Same.refl H) (i + 1) (by omega)
        exact ⟨_, _, SqL.of (sm _ _ upd_same), refs_at (by rw [mid i hi]; exact ha)⟩
      · rintro i x σ H' H'' hi ⟨b, vi, rfl, sm, hb'⟩ y
        obtain ⟨rfl, y⟩ := y
        have s0 : Same H H'' := (Same.new hsl).trans sm
        obtain ⟨a, ha, ha'⟩ := rms s0 (i + 1) (by omega)
        have ex := Option.some.inj ((y _ (SqL.of (sm _ _ upd_same))).symm.trans (refs_at (by rw [mid i hi]; exact ha)))
        subst ex
        -- best = [best_split(..) for group in range(len(parts))]
        refine ⟨_, rfl, pa, _, rfl, s0 _ _ hp, _, rfl, (by rw [List.length_map, lp]; omega), (by rw [List.length_map, lp]; omega), fun D hD => ?_⟩
        refine lc_any (n := 2 ^ n) (Grow H'' D fun m => (List.range m).map fun g => V.int (Bd n F (i + 1) g)) (L2.Grow.start hD rfl) (fun H' gr => ?_) (fun m H' hm gr => ?_) (fun m x H' H3 hm gr y => ?_) (fun H' gr => ?_)
        · show _ ≤ _
          rw [List.length_map, lp]; omega
        · show _ < _
          rw [List.length_map, lp]; omega
        · obtain ⟨rfl, rfl⟩ := y
          have zi : (0 : Int) + (m : Int) = (m : Int) := Int.zero_add _
          rw [zi]
          have s1 : Same H H3 := s0.trans gr.same
          obtain ⟨q, hq, hq'⟩ := prt s1 m hm
          refine ⟨rfl, yesT ⟨_, rfl, _, rfl, _, rfl, pa, _, _, _, rfl, rfl, s1 _ _ hp, refs_atI hq, _, rfl, _, rfl, ?_⟩⟩
          refine ⟨m, q, b, a, _, _, _, rfl, hq', gr.same _ _ hb', gr.same _ _ ha', split_ne hm, split_len hn hm, split_in hm _ _, fun H4 s4 => ?_⟩
          rw [split_eq hm]
          exact Grow.one hD gr s4 rfl (by omega)
        · refine ⟨D, _, rfl, sm.trans gr.same, ?_⟩
          rw [gr.at]
          unfold intsV worthL
          rw [List.map_map]
          rfl
      · rintro σ H' ⟨b, vi, rfl, sm, hb'⟩
        have s0 : Same H H' := (Same.new hsl).trans sm
        obtain ⟨q, hq, hq'⟩ := prt s0 (2 ^ n - 1) (by omega)
        obtain ⟨a, ha, ha'⟩ := rms s0 (R - 1) (by omega)
        have e : (((ps.map V.ref).length : Nat) : Int) - 1 = ((2 ^ n - 1 : Nat) : Int) := by rw [List.length_map, lp]; omega
        refine ⟨_, rfl, pa, _, rfl, s0 _ _ hp, _, _, rfl, rfl, _, rfl, _, rfl, pa, _, _, _, rfl, rfl, s0 _ _ hp, atI_minus1 (n := 2 ^ n - 1) (by rw [List.length_map, lp]; omega) (refs_at hq), _, rfl, _, rfl, _, rfl, wa, _, _, _, rfl, rfl, s0 _ _ hw, atI_minus1 (n := R - 1) (by rw [List.length_map, lw]; omega) (refs_at ha), ?_⟩
        refine ⟨2 ^ n - 1, q, b, a, _, _, _, congrArg (fun z => [V.int z, .ref q, .ref b, .ref a]) e, hq', hb', ha', split_ne (by omega), split_len hn (by omega), split_in (by omega) _ _, fun H4 s4 => ?_⟩
        rw [split_eq (by omega)]
        have eB : Bd n F (R - 1) (2 ^ n - 1) = splitW n (Bd n F (R - 2)) (F (R - 1)) (2 ^ n - 1) := by
          obtain ⟨r, rfl⟩ : ∃ r, R = r + 2 := ⟨R - 2, by omega⟩
          rfl
        rw [← eB]
        exact k H4 (s0.trans s4)
end
end Rs
end
section
set_option Elab.async false
set_option linter.all false
set_option maxRecDepth 100000
set_option maxHeartbeats 4000000
namespace Rs
open PySem PySem.Spec PyProof.Rows L2
open Ks306 (Abs Call act looked keepsPins put has pairOk there)
open Ks304 (Plan)
section
variable {P : Program} {w : World} {K : PySem.W.Frag} {mg : Str → Option Value} {base : Heap} {C : Addr}
/-- where a plan's things lie -/
structure PlanAt (H : Hp) (r wd bd q : Addr) (p : Plan) (pins : List Nat) : Prop where
  rooms : H r = some (.lst (nums p.beds))
  wishes : H wd = some (.dT (p.wishes.map pairK))
  bars : H bd = some (.dT (p.bars.map pairK))
  pinl : H q = some (.lst (nums pins))
  bl : p.bars.length ≤ 32
  ok : Ok p pins
theorem PlanAt.same {H H' : Hp} {r wd bd q : Addr} {p : Plan} {pins : List Nat} (a : PlanAt H r wd bd q p pins) (s : Same H H') : PlanAt H' r wd bd q p pins := ⟨s _ _ a.rooms, s _ _ a.wishes, s _ _ a.bars, s _ _ a.pinl, a.bl, a.ok⟩
/-- the room's list behind j groups -/
def roomJ (n : Nat) (G : Nat → Int) (j : Nat) : List Int := (List.range (2 ^ n)).map fun g => if g < j then G g else NOT
theorem roomJ_zero (n : Nat) (G : Nat → Int) : roomJ n G 0 = List.replicate (2 ^ n) NOT := by
  unfold roomJ
  apply List.ext_getElem?
  intro i
  rw [List.getElem?_map, List.getElem?_replicate]
  by_cases h : i < 2 ^ n
  · rw [List.getElem?_range h, if_pos h]
    simp
  · rw [List.getElem?_eq_none (by rw [List.length_range]; omega), if_neg h]
    rfl
theorem roomJ_all (n : Nat) (G : Nat → Int) : roomJ n G (2 ^ n) = worthL n G := by
  unfold roomJ worthL
  apply List.map_congr_left
  intro g hg
  rw [if_pos (List.mem_range.mp hg)]
theorem roomJ_length (n : Nat) (G : Nat → Int) (j : Nat) : (roomJ n G j).length = 2 ^ n := by unfold roomJ; rw [List.length_map, List.length_range]
theorem roomJ_set {n : Nat} {G : Nat → Int} {j : Nat} (h : j < 2 ^ n) : roomJ n G (j + 1) = (roomJ n G j).set j (G j) := by
  unfold roomJ
  apply List.ext_getElem?
  intro i
  rw [List.getElem?_set, List.length_map, List.length_range, List.getElem?_map, List.getElem?_map]
  by_cases e : j = i
  · subst e
    rw [if_pos rfl, if_pos h, List.getElem?_range h]
    simp
  · rw [if_neg e]
    by_cases hi : i < 2 ^ n
    · rw [List.getElem?_range hi]
      simp only [Option.map_some]
      have : (i < j + 1) ↔ i < j := by omega
      simp only [this]
    · rw [List.getElem?_eq_none (by rw [List.length_range]; omega)]
      rfl
theorem roomJ_not {n : Nat} {G : Nat → Int} {j : Nat} (e : G j = NOT) : roomJ n G (j + 1) = roomJ n G j := by
  unfold roomJ
  apply List.map_congr_left
  intro g _
  by_cases h : g = j
  · subst h
    rw [if_pos (by omega), if_neg (by omega), e]
  · have : (g < j + 1) ↔ g < j := by omega
    simp only [this]
theorem reps (k : Nat) (x : Int) : (List.replicate ((k : Int)).toNat [V.int x]).flatten = intsV (List.replicate k x) := by
  rw [Int.toNat_natCast]
  induction k with
  | zero => rfl
  | succ n ih => rw [List.replicate_succ, List.flatten_cons, ih, List.replicate_succ]; rfl
def groupsV (n : Nat) : List V := nums (List.range (2 ^ n))
theorem groups_at {n g : Nat} (h : g < 2 ^ n) : (groupsV n)[g]? = some (.int (g : Int)) := by
  unfold groupsV
  rw [nums_at (by rw [List.length_range]; exact h), List.getD_eq_getElem?_getD, List.getElem?_range h]
  rfl
theorem groups_length (n : Nat) : (groupsV n).length = 2 ^ n := by unfold groupsV; rw [nums_length, List.length_range]
theorem intsV_set (l : List Int) (i : Nat) (x : Int) : (intsV l).set i (.int x) = intsV (l.set i x) := by unfold intsV; rw [List.map_set]
def sp_worths : Sp := fun vs H Q _ => ∃ (r wd bd q : Addr) (p : Plan) (pins : List Nat), vs = [.ref r, .ref wd, .ref bd, .ref q] ∧ PlanAt H r wd bd q p pins ∧
  ∀ (H' : Hp) (wa : Addr) (ws : List Addr), Same H H' → H' wa = some (.lst (ws.map V.ref)) → Rows H' ws (roomsL p.pupils p.beds.length (FP p pins)) → Q (.ref wa) H'
theorem roomsL_succ (n R : Nat) (F : Nat → Nat → Int) : roomsL n (R + 1) F = roomsL n R F ++ [intsV (worthL n (F R))] := by
  unfold roomsL
  rw [List.range_succ, List.map_append]
  rfl
theorem ok_worths (M : TFun K mg "worths_in_rooms" s_worths_in_rooms ["rooms", "wishes", "bars", "pins"]) (T : Txt K mg C) (G_group_sizes : FOk P w K mg base 1 "group_sizes" ["pupils"] sp_sizes) (G_paired_with : FOk P w K mg base 1 "paired_with" ["pupils", "pairs"] sp_paired)
    (G_worth_together : FOk P w K mg base 1 "worth_together" ["group", "wished", "barred", "sizes"] sp_worth_together) (G_worth_of_order : FOk P w K mg base 1 "worth_of_order" ["group", "pupils"] sp_order) (G_pinned_to : FOk P w K mg base 1 "pinned_to" ["pins", "room"] sp_pinned) :
    FOk P w K mg base 3 "worths_in_rooms" ["rooms", "wishes", "bars", "pins"] sp_worths := by
  obtain ⟨f, fd, F, hb, hm⟩ := M
  refine ⟨f, fd, hm, F.kp, F.ok sc_worths_in_rooms (fun vs H Q E h => ?_) (fun cdv A outer s H vs Q E hr h => ?_), hb⟩
  · obtain ⟨r, wd, bd, q, p, pins, rfl, _⟩ := h
    rfl
  · obtain ⟨r, wd, bd, q, p, pins, rfl, pa, k⟩ := h
    have o := pa.ok
    have hn := o.pup
    obtain ⟨p1, p2⟩ := pow_le_256 hn
    refine ⟨_, (pss_cons (ps_set (i := 4) sc_worths_in_rooms.nd rfl (Or.inr rfl) (pe_callB call_lenL (by rfl) T.len PySem.boot_len (pa_cons (pv 3) pa_nil)))
  (pss_cons (ps_set (i := 5) sc_worths_in_rooms.nd rfl (Or.inl rfl) (pe_listR rfl (by rfl) T.list (by rfl) T.range (pa_cons (pe_op op_shl pe_int (pv 4)) pa_nil)))
  (pss_cons (ps_set (i := 6) sc_worths_in_rooms.nd rfl (Or.inr rfl) (pe_callF G_group_sizes (hr.mono (by decide)) (pa_cons (pv 4) pa_nil)))
  (pss_cons (ps_set (i := 7) sc_worths_in_rooms.nd rfl (Or.inr rfl) (pe_callF G_paired_with (hr.mono (by decide)) (pa_cons (pv 4) (pa_cons (pv 1) pa_nil))))
  (pss_cons (ps_set (i := 8) sc_worths_in_rooms.nd rfl (Or.inr rfl) (pe_callF G_paired_with (hr.mono (by decide)) (pa_cons (pv 4) (pa_cons (pv 2) pa_nil))))
  (pss_cons (ps_setLc (i := 9) rfl sc_worths_in_rooms.nd rfl rfl (sw_true rfl rfl rfl rfl) (pi_list (pv 5)) (blkOk_by (own := [("group", 17)]) (by change blkC ["rooms", "wishes", "bars", "pins", "pupils", "groups", "sizes", "wished", "barred", "together", "order", "worths", "room", "beds", "here", "behind", "in_room", "group"] (defScope s_worths_in_rooms) _ _ = true; decide +kernel)) (fun _ _ _ _ _ => (pg_name (i := 17) sc_worths_in_rooms.nd rfl (Or.inl rfl))) (fun _ _ _ _ _ => pts_nil) (fun _ _ _ _ _ => (pe_callF G_worth_together (hr.mono (by decide)) (pa_cons (pv 17) (pa_cons (pv 7) (pa_cons (pv 8) (pa_cons (pv 6) pa_nil)))))))
  (pss_cons (ps_setLc (i := 10) rfl sc_worths_in_rooms.nd rfl rfl (sw_true rfl rfl rfl rfl) (pi_list (pv 5)) (blkOk_by (own := [("group", 17)]) (by change blkC ["rooms", "wishes", "bars", "pins", "pupils", "groups", "sizes", "wished", "barred", "together", "order", "worths", "room", "beds", "here", "behind", "in_room", "group"] (defScope s_worths_in_rooms) _ _ = true; decide +kernel)) (fun _ _ _ _ _ => (pg_name (i := 17) sc_worths_in_rooms.nd rfl (Or.inl rfl))) (fun _ _ _ _ _ => pts_nil) (fun _ _ _ _ _ => (pe_callF G_worth_of_order (hr.mono (by decide)) (pa_cons (pv 17) (pa_cons (pv 4) pa_nil)))))
  (pss_cons (ps_set (i := 11) sc_worths_in_rooms.nd rfl (Or.inl rfl) (pe_lst pa_nil))
  (pss_cons (ps_for PassesOwn.never rfl (pi_enum (by rfl) T.enumerate (pa_cons (pv 0) pa_nil)) (pg_tup rfl (pgs_cons (pg_name (i := 12) sc_worths_in_rooms.nd rfl (Or.inl rfl)) (pgs_cons (pg_name (i := 13) sc_worths_in_rooms.nd rfl (Or.inl rfl)) pgs_nil))) (pss_cons (ps_set (i := 14) sc_worths_in_rooms.nd rfl (Or.inl rfl) (pe_callF G_pinned_to (hr.mono (by decide)) (pa_cons (pv 3) (pa_cons (pv 12) pa_nil))))
  (pss_cons (ps_set (i := 15) sc_worths_in_rooms.nd rfl (Or.inl rfl) (pe_op op_sub (pe_op op_sub (pe_globI T.c_MOST_ROOMS) pe_int) (pv 12)))
  (pss_cons (ps_set (i := 16) sc_worths_in_rooms.nd rfl (Or.inl rfl) (pe_op op_rep (pe_lst (pa_cons (pe_globI T.c_MAY_NOT_BE) pa_nil)) (pe_callB call_lenL (by rfl) T.len PySem.boot_len (pa_cons (pv 5) pa_nil))))
  (pss_cons (ps_for PassesOwn.never rfl (pi_list (pv 5)) (pg_name (i := 17) sc_worths_in_rooms.nd rfl (Or.inl rfl)) (pss_one (ps_if (PW.pt (pw_and (pt_cmpR op_le (pe_ix ix_L (pv 6) (pv 17) (fun _ _ => rfl)) (pv 13) (nomark _)) (pw_and1 (pt_cmpR op_eq (pe_op op_and (pv 17) (pv 14)) (pv 14) (nomark _))))) (pss_one (ps_asg (pe_op op_add (pe_ix ix_L (pv 9) (pv 17) (fun _ _ => rfl)) (pe_op op_mul (pv 15) (pe_ix ix_L (pv 10) (pv 17) (fun _ _ => rfl)))) (pg_sub (pv 16) (pv 17) set_list))) pss_nil)))
  (pss_one (ps_expr (pe_bm PySem.F.plainAttrs_list PySem.F.slot_list_append PySem.F.type_list_append mt_append (pv 11) (pa_cons (pv 16) pa_nil)))))))))
  (pss_one (ps_ret (pv 11)))))))))))), ?_⟩
    -- pupils = len(pins)
    refine ⟨_, rfl, q, _, rfl, pa.pinl, ?_⟩
    rw [nums_length, o.pin]
    -- groups = list(range(1 << pupils))
    refine ⟨_, rfl, _, _, rfl, rfl, cpow_one hn, 2 ^ p.pupils, (congrArg (fun z => [V.int z]) (shl_nat p.pupils)), (by omega), fun ga hga => ?_⟩
    have sA : Same H (L2.upd H ga (.lst (groupsV p.pupils))) := Same.new hga
    have hgA : (L2.upd H ga (.lst (groupsV p.pupils))) ga = some (.lst (groupsV p.pupils)) := upd_same
    -- sizes
    refine ⟨_, rfl, p.pupils, rfl, hn, fun H1 sa s1 n1 h1 => ?_⟩
    have sB := Same.trans sA s1
    have hgB := s1 _ _ hgA
    -- wished
    refine ⟨_, rfl, _, rfl, p.pupils, wd, _, rfl, hn, (pa.same sB).wishes, o.wl, o.wr, fun H2 wa s2 n2 h2 => ?_⟩
    have sC := sB.trans s2
    have hgC := s2 _ _ hgB
    have h1C := s2 _ _ h1
    -- barred
    refine ⟨_, rfl, _, rfl, p.pupils, bd, _, rfl, hn, (pa.same sC).bars, pa.bl, o.br, fun H3 ba s3 n3 h3 => ?_⟩
    have sD := sC.trans s3
    have hgD := s3 _ _ hgC
    have h1D := s3 _ _ h1C
    have h2D := s3 _ _ h2
    have lW : (pairedL p.pupils p.wishes).length = p.pupils := paired_length fun q hq => (o.wr q hq).1
    have lB : (pairedL p.pupils p.bars).length = p.pupils := paired_length fun q hq => (o.br q hq).1
    -- together
    refine ⟨_, rfl, ga, rfl, ⟨_, SqL.of hgD⟩, fun D hD => ?_⟩
    refine lc_any (n := 2 ^ p.pupils) (Grow H3 D fun m => (List.range m).map fun g => V.int (togW p.pupils (pairedL p.pupils p.wishes) (pairedL p.pupils p.bars) g)) (L2.Grow.start hD rfl) (fun H' gr => ?_) (fun m H' hm gr => ?_) (fun m x H' H'' hm gr y => ?_) (fun H4 gr => ?_)
    · exact ⟨_, gr.same.seq (SqL.of hgD), by rw [groups_length]; exact Nat.le_refl _⟩
    · exact ⟨_, _, gr.same.seq (SqL.of hgD), groups_at hm⟩
    · obtain ⟨rfl, y⟩ := y
      have ex := Option.some.inj ((y _ (gr.same.seq (SqL.of hgD))).symm.trans (groups_at hm))
      subst ex
      refine ⟨rfl, yesT ⟨_, rfl, _, rfl, _, rfl, _, rfl, m, p.pupils, wa, ba, sa, _, _, rfl, hn, hm, gr.same _ _ h2D, gr.same _ _ h3, gr.same _ _ h1D, lW, lB, ?_⟩⟩
      exact Grow.one hD gr (Same.refl _) rfl (by omega)
    have sE := sD.trans gr.same
    have hgE := gr.same _ _ hgD
    have h1E := gr.same _ _ h1D
    have tE : H4 D = some (.lst (intsV (worthL p.pupils (togW p.pupils (pairedL p.pupils p.wishes) (pairedL p.pupils p.bars))))) := by
      rw [gr.at]
      unfold intsV worthL
      rw [List.map_map]
      rfl
    clear gr
    -- order
    refine ⟨_, rfl, ga, rfl, ⟨_, SqL.of hgE⟩, fun O hO => ?_⟩
    refine lc_any (n := 2 ^ p.pupils) (Grow H4 O fun m => (List.range m).map fun g => V.int (ordG p.pupils g)) (L2.Grow.start hO rfl) (fun H' gr => ?_) (fun m H' hm gr => ?_) (fun m x H' H'' hm gr y => ?_) (fun H5 gr => ?_)
    · exact ⟨_, gr.same.seq (SqL.of hgE), by rw [groups_length]; exact Nat.le_refl _⟩
    · exact ⟨_, _, gr.same.seq (SqL.of hgE), groups_at hm⟩
    · obtain ⟨rfl, y⟩ := y
      have ex := Option.some.inj ((y _ (gr.same.seq (SqL.of hgE))).symm.trans (groups_at hm))
      subst ex
      refine ⟨rfl, yesT ⟨_, rfl, _, rfl, m, p.pupils, rfl, hn, fun H' s' => ?_⟩⟩
      exact Grow.one hO gr s' rfl (by omega)
    have sF := sE.trans gr.same
    have hgF := gr.same _ _ hgE
    have h1F := gr.same _ _ h1E
    have tF := gr.same _ _ tE
    have oF : H5 O = some (.lst (intsV (worthL p.pupils (ordG p.pupils)))) := by
      rw [gr.at]
      unfold intsV worthL
      rw [List.map_map]
      rfl
    clear gr
    -- worths = []
    refine ⟨Nat.zero_le _, fun wl hwl => ?_⟩
    have nwl : H wl = none := sF.free hwl
    -- for room, beds in enumerate(rooms)
    have rF := (pa.same (sF.trans (Same.new (o := .lst []) hwl))).rooms
    refine ⟨_, rfl, r, _, rfl, SqL.of rF, ?_⟩
    refine for_any (n := p.beds.length) (fun i σ H' => ∃ (v12 v13 v14 v15 v16 v17 : Option V), σ = [some (.ref r), some (.ref wd), some (.ref bd), some (.ref q), some (.int p.pupils), some (.ref ga), some (.ref sa), some (.ref wa), some (.ref ba), some (.ref D), some (.ref O), some (.ref wl), v12, v13, v14, v15, v16, v17] ∧
      Same H5 H' ∧ ∃ ws : List Addr, H' wl = some (.lst (ws.map V.ref)) ∧ Rows H' ws (roomsL p.pupils i (FP p pins)) ∧ ¬ wl ∈ ws) ?_ ?_ ?_ ?_ ?_
    · exact ⟨none, none, none, none, none, none, rfl, Same.new hwl, [], upd_same, ⟨rfl, fun i a h => by simp at h⟩, by simp⟩
    · rintro σ H' ⟨v12, v13, v14, v15, v16, v17, rfl, sm, _⟩
      exact ⟨_, SqL.of (pa.same (sF.trans sm)).rooms, by rw [nums_length]; exact Nat.le_refl _⟩
    · rintro i σ H' hi ⟨v12, v13, v14, v15, v16, v17, rfl, sm, _⟩
      exact ⟨_, _, SqL.of (pa.same (sF.trans sm)).rooms, nums_at hi⟩
    · rintro i x σ H' H'' hi ⟨v12, v13, v14, v15, v16, v17, rfl, sm, ws, hws, rows, nws⟩ y
      obtain ⟨t, u, rfl, ht, rfl, hu⟩ := y
      have eu := Option.some.inj ((hu _ (SqL.of (pa.same (sF.trans sm)).rooms)).symm.trans (nums_at hi))
      subst eu
      have hR := o.rooms
      refine ⟨t, _, rfl, SqT.of upd_same, rfl, _, _, rfl, _, _, rfl, rfl, ?_⟩
      have s6 : Same H' (L2.upd H' t (.tup [V.int (i : Nat), V.int (p.beds.getD i 0 : Nat)])) := Same.new ht
      generalize L2.upd H' t (.tup [V.int (i : Nat), V.int (p.beds.getD i 0 : Nat)]) = H6 at s6
      -- here = pinned_to(pins, room)
      refine ⟨_, rfl, _, rfl, q, pins, i, rfl, (pa.same ((sF.trans sm).trans s6)).pinl, (by rw [o.pin]; exact hn), fun H7 s7 => ?_⟩
      rw [o.pin]
      -- behind = MOST_ROOMS - 1 - room
      refine ⟨_, _, rfl, rfl, _, rfl, _, _, rfl, rfl, ?_⟩
      -- in_room = [MAY_NOT_BE] * len(groups)
      have hg7 : H7 ga = some (.lst (groupsV p.pupils)) := s7 _ _ (s6 _ _ (sm _ _ hgF))
      refine ⟨(by show 1 ≤ sizeLine; decide), fun t1 ht1 => ?_⟩
      refine ⟨_, rfl, ga, _, rfl, (Same.new ht1) _ _ hg7, t1, _, _, rfl, rfl, upd_same, (by rw [groups_length]; omega), (by rw [groups_length]; omega), (by rw [groups_length, sizeLine_eq]; show 1 * _ ≤ _; omega), fun ia hia => ?_⟩
      rw [groups_length, reps]
      have s8 : Same H7 (L2.upd (L2.upd H7 t1 (.lst [V.int (-1099511627776)])) ia (.lst (intsV (List.replicate (2 ^ p.pupils) (-1099511627776))))) := (Same.new ht1).trans (Same.new hia)
      have sX : Same H' H7 := s6.trans s7
      have nia : H7 ia = none := (Same.new (o := .lst [V.int (-1099511627776)]) ht1).free hia
      -- for group in groups
      refine ⟨_, rfl, ga, rfl, ⟨_, SqL.of (s8 _ _ hg7)⟩, ?_⟩
      refine for_any (n := 2 ^ p.pupils) (fun j σ H' => ∃ (v17 : Option V), σ = [some (.ref r), some (.ref wd), some (.ref bd), some (.ref q), some (.int p.pupils), some (.ref ga), some (.ref sa), some (.ref wa), some (.ref ba), some (.ref D), some (.ref O), some (.ref wl), some (.int (i : Nat)), some (.int (p.beds.getD i 0 : Nat)), some (.int (hereG p.pupils pins i : Nat)), some (.int (4 - 1 - (i : Int))), some (.ref ia), v17] ∧
        Same H7 H' ∧ H' ia = some (.lst (intsV (roomJ p.pupils (FP p pins i) j)))) ?_ ?_ ?_ ?_ ?_
      · exact ⟨_, rfl, s8, by rw [upd_same, roomJ_zero]; rfl⟩
      · rintro σ H' ⟨v17, rfl, sm', _⟩
        exact ⟨_, SqL.of (sm' _ _ hg7), by rw [groups_length]; exact Nat.le_refl _⟩
      · rintro j σ H' hj ⟨v17, rfl, sm', _⟩
        exact ⟨_, _, SqL.of (sm' _ _ hg7), groups_at hj⟩
      · rintro j x σ H8 H9 hj ⟨v17, rfl, sm', hia'⟩ y
        obtain ⟨rfl, y⟩ := y
        have ex := Option.some.inj ((y _ (SqL.of (sm' _ _ hg7))).symm.trans (groups_at hj))
        subst ex
        have s9 : Same H5 H9 := (sm.trans sX).trans sm'
        have lj := roomJ_length p.pupils (FP p pins i) j
        have fin : ∀ H', H' = H9 → FP p pins i j = NOT → ∃ v17 : Option V, [some (V.ref r), some (.ref wd), some (.ref bd), some (.ref q), some (.int p.pupils), some (.ref ga), some (.ref sa), some (.ref wa), some (.ref ba), some (.ref D), some (.ref O), some (.ref wl), some (.int (i : Nat)), some (.int (p.beds.getD i 0 : Nat)), some (.int (hereG p.pupils pins i : Nat)), some (.int (4 - 1 - (i : Int))), some (.ref ia), some (.int (j : Int))] = [some (V.ref r), some (.ref wd), some (.ref bd), some (.ref q), some (.int p.pupils), some (.ref ga), some (.ref sa), some (.ref wa), some (.ref ba), some (.ref D), some (.ref O), some (.ref wl), some (.int (i : Nat)), some (.int (p.beds.getD i 0 : Nat)), some (.int (hereG p.pupils pins i : Nat)), some (.int (4 - 1 - (i : Int))), some (.ref ia), v17] ∧ Same H7 H' ∧ H' ia = some (.lst (intsV (roomJ p.pupils (FP p pins i) (j + 1)))) :=
          fun H' e z => ⟨_, rfl, by rw [e]; exact sm', by rw [e, roomJ_not z]; exact hia'⟩
        refine ⟨_, rfl, _, rfl, sa, _, _, _, rfl, rfl, s9 _ _ h1F, sizes_at hj, _, rfl, _, _, rfl, rfl, _, rfl, ?_⟩
        refine ite2 (fun c1 => ?_) (fun c1 => ?_)
        · have c1 : pop j ≤ p.beds.getD i 0 := by have := of_decide_eq_true c1; omega
          refine ⟨_, rfl, _, rfl, _, _, rfl, rfl, _, rfl, rfl, _, rfl, ?_⟩
          refine ite2 (fun c2 => ?_) (fun c2 => ?_)
          · have c2 := of_decide_eq_true c2
            injection c2 with c2
            rw [bitAnd_nat] at c2
            have c2 : (j &&& hereG p.pupils pins i) = hereG p.pupils pins i := by omega
            refine ⟨_, rfl, _, rfl, D, _, _, _, rfl, rfl, s9 _ _ tF, intsV_atI (by rw [worthL_length]; exact hj), _, rfl, _, rfl, _, rfl, O, _, _, _, rfl, rfl, s9 _ _ oF, intsV_atI (by rw [worthL_length]; exact hj), _, _, rfl, rfl, .inl ⟨by omega, by omega⟩, _, _, rfl, rfl, ?_⟩
            refine ⟨_, rfl, _, rfl, ia, _, _, _, rfl, rfl, hia', ixN_lt (by rw [intsV_length, lj]; exact hj), ?_⟩
            refine ⟨_, rfl, fun b o' z => ?_, ?_⟩
            · rw [upd_ne (ne_of_none z nia)]; exact sm' _ _ z
            · rw [upd_same, intsV_set, roomJ_set hj, worthL_at hj, worthL_at hj]
              congr 4
              unfold FP FW
              rw [if_pos ⟨c1, c2⟩]
              rfl
          · refine fin _ rfl ?_
            unfold FP FW
            rw [if_neg]
            rintro ⟨_, z⟩
            exact c2 (decide_eq_true (congrArg V.int ((bitAnd_nat j (hereG p.pupils pins i)).trans (by rw [z]))))
        · refine iteF (fin _ rfl ?_)
          unfold FP FW
          rw [if_neg]
          rintro ⟨z, _⟩
          exact c1 (decide_eq_true (by omega))
      · rintro σ H8 ⟨v17, rfl, sm', hia'⟩
        rw [roomJ_all] at hia'
        have s10 : Same H' H8 := sX.trans sm'
        have hwl8 := s10 _ _ hws
        have nwi : wl ≠ ia := fun e => by
          rw [e] at hws
          rw [sX _ _ hws] at nia
          cases nia
        refine ⟨_, rfl, .inl ⟨rfl, _, SqL.of hwl8⟩, _, rfl, wl, _, _, rfl, rfl, hwl8, (by rw [List.length_map, rows.len, roomsL_length, sizeLine_eq]; omega), ?_⟩
        refine ⟨_, _, _, _, _, _, rfl, fun b o' z => ?_, ws ++ [ia], ?_, ?_, ?_⟩
        · rw [upd_ne (ne_of_none z hwl)]; exact s10 _ _ (sm _ _ z)
        · rw [upd_same, List.map_append]; rfl
        · rw [roomsL_succ]
          refine Rows.upd (Rows.snoc (rows.same s10) hia') ?_
          rw [List.mem_append, List.mem_singleton]
          exact fun z => z.elim nws nwi
        · rw [List.mem_append, List.mem_singleton]
          exact fun z => z.elim nws nwi
    · rintro σ H' ⟨v12, v13, v14, v15, v16, v17, rfl, sm, ws, hws, rows, _⟩
      exact ⟨_, rfl, k H' wl ws (sF.trans sm) hws rows⟩
/-- best_filling -/
def sp_best_filling : Sp := fun vs H Q _ => ∃ (r wd bd q : Addr) (p : Plan) (pins : List Nat), vs = [.ref r, .ref wd, .ref bd, .ref q] ∧ PlanAt H r wd bd q p pins ∧ ¬ p.pupils = 0 ∧
  (Ks305.best p pins = none → ∀ H', Same H H' → Q .non H') ∧ ∀ F, Ks305.best p pins = some F → ∀ (H' : Hp) (s : Addr), Same H H' → H s = none → H' s = some (.lst (nums F)) → Q (.ref s) H'
theorem ok_best_filling (M : TFun K mg "best_filling" s_best_filling ["rooms", "wishes", "bars", "pins"]) (T : Txt K mg C) (G_worths_in_rooms : FOk P w K mg base 3 "worths_in_rooms" ["rooms", "wishes", "bars", "pins"] sp_worths)
    (G_group_parts : FOk P w K mg base 1 "group_parts" ["pupils"] sp_parts) (G_best_worth : FOk P w K mg base 3 "best_worth" ["worths", "parts"] sp_best_worth) (G_filling_of_worth : FOk P w K mg base 1 "filling_of_worth" ["worth", "pupils"] sp_decode) :
    FOk P w K mg base 5 "best_filling" ["rooms", "wishes", "bars", "pins"] sp_best_filling := by
  obtain ⟨f, fd, F, hb, hm⟩ := M
  refine ⟨f, fd, hm, F.kp, F.ok sc_best_filling (fun vs H Q E h => ?_) (fun cdv A outer s H vs Q E hr h => ?_), hb⟩
  · obtain ⟨r, wd, bd, q, p, pins, rfl, _⟩ := h
    rfl
  · obtain ⟨r, wd, bd, q, p, pins, rfl, pa, h0, k1, k2⟩ := h
    have o := pa.ok
    have hn := o.pup
    refine ⟨_, (pss_cons (ps_if (pt_cmpR op_eq (pe_callB call_lenL (by rfl) T.len PySem.boot_len (pa_cons (pv 0) pa_nil)) pe_int (nomark _)) (pss_one (ps_ret pe_non)) pss_nil)
  (pss_cons (ps_set (i := 4) sc_best_filling.nd rfl (Or.inl rfl) (pe_callB call_lenL (by rfl) T.len PySem.boot_len (pa_cons (pv 3) pa_nil)))
  (pss_cons (ps_set (i := 5) sc_best_filling.nd rfl (Or.inl rfl) (pe_callF G_best_worth (hr.mono (by decide)) (pa_cons (pe_callF G_worths_in_rooms (hr.mono (by decide)) (pa_cons (pv 0) (pa_cons (pv 1) (pa_cons (pv 2) (pa_cons (pv 3) pa_nil))))) (pa_cons (pe_callF G_group_parts (hr.mono (by decide)) (pa_cons (pv 4) pa_nil)) pa_nil))))
  (pss_cons (ps_if (pt_cmpR op_lt (pv 5) pe_int (nomark _)) (pss_one (ps_ret pe_non)) pss_nil)
  (pss_one (ps_ret (pe_callF G_filling_of_worth (hr.mono (by decide)) (pa_cons (pv 5) (pa_cons (pv 4) pa_nil))))))))), ?_⟩
    refine ⟨_, rfl, r, _, rfl, pa.rooms, rfl, _, rfl, ?_⟩
    rw [nums_length]
    refine ite2 (fun c => ?_) (fun c => ?_)
    · have c := of_decide_eq_true c
      injection c with c
      exact k1 (best_no_rooms o (by omega) h0) H (Same.refl H)
    · have hR : 0 < p.beds.length := Nat.pos_of_ne_zero fun z => c (decide_eq_true (by rw [z]; rfl))
      refine ⟨_, rfl, q, _, rfl, pa.pinl, ?_⟩
      rw [nums_length, o.pin]
      refine ⟨_, rfl, _, rfl, _, rfl, _, rfl, r, wd, bd, q, p, pins, rfl, pa, fun H1 wa ws s1 hwa rows => ?_⟩
      refine ⟨_, rfl, p.pupils, rfl, hn, fun H2 pp ps s2 n2 hpp rows2 => ?_⟩
      refine ⟨wa, pp, ws, ps, p.pupils, p.beds.length, FP p pins, rfl, hn, hR, o.rooms, s2 _ _ hwa, hpp, rows.same s2, rows2, fun H3 s3 => ?_⟩
      have sH := (s1.trans s2).trans s3
      have e := best_most o hR
      unfold mostW at e
      refine ⟨_, rfl, _, _, rfl, rfl, _, rfl, ?_⟩
      refine ite2 (fun c => ?_) (fun c => ?_)
      · have c := of_decide_eq_true c
        rw [if_pos c] at e
        exact k1 e H3 sH
      · have c : ¬ Bd p.pupils (FP p pins) (p.beds.length - 1) (2 ^ p.pupils - 1) < 0 := fun z => c (decide_eq_true z)
        rw [if_neg c] at e
        refine ⟨_, rfl, _, rfl, _, p.pupils, rfl, Int.not_lt.mp c, hn, fun H4 sa s4 n4 h4 => ?_⟩
        exact k2 _ e H4 sa (sH.trans s4) (sH.free n4) h4
end
end Rs
end
section
set_option Elab.async false
set_option linter.all false
set_option maxRecDepth 100000
set_option maxHeartbeats 4000000
/-! The journey while a filling is looked at anew. -/
namespace Rs
open PySem PySem.Spec PyProof.Rows L2
open Ks306 (Abs Call act looked keepsPins put has pairOk there)
/-- what lies where, whatever the filling is -/
structure JHp (C : Addr) (H : Hp) (p : Addr) (j : J) (a : Abs) : Prop where
  ob : ∃ dx, H p = some (.ins C dx (flds (a.plan.pupils : Int) j.r j.w j.b j.q j.fv))
  rooms : H j.r = some (.lst (nums a.plan.beds))
  wishes : H j.w = some (.dT (a.plan.wishes.map pairK))
  bars : H j.b = some (.dT (a.plan.bars.map pairK))
  pins : H j.q = some (.lst (nums a.pins))
  fil : match j.f, a.filling with
    | none, none => True
    | some x, some f => H x = some (.lst (nums f))
    | _, _ => False
  nd : (j.own p).Nodup
section
variable {C p : Addr} {H H' : Hp} {j : J} {a : Abs}
theorem JAt.hp (A : JAt C H p j a) : JHp C H p j a := ⟨A.ob, A.rooms, A.wishes, A.bars, A.pins, A.fil, A.nd⟩
theorem JHp.jat (A : JHp C H p j a) (w : Wf a) : JAt C H p j a := ⟨A.ob, A.rooms, A.wishes, A.bars, A.pins, A.fil, A.nd, w⟩
theorem JHp.same (A : JHp C H p j a) (s : Same H H') : JHp C H' p j a := by
  obtain ⟨dx, hp⟩ := A.ob
  refine ⟨⟨dx, s _ _ hp⟩, s _ _ A.rooms, s _ _ A.wishes, s _ _ A.bars, s _ _ A.pins, ?_, A.nd⟩
  have z := A.fil
  revert z
  cases j.f <;> cases a.filling <;> intro z
  · trivial
  · exact z
  · exact z
  · exact s _ _ z
theorem JAt.fil0 (A : JAt C H p j a) (h : a.filling = none) : j.f = none := by
  have z := A.fil
  revert z
  rw [h]
  cases j.f <;> intro z
  · rfl
  · exact z.elim
theorem JHp.fil0 (A : JHp C H p j a) (h : a.filling = none) : j.f = none := by
  have z := A.fil
  revert z
  rw [h]
  cases j.f <;> intro z
  · rfl
  · exact z.elim
theorem JHp.fil1 (A : JHp C H p j a) {F : List Nat} (h : a.filling = some F) : ∃ x, j.f = some x ∧ H x = some (.lst (nums F)) := by
  have z := A.fil
  revert z
  rw [h]
  cases j.f <;> intro z
  · exact z.elim
  · exact ⟨_, rfl, z⟩
theorem JAt.fil1 (A : JAt C H p j a) {F : List Nat} (h : a.filling = some F) : ∃ x, j.f = some x ∧ H x = some (.lst (nums F)) := A.hp.fil1 h
theorem fv_none (h : j.f = none) : j.fv = .non := by unfold J.fv; rw [h]
theorem fv_some {x : Addr} (h : j.f = some x) : j.fv = .ref x := by unfold J.fv; rw [h]
/-- the rooms, pins, bars changed -/
theorem JAt.rooms' (A : JAt C H p j a) (l : List Nat) : JHp C (upd H j.r (.lst (nums l))) p j { a with plan := { a.plan with beds := l } } := by
  have D := A.apart
  obtain ⟨dx, hp⟩ := A.ob
  exact ⟨⟨dx, by rw [upd_ne D.pr]; exact hp⟩, upd_same, by rw [upd_ne D.rw.symm]; exact A.wishes, by rw [upd_ne D.rb.symm]; exact A.bars, by rw [upd_ne D.rq.symm]; exact A.pins, A.fil_keep fun x hx => upd_ne (A.fne hx).2.1, A.nd⟩
theorem JAt.pins' (A : JAt C H p j a) (l : List Nat) : JHp C (upd H j.q (.lst (nums l))) p j { a with pins := l } := by
  have D := A.apart
  obtain ⟨dx, hp⟩ := A.ob
  exact ⟨⟨dx, by rw [upd_ne D.pq]; exact hp⟩, by rw [upd_ne D.rq]; exact A.rooms, by rw [upd_ne D.wq]; exact A.wishes, by rw [upd_ne D.bq]; exact A.bars, upd_same, A.fil_keep fun x hx => upd_ne (A.fne hx).2.2.2.2, A.nd⟩
theorem JAt.bars' (A : JAt C H p j a) (l : List (Nat × Nat)) : JHp C (upd H j.b (.dT (l.map pairK))) p j { a with plan := { a.plan with bars := l } } := by
  have D := A.apart
  obtain ⟨dx, hp⟩ := A.ob
  exact ⟨⟨dx, by rw [upd_ne D.pb]; exact hp⟩, by rw [upd_ne D.rb]; exact A.rooms, by rw [upd_ne D.wb]; exact A.wishes, upd_same, by rw [upd_ne D.bq.symm]; exact A.pins, A.fil_keep fun x hx => upd_ne (A.fne hx).2.2.2.1, A.nd⟩
theorem JHp.apart (A : JHp C H p j a) : Apart p j := by
  have h := A.nd
  unfold J.own at h
  simp only [List.nodup_cons, List.mem_cons, not_or] at h
  obtain ⟨⟨h1, h2, h3, h4, _⟩, ⟨h5, h6, h7, _⟩, ⟨h8, h9, _⟩, ⟨h10, _⟩, _⟩ := h
  exact ⟨h1, h2, h3, h4, h5, h6, h7, h8, h9, h10⟩
/-- the filling is gone -/
theorem JHp.gone (A : JHp C H p j a) {dx : Addr} : JHp C (upd H p (.ins C dx (flds (a.plan.pupils : Int) j.r j.w j.b j.q .non))) p { j with f := none } { a with filling := none } := by
  have D := A.apart
  refine ⟨⟨dx, upd_same⟩, by rw [upd_ne D.pr.symm]; exact A.rooms, by rw [upd_ne D.pw.symm]; exact A.wishes, by rw [upd_ne D.pb.symm]; exact A.bars, by rw [upd_ne D.pq.symm]; exact A.pins, trivial, ?_⟩
  have h := A.nd
  unfold J.own at h ⊢
  simp only [Option.toList_none]
  exact List.Nodup.sublist (List.Sublist.cons₂ _ (List.Sublist.cons₂ _ (List.Sublist.cons₂ _ (List.Sublist.cons₂ _ (List.Sublist.cons₂ _ (List.nil_sublist _)))))) h
theorem fr_gone {o : HO} : Fr H (upd H p o) p j { j with f := none } := ⟨fun c u z n => (upd_ne fun e => n (by rw [e]; exact own_p)).trans z, fun c m => .inl (by
  unfold J.own at m ⊢
  simp only [Option.toList_none, List.mem_cons, List.not_mem_nil, or_false] at m ⊢
  rcases m with m | m | m | m | m
  · exact .inl m
  · exact .inr (.inl m)
  · exact .inr (.inr (.inl m))
  · exact .inr (.inr (.inr (.inl m)))
  · exact .inr (.inr (.inr (.inr (.inl m)))))⟩
/-- another filling -/
theorem JHp.fills (A : JHp C H p j a) {dx x : Addr} {F : List Nat} (hx : H x = some (.lst (nums F))) (nx : ¬ x ∈ j.own p) : JHp C (upd H p (.ins C dx (flds (a.plan.pupils : Int) j.r j.w j.b j.q (.ref x)))) p { j with f := some x } { a with filling := some F } := by
  have D := A.apart
  have n : x ≠ p ∧ x ≠ j.r ∧ x ≠ j.w ∧ x ≠ j.b ∧ x ≠ j.q := by
    unfold J.own at nx
    simp only [List.mem_cons, not_or] at nx
    exact ⟨nx.1, nx.2.1, nx.2.2.1, nx.2.2.2.1, nx.2.2.2.2.1⟩
  obtain ⟨n1, n2, n3, n4, n5⟩ := n
  refine ⟨⟨dx, upd_same⟩, by rw [upd_ne D.pr.symm]; exact A.rooms, by rw [upd_ne D.pw.symm]; exact A.wishes, by rw [upd_ne D.pb.symm]; exact A.bars, by rw [upd_ne D.pq.symm]; exact A.pins, ?_, ?_⟩
  · show (upd H p _) x = _
    rw [upd_ne n1]; exact hx
  · unfold J.own
    simp [D.pr, D.pw, D.pb, D.pq, D.rw, D.rb, D.rq, D.wb, D.wq, D.bq, n1.symm, n2.symm, n3.symm, n4.symm, n5.symm]
theorem fr_fills {H0 : Hp} {x : Addr} {o : HO} (s : Same H0 H) (h : H0 x = none) : Fr H0 (upd H p o) p j { j with f := some x } := ⟨fun c u z n => (upd_ne fun e => n (by rw [e]; exact own_p)).trans (s _ _ z), fun c m => by
  unfold J.own at m
  simp only [Option.toList_some, List.mem_cons, List.not_mem_nil, or_false] at m
  rcases m with m | m | m | m | m | m
  · exact .inl (by rw [m]; exact own_p)
  · exact .inl (by rw [m]; exact own_r)
  · exact .inl (by rw [m]; exact own_w)
  · exact .inl (by rw [m]; exact own_b)
  · exact .inl (by rw [m]; exact own_q)
  · exact .inr (by rw [m]; exact h)⟩
theorem fr_same (s : Same H H') : Fr H H' p j j := ⟨fun c o z _ => s c o z, fun _ m => .inl m⟩
/-- what is new isn't its own -/
theorem JHp.tracked (A : JHp C H p j a) {c : Addr} (m : c ∈ j.own p) : ∃ o, H c = some o := by
  obtain ⟨dx, hp⟩ := A.ob
  have fl := A.fil
  simp only [J.own, List.mem_cons] at m
  rcases m with rfl | rfl | rfl | rfl | rfl | m
  · exact ⟨_, hp⟩
  · exact ⟨_, A.rooms⟩
  · exact ⟨_, A.wishes⟩
  · exact ⟨_, A.bars⟩
  · exact ⟨_, A.pins⟩
  · cases ef : j.f with
    | none => rw [ef] at m; cases m
    | some x =>
      rw [ef] at m fl
      have e : c = x := by simpa using m
      subst e
      cases eg : a.filling with
      | none => rw [eg] at fl; exact fl.elim
      | some f => rw [eg] at fl; exact ⟨_, fl⟩
theorem JAt.notOwn (A : JAt C H p j a) {c : Addr} (h : H c = none) : ¬ c ∈ j.own p := fun m => by
  obtain ⟨o, ho⟩ := A.hp.tracked m
  rw [h] at ho
  cases ho
end
/-! ### why a filling may not be -/
def refusalF (a : Abs) (F : List Nat) : Int := if keepsPins a.pins F = false then -13 else if (Ks304.tooFull a.plan F).isSome then -28 else if (Ks304.broken a.plan F).isSome then -1 else 0
theorem may_parts {p : Ks304.Plan} {F : List Nat} (h1 : F.length = p.pupils) (h2 : ∀ r ∈ F, r < p.beds.length) : Ks304.may p F = ((Ks304.tooFull p F).isNone && (Ks304.broken p F).isNone) := by
  unfold Ks304.may
  have : Ks304.okFilling p F = true := by
    unfold Ks304.okFilling
    rw [Bool.and_eq_true, beq_iff_eq, List.all_eq_true]
    exact ⟨h1, fun r hr => decide_eq_true (h2 r hr)⟩
  rw [this, Bool.true_and]
theorem refusalF_neg {a : Abs} {F : List Nat} (h1 : F.length = a.plan.pupils) (h2 : ∀ r ∈ F, r < a.plan.beds.length) : refusalF a F < 0 ↔ (Ks304.may a.plan F && keepsPins a.pins F) = false := by
  rw [may_parts h1 h2]
  unfold refusalF
  cases keepsPins a.pins F <;> cases Ks304.tooFull a.plan F <;> cases Ks304.broken a.plan F <;> simp
end Rs
end
section
set_option Elab.async false
set_option linter.all false
set_option maxRecDepth 100000
set_option maxHeartbeats 4000000
namespace Rs
open PySem PySem.Spec PyProof.Rows L2
open Ks306 (Abs Call act looked keepsPins put has pairOk there)
section
variable {P : Program} {w : World} {K : PySem.W.Frag} {mg : Str → Option Value} {base : Heap} {C : Addr}
/-- has_filling -/
def sp_has (C : Addr) : Sp := fun vs H Q _ => ∃ (p : Addr) (j : J) (a : Abs), vs = [.ref p] ∧ JHp C H p j a ∧ Q (.int (there a)) H
theorem there_none {a : Abs} (h : a.filling = none) : there a = 0 := by unfold there; rw [h]; rfl
theorem there_some {a : Abs} {F : List Nat} (h : a.filling = some F) : there a = 1 := by unfold there; rw [h]; rfl
theorem ok_has (M : MFun K C "has_filling" "Journey.has_filling" s_has_filling ["self"]) (T : Txt K mg C) : MOk P w K mg base C 1 "has_filling" ["self"] (sp_has C) := by
  obtain ⟨f, fd, F, hb, hm⟩ := M
  refine ⟨f, fd, hm, F.ok sc_has_filling (fun vs H Q E h => ?_) (fun cdv A outer s H vs Q E hr h => ?_), hb⟩
  · obtain ⟨p, j, a, rfl, _⟩ := h
    rfl
  · obtain ⟨p, j, a, rfl, J, k⟩ := h
    obtain ⟨dx, hp⟩ := J.ob
    refine ⟨_, (pss_cons (ps_if (pt_cmp (pc_isN (pe_fld (pv 0) rfl))) (pss_one (ps_ret pe_int)) pss_nil)
  (pss_one (ps_ret pe_int))), ?_⟩
    refine ⟨_, rfl, p, C, dx, _, _, rfl, hp, T.cl, T.n_filling, f_filling _ _ _ _ _ _, _, rfl, ?_⟩
    cases e : a.filling with
    | none =>
      rw [there_none e] at k
      rw [fv_none (J.fil0 e)]
      exact iteT k
    | some G =>
      rw [there_some e] at k
      obtain ⟨x, hx, _⟩ := J.fil1 e
      rw [fv_some hx]
      exact iteF k
/-- filling_refusal -/
def sp_refusal (C : Addr) : Sp := fun vs H Q _ => ∃ (p x : Addr) (j : J) (a : Abs) (F : List Nat), vs = [.ref p, .ref x] ∧ JHp C H p j a ∧ H x = some (.lst (nums F)) ∧ F.length = a.plan.pupils ∧ a.plan.pupils ≤ 8 ∧ a.pins.length = a.plan.pupils ∧ a.plan.beds.length ≤ 4 ∧ a.plan.bars.length ≤ 32 ∧
  (∀ q ∈ a.plan.bars, q.1 < a.plan.pupils ∧ q.2 < a.plan.pupils) ∧ ∀ H', Same H H' → Q (.int (refusalF a F)) H'
theorem broken_len {p : Ks304.Plan} {F : List Nat} : (Ks304.broken p F).isSome = true ↔ 0 < (p.bars.filter (Ks304.together F)).length := by
  rw [broken_some, List.length_pos_iff, ne_eq, List.filter_eq_nil_iff]
  constructor
  · rintro ⟨q, h1, h2⟩ z
    exact z q h1 h2
  · intro z
    exact Classical.byContradiction fun n => z fun q hq h => n ⟨q, hq, h⟩
theorem ok_refusal (M : MFun K C "filling_refusal" "Journey.filling_refusal" s_filling_refusal ["self", "filling"]) (T : Txt K mg C) (G_keeps_to_pins : FOk P w K mg base 1 "keeps_to_pins" ["filling", "pins"] sp_keeps) (G_is_too_full : FOk P w K mg base 1 "is_too_full" ["filling", "rooms"] sp_full)
    (G_count_together : FOk P w K mg base 1 "count_together" ["filling", "pairs"] sp_together) : MOk P w K mg base C 3 "filling_refusal" ["self", "filling"] (sp_refusal C) := by
  obtain ⟨f, fd, F, hb, hm⟩ := M
  refine ⟨f, fd, hm, F.ok sc_filling_refusal (fun vs H Q E h => ?_) (fun cdv A outer s H vs Q E hr h => ?_), hb⟩
  · obtain ⟨p, x, j, a, F, rfl, _⟩ := h
    rfl
  · obtain ⟨p, x, j, a, F, rfl, J, hx, hl, h8, hpl, h4, hbl, hbr, k⟩ := h
    refine ⟨_, (pss_cons (ps_if (pt_not (pt_val (pe_callF G_keeps_to_pins (hr.mono (by decide)) (pa_cons (pv 1) (pa_cons (pe_fld (pv 0) rfl) pa_nil))))) (pss_one (ps_ret (pe_globI T.c_PINNED_ELSEWHERE))) pss_nil)
  (pss_cons (ps_if (pt_val (pe_callF G_is_too_full (hr.mono (by decide)) (pa_cons (pv 1) (pa_cons (pe_fld (pv 0) rfl) pa_nil)))) (pss_one (ps_ret (pe_globI T.c_TOO_FULL))) pss_nil)
  (pss_cons (ps_if (pt_cmpR op_gt (pe_callF G_count_together (hr.mono (by decide)) (pa_cons (pv 1) (pa_cons (pe_fld (pv 0) rfl) pa_nil))) pe_int (nomark _)) (pss_one (ps_ret (pe_globI T.c_BAR_BROKEN))) pss_nil)
  (pss_one (ps_ret pe_int))))), ?_⟩
    obtain ⟨dx, hp⟩ := J.ob
    refine ⟨_, rfl, _, rfl, p, C, dx, _, _, rfl, hp, T.cl, T.n_pins, f_pins _ _ _ _ _ _, x, j.q, F, a.pins, rfl, hx, J.pins, (by rw [hl, hpl]), (by omega), fun H1 s1 => ?_⟩
    refine ⟨_, rfl, ?_⟩
    unfold refusalF at k
    cases e1 : keepsPins a.pins F with
    | false =>
      rw [if_pos e1] at k
      exact iteT (k H1 s1)
    | true =>
      rw [if_neg (by rw [e1]; decide)] at k
      refine iteF ?_
      have J1 := J.same s1
      obtain ⟨dx1, hp1⟩ := J1.ob
      refine ⟨_, rfl, _, rfl, p, C, dx1, _, _, rfl, hp1, T.cl, T.n_rooms, f_rooms _ _ _ _ _ _, x, j.r, F, a.plan.beds, rfl, s1 _ _ hx, J1.rooms, h4, fun H2 s2 => ?_⟩
      rw [full_range]
      refine ⟨_, rfl, ?_⟩
      cases e2 : (Ks304.tooFull a.plan F).isSome with
      | true =>
        rw [if_pos e2] at k
        exact iteT (k H2 (s1.trans s2))
      | false =>
        rw [if_neg (by rw [e2]; decide)] at k
        refine iteF ?_
        have J2 := J1.same s2
        obtain ⟨dx2, hp2⟩ := J2.ob
        refine ⟨_, rfl, _, rfl, p, C, dx2, _, _, rfl, hp2, T.cl, T.n_bars, f_bars _ _ _ _ _ _, x, j.b, F, a.plan.bars, rfl, s2 _ _ (s1 _ _ hx), J2.bars, hbl, (by rw [hl]; exact hbr), fun H3 s3 => ?_⟩
        refine ⟨_, _, rfl, rfl, _, rfl, ?_⟩
        refine ite2 (fun c => ?_) (fun c => ?_)
        · have c := of_decide_eq_true c
          rw [if_pos (broken_len.mpr (by omega))] at k
          exact k H3 ((s1.trans s2).trans s3)
        · rw [if_neg (fun z => c (decide_eq_true (by have := broken_len.mp z; omega)))] at k
          exact k H3 ((s1.trans s2).trans s3)
/-- look_anew -/
def sp_look (C : Addr) : Sp := fun vs H Q _ => ∃ (p : Addr) (j : J) (a : Abs), vs = [.ref p] ∧ JHp C H p j a ∧ Wf (looked a) ∧ (∀ F, a.filling = some F → F.length = a.plan.pupils ∧ ∀ r ∈ F, r < a.plan.beds.length) ∧
  ∀ H' j', JAt C H' p j' (looked a) → Fr H H' p j j' → Q (.int (there (looked a))) H'
theorem ok_look (M : MFun K C "look_anew" "Journey.look_anew" s_look_anew ["self"]) (T : Txt K mg C) (G_has_filling : MOk P w K mg base C 1 "has_filling" ["self"] (sp_has C)) (G_filling_refusal : MOk P w K mg base C 3 "filling_refusal" ["self", "filling"] (sp_refusal C)) :
    MOk P w K mg base C 5 "look_anew" ["self"] (sp_look C) := by
  obtain ⟨f, fd, F, hb, hm⟩ := M
  refine ⟨f, fd, hm, F.ok sc_look_anew (fun vs H Q E h => ?_) (fun cdv A outer s H vs Q E hr h => ?_), hb⟩
  · obtain ⟨p, j, a, rfl, _⟩ := h
    rfl
  · obtain ⟨p, j, a, rfl, J, wl, hF, k⟩ := h
    refine ⟨_, (pss_cons (ps_if (PW.pt (pw_and (pt_cmp (pc_notN (pe_fld (pv 0) rfl))) (pw_and1 (pt_cmpR op_lt (pe_methM (pv 0) T.cl G_filling_refusal (hr.mono (by decide)) (pa_cons (pe_fld (pv 0) rfl) pa_nil)) pe_int (nomark _))))) (pss_one (ps_fld (pv 0) pe_non rfl)) pss_nil)
  (pss_one (ps_ret (pe_methM0 (pv 0) T.cl G_has_filling (hr.mono (by decide)))))), ?_⟩
    obtain ⟨dx, hp⟩ := J.ob
    refine ⟨_, rfl, p, C, dx, _, _, rfl, hp, T.cl, T.n_filling, f_filling _ _ _ _ _ _, _, rfl, ?_⟩
    cases e : a.filling with
    | none =>
      rw [fv_none (J.fil0 e)]
      have el := looked_none e
      rw [el] at k wl
      refine iteF (iteF ?_)
      exact ⟨_, rfl, p, dx, _, rfl, hp, rfl, p, j, a, rfl, J, k H j (J.jat wl) (Fr.refl _ _ _)⟩
    | some G =>
      obtain ⟨x, hx, hx'⟩ := J.fil1 e
      rw [fv_some hx] at hp ⊢
      obtain ⟨l1, l2⟩ := hF G e
      have pl := looked_plan a
      have pp := looked_pins a
      have g1 := wl.pup
      have g2 := wl.pin
      have g3 := wl.rooms
      have g4 := wl.bl
      have g5 : ∀ q ∈ (looked a).plan.bars, q.1 < (looked a).plan.pupils ∧ q.2 < (looked a).plan.pupils := fun q hq => ⟨Nat.lt_trans (wl.br q hq).1 (wl.br q hq).2, (wl.br q hq).2⟩
      rw [pl] at g1 g3 g4 g5
      rw [pl, pp] at g2
      refine iteT ?_
      refine ⟨_, rfl, p, dx, _, rfl, hp, rfl, _, rfl, p, C, dx, _, _, rfl, hp, T.cl, T.n_filling, f_filling _ _ _ _ _ _, p, x, j, a, G, rfl, J, hx', l1, g1, g2, g3, g4, g5, fun H1 s1 => ?_⟩
      refine ⟨_, _, rfl, rfl, _, rfl, ?_⟩
      have J1 := J.same s1
      have hp1 := s1 _ _ hp
      have el := looked_some e
      refine ite2 (fun c => ?_) (fun c => ?_)
      · have c := of_decide_eq_true c
        rw [(refusalF_neg l1 l2).mp c, if_neg (by decide)] at el
        rw [el] at k wl
        refine ⟨_, rfl, p, C, dx, _, rfl, hp1, T.cl, T.n_filling, (by show 6 < 1000; decide), ?_⟩
        have J2 := J1.gone (dx := dx)
        exact ⟨_, rfl, p, dx, _, rfl, upd_same, rfl, p, { j with f := none }, { a with filling := none }, rfl, J2, k _ _ (J2.jat wl) ((fr_same s1).trans fr_gone)⟩
      · have c : ¬ refusalF a G < 0 := fun z => c (decide_eq_true z)
        have b : (Ks304.may a.plan G && keepsPins a.pins G) = true := by
          cases z : (Ks304.may a.plan G && keepsPins a.pins G)
          · exact absurd ((refusalF_neg l1 l2).mpr z) c
          · rfl
        rw [b, if_pos rfl] at el
        rw [el] at k wl
        exact ⟨_, rfl, p, dx, _, rfl, hp1, rfl, p, j, a, rfl, J1, k _ _ (J1.jat wl) (fr_same s1)⟩
/-- a call of two numbers -/
def sp2 (C : Addr) (c : Nat → Nat → Call) : Sp := fun vs H Q _ => ∃ (p : Addr) (j : J) (a : Abs) (x y : Nat), vs = [.ref p, .int x, .int y] ∧ JAt C H p j a ∧ ∀ H' j', JAt C H' p j' (act a (c x y)).1 → Fr H H' p j j' → Q (.int (act a (c x y)).2.ret) H'
theorem fil_len {a : Abs} (w : Wf a) : ∀ F, a.filling = some F → F.length = a.plan.pupils ∧ ∀ r ∈ F, r < a.plan.beds.length := fun F h => by
  obtain ⟨h1, h2, _⟩ := may_iff.mp (w.fil F h).1
  exact ⟨h1, h2⟩
theorem ok_beds (M : MFun K C "beds" "Journey.beds" s_beds ["self", "room", "beds"]) (T : Txt K mg C) (G_look_anew : MOk P w K mg base C 5 "look_anew" ["self"] (sp_look C)) : MOk P w K mg base C 7 "beds" ["self", "room", "beds"] (sp2 C Call.beds) := by
  obtain ⟨f, fd, F, hb, hm⟩ := M
  refine ⟨f, fd, hm, F.ok sc_beds (fun vs H Q E h => ?_) (fun cdv A outer s H vs Q E hr h => ?_), hb⟩
  · obtain ⟨p, j, a, x, y, rfl, _⟩ := h
    rfl
  · obtain ⟨p, j, a, x, y, rfl, J, k⟩ := h
    obtain ⟨dx, hp⟩ := J.ob
    refine ⟨_, (pss_cons (ps_if (pt_cmpR op_ge (pv 1) (pe_callB call_lenL (by rfl) T.len PySem.boot_len (pa_cons (pe_fld (pv 0) rfl) pa_nil)) (nomark _)) (pss_one (ps_ret (pe_globI T.c_NOT_THERE))) pss_nil)
  (pss_cons (ps_if (pt_cmpR op_gt (pv 2) (pe_globI T.c_MOST_BEDS) (nomark _)) (pss_one (ps_ret (pe_globI T.c_OUT_OF_RANGE))) pss_nil)
  (pss_cons (ps_asg (pv 2) (pg_sub (pe_fld (pv 0) rfl) (pv 1) set_list))
  (pss_one (ps_ret (pe_methM0 (pv 0) T.cl G_look_anew (hr.mono (by decide)))))))), ?_⟩
    refine ⟨_, rfl, _, rfl, p, C, dx, _, _, rfl, hp, T.cl, T.n_rooms, f_rooms _ _ _ _ _ _, j.r, _, rfl, J.rooms, _, _, rfl, rfl, _, rfl, ?_⟩
    rw [nums_length]
    refine ite2 (fun c1 => ?_) (fun c1 => ?_)
    · have c1 := of_decide_eq_true c1
      exact stays (by simp only [act]; exact if_pos (by omega)) J k
    · have c1 : ¬ a.plan.beds.length ≤ x := fun z => c1 (decide_eq_true (by omega))
      refine ⟨_, rfl, _, _, rfl, rfl, _, rfl, ?_⟩
      refine ite2 (fun c2 => ?_) (fun c2 => ?_)
      · have c2 := of_decide_eq_true c2
        exact stays (by simp only [act]; rw [if_neg c1]; exact if_pos (by show 8 < y; omega)) J k
      · have c2 : ¬ 8 < y := fun z => c2 (decide_eq_true (by omega))
        have e : act a (.beds x y) = (looked { a with plan := { a.plan with beds := a.plan.beds.set x y } }, Ks306.no (there (looked { a with plan := { a.plan with beds := a.plan.beds.set x y } }))) := by
          simp only [act]
          rw [if_neg c1, if_neg (by show ¬ 8 < y; exact c2)]
        have w' := wf_act J.wf (.beds x y)
        rw [e] at w' k
        refine ⟨_, rfl, _, rfl, p, C, dx, _, _, rfl, hp, T.cl, T.n_rooms, f_rooms _ _ _ _ _ _, _, rfl, j.r, _, _, x, rfl, rfl, J.rooms, ixN_lt (by rw [nums_length]; omega), ?_⟩
        rw [nums_set]
        have J1 := J.rooms' (a.plan.beds.set x y)
        have hp1 : (L2.upd H j.r (.lst (nums (a.plan.beds.set x y)))) p = some (.ins C dx (flds (a.plan.pupils : Int) j.r j.w j.b j.q j.fv)) := by rw [upd_ne J.apart.pr]; exact hp
        refine ⟨_, rfl, p, dx, _, rfl, hp1, rfl, p, j, _, rfl, J1, w', fun F hF => ?_, fun H' j' A fr => ?_⟩
        · obtain ⟨h1, h2⟩ := fil_len J.wf F hF
          exact ⟨h1, fun r hr => by show r < (a.plan.beds.set x y).length; rw [List.length_set]; exact h2 r hr⟩
        · exact k H' j' A ((fr_upd own_r).trans fr)
theorem ok_pin (M : MFun K C "pin" "Journey.pin" s_pin ["self", "a", "where"]) (T : Txt K mg C) (G_look_anew : MOk P w K mg base C 5 "look_anew" ["self"] (sp_look C)) : MOk P w K mg base C 7 "pin" ["self", "a", "where"] (sp2 C Call.pin) := by
  obtain ⟨f, fd, F, hb, hm⟩ := M
  refine ⟨f, fd, hm, F.ok sc_pin (fun vs H Q E h => ?_) (fun cdv A outer s H vs Q E hr h => ?_), hb⟩
  · obtain ⟨p, j, a, x, y, rfl, _⟩ := h
    rfl
  · obtain ⟨p, j, a, x, y, rfl, J, k⟩ := h
    obtain ⟨dx, hp⟩ := J.ob
    refine ⟨_, (pss_cons (ps_if (PW.pt (pw_or (pt_cmpR op_ge (pv 1) (pe_fld (pv 0) rfl) (nomark _)) (pw_or1 (pt_cmpR op_gt (pv 2) (pe_callB call_lenL (by rfl) T.len PySem.boot_len (pa_cons (pe_fld (pv 0) rfl) pa_nil)) (nomark _))))) (pss_one (ps_ret (pe_globI T.c_NOT_THERE))) pss_nil)
  (pss_cons (ps_asg (pv 2) (pg_sub (pe_fld (pv 0) rfl) (pv 1) set_list))
  (pss_one (ps_ret (pe_methM0 (pv 0) T.cl G_look_anew (hr.mono (by decide))))))), ?_⟩
    refine ⟨_, rfl, _, rfl, p, C, dx, _, _, rfl, hp, T.cl, T.n_pupils, f_pupils _ _ _ _ _ _, _, _, rfl, rfl, _, rfl, ?_⟩
    refine ite2 (fun c1 => ?_) (fun c1 => ?_)
    · have c1 := of_decide_eq_true c1
      refine iteT ?_
      exact stays (by simp only [act]; exact if_pos (.inl (by omega))) J k
    · have c1 : ¬ a.plan.pupils ≤ x := fun z => c1 (decide_eq_true (by omega))
      refine ⟨_, rfl, _, rfl, p, C, dx, _, _, rfl, hp, T.cl, T.n_rooms, f_rooms _ _ _ _ _ _, j.r, _, rfl, J.rooms, _, _, rfl, rfl, _, rfl, ?_⟩
      rw [nums_length]
      refine ite2 (fun c2 => ?_) (fun c2 => ?_)
      · have c2 := of_decide_eq_true c2
        exact stays (by simp only [act]; exact if_pos (.inr (by omega))) J k
      · have c2 : ¬ a.plan.beds.length < y := fun z => c2 (decide_eq_true (by omega))
        have e : act a (.pin x y) = (looked { a with pins := a.pins.set x y }, Ks306.no (there (looked { a with pins := a.pins.set x y }))) := by
          simp only [act]
          rw [if_neg (fun z => z.elim c1 c2)]
        have w' := wf_act J.wf (.pin x y)
        rw [e] at w' k
        have hlt : x < (nums a.pins).length := by rw [nums_length, J.wf.pin]; omega
        refine ⟨_, rfl, _, rfl, p, C, dx, _, _, rfl, hp, T.cl, T.n_pins, f_pins _ _ _ _ _ _, _, rfl, j.q, _, _, x, rfl, rfl, J.pins, ixN_lt hlt, ?_⟩
        rw [nums_set]
        have J1 := J.pins' (a.pins.set x y)
        have hp1 : (L2.upd H j.q (.lst (nums (a.pins.set x y)))) p = some (.ins C dx (flds (a.plan.pupils : Int) j.r j.w j.b j.q j.fv)) := by rw [upd_ne J.apart.pq]; exact hp
        refine ⟨_, rfl, p, dx, _, rfl, hp1, rfl, p, j, _, rfl, J1, w', fun F hF => fil_len (a := a) J.wf F hF, fun H' j' A fr => ?_⟩
        exact k H' j' A ((fr_upd own_q).trans fr)
theorem ok_bar (M : MFun K C "bar" "Journey.bar" s_bar ["self", "a", "b", "on"]) (T : Txt K mg C) (G_pair_refusal : MOk P w K mg base C 1 "pair_refusal" ["self", "a", "b", "on"] (sp_pair_refusal C))
    (G_tell_pair : FOk P w K mg base 1 "tell_pair" ["pairs", "pair", "on"] sp_tell_pair) (G_look_anew : MOk P w K mg base C 5 "look_anew" ["self"] (sp_look C)) : MOk P w K mg base C 7 "bar" ["self", "a", "b", "on"] (sp3 C Call.bar) := by
  obtain ⟨f, fd, F, hb, hm⟩ := M
  refine ⟨f, fd, hm, F.ok sc_bar (fun vs H Q E h => ?_) (fun cdv A outer s H vs Q E hr h => ?_), hb⟩
  · obtain ⟨p, j, a, x, y, z, rfl, _⟩ := h
    rfl
  · obtain ⟨p, j, a, x, y, on, rfl, J, k⟩ := h
    obtain ⟨dx, hp⟩ := J.ob
    refine ⟨_, (pss_cons (ps_set (i := 4) sc_bar.nd rfl (Or.inl rfl) (pe_methM (pv 0) T.cl G_pair_refusal (hr.mono (by decide)) (pa_cons (pv 1) (pa_cons (pv 2) (pa_cons (pv 3) pa_nil)))))
  (pss_cons (ps_if (pt_cmpR op_lt (pv 4) pe_int (nomark _)) (pss_one (ps_ret (pv 4))) pss_nil)
  (pss_cons (ps_set (i := 4) sc_bar.nd rfl (Or.inl rfl) (pe_callF G_tell_pair (hr.mono (by decide)) (pa_cons (pe_fld (pv 0) rfl) (pa_cons (pe_tup (pa_cons (pe_callB (call_min2 rfl) (by rfl) T.min (by decide +kernel) (pa_cons (pv 1) (pa_cons (pv 2) pa_nil))) (pa_cons (pe_callB (call_max2 rfl) (by rfl) T.max (by decide +kernel) (pa_cons (pv 1) (pa_cons (pv 2) pa_nil))) pa_nil))) (pa_cons (pv 3) pa_nil)))))
  (pss_cons (ps_if (pt_cmpR op_lt (pv 4) pe_int (nomark _)) (pss_one (ps_ret (pv 4))) pss_nil)
  (pss_one (ps_ret (pe_methM0 (pv 0) T.cl G_look_anew (hr.mono (by decide))))))))), ?_⟩
    refine ⟨_, rfl, p, dx, _, rfl, hp, rfl, _, rfl, _, rfl, _, rfl, p, j, a, x, y, on, rfl, J, ?_⟩
    refine ⟨_, rfl, _, _, rfl, rfl, _, rfl, ?_⟩
    rcases refusal_cases a x y on with ⟨h1, e⟩ | ⟨h1, h2, e⟩ | ⟨h1, h2, e⟩
    · rw [e]
      exact iteT ⟨_, rfl, stays (by simp [act, Abs.on, h1]) J k⟩
    · rw [e]
      exact iteT ⟨_, rfl, stays (by simp [act, Abs.on, h1, h2]) J k⟩
    · rw [e]
      refine iteF ?_
      have emin : (if (y : Int) < (x : Int) then (y : Int) else (x : Int)) = ((min x y : Nat) : Int) := by
        by_cases z : (y : Int) < (x : Int)
        · rw [if_pos z]; omega
        · rw [if_neg z]; omega
      have emax : (if (y : Int) > (x : Int) then (y : Int) else (x : Int)) = ((max x y : Nat) : Int) := by
        by_cases z : (y : Int) > (x : Int)
        · rw [if_pos z]; omega
        · rw [if_neg z]; omega
      refine ⟨_, rfl, p, C, dx, _, _, rfl, hp, T.cl, T.n_bars, f_bars _ _ _ _ _ _, _, rfl, _, rfl, _, _, rfl, _, rfl, _, rfl, _, _, rfl, (by show 2 ≤ sizeLine; decide), fun t ht => ?_⟩
      rw [emin, emax]
      have s1 : Same H (L2.upd H t (.tup [V.int (min x y : Nat), V.int (max x y : Nat)])) := Same.new ht
      have J1 := J.same s1
      have fr1 := fr_same (p := p) (j := j) s1
      have hon : on ≤ 1 := by
        unfold pairOk at h2
        simp only [Bool.and_eq_true, decide_eq_true_eq] at h2
        exact h2.2
      refine ⟨_, rfl, j.b, t, a.plan.bars, (min x y, max x y), on, rfl, J1.bars, upd_same, J.wf.bl, hon, fun h3 => ?_, fun h3 h4 => ?_, fun h3 h4 => ?_⟩
      · refine ⟨_, rfl, _, _, rfl, rfl, _, rfl, iteT ⟨_, rfl, ?_⟩⟩
        exact goes (b := a) (by rw [act_bar h1 h2, if_pos h3]) J1 fr1 k
      · refine ⟨_, rfl, _, _, rfl, rfl, _, rfl, iteT ⟨_, rfl, ?_⟩⟩
        exact goes (b := a) (by rw [act_bar h1 h2, if_neg h3, if_pos h4]) J1 fr1 k
      · refine ⟨_, rfl, _, _, rfl, rfl, _, rfl, iteF ?_⟩
        have e3 : act a (.bar x y on) = (looked { a with plan := { a.plan with bars := put on (min x y, max x y) a.plan.bars } }, Ks306.no (there (looked { a with plan := { a.plan with bars := put on (min x y, max x y) a.plan.bars } }))) := by rw [act_bar h1 h2, if_neg h3, if_neg h4]
        have w' := wf_act J.wf (.bar x y on)
        rw [e3] at w' k
        have J2 := J1.bars' (put on (min x y, max x y) a.plan.bars)
        obtain ⟨dx2, hp2⟩ := J2.ob
        refine ⟨_, rfl, p, dx2, _, rfl, hp2, rfl, p, j, _, rfl, J2, w', fun F hF => fil_len (a := a) J.wf F hF, fun H' j' A fr => ?_⟩
        exact k H' j' A ((fr1.trans (fr_upd own_b)).trans fr)
end
end Rs
end
section
set_option Elab.async false
set_option linter.all false
set_option maxRecDepth 100000
set_option maxHeartbeats 4000000
namespace Rs
open PySem PySem.Spec PyProof.Rows L2
open Ks306 (Abs Call act looked keepsPins put has pairOk there)
/-- the numbers of an answer -/
def outs (x : Ks306.Ans) : List Int := x.ret :: Ks306Neutral.«ints» x.out
/-- what is to be said of a call that answers a list -/
def KL (C : Addr) (H : Hp) (p : Addr) (j : J) (a : Abs) (c : Call) (Q : VK) : Prop :=
  ∀ (H' : Hp) (j' : J) (g : Addr), JAt C H' p j' (act a c).1 → Fr H H' p j j' → H' g = some (.lst (intsV (outs (act a c).2))) → ¬ g ∈ j'.own p → H g = none → Q (.ref g) H'
theorem KL.stay {C : Addr} {H H1 : Hp} {p g : Addr} {j : J} {a : Abs} {c : Call} {Q : VK} {ans : Ks306.Ans} {xs : List V} (k : KL C H p j a c Q) (e : act a c = (a, ans)) (J : JAt C H p j a) (s : Same H H1) (hg : H1 g = none) (ex : xs = intsV (outs ans)) : Q (.ref g) (upd H1 g (.lst xs)) := by
  have s2 := s.trans (Same.new (o := .lst xs) hg)
  have z := k (upd H1 g (.lst xs)) j g
  rw [e] at z
  exact z (J.same s2) (fr_same s2) (by rw [upd_same, ex]) (J.notOwn (s.free hg)) (s.free hg)
def spL0 (C : Addr) (c : Call) : Sp := fun vs H Q _ => ∃ (p : Addr) (j : J) (a : Abs), vs = [.ref p] ∧ JAt C H p j a ∧ KL C H p j a c Q
def spL1 (C : Addr) (c : Nat → Call) : Sp := fun vs H Q _ => ∃ (p : Addr) (j : J) (a : Abs) (x : Nat), vs = [.ref p, .int x] ∧ JAt C H p j a ∧ KL C H p j a (c x) Q
section
variable {P : Program} {w : World} {K : PySem.W.Frag} {mg : Str → Option Value} {base : Heap} {C : Addr}
theorem act_weigh {a : Abs} {F : List Nat} (h : a.filling = some F) : act a .weigh = (a, { ret := Ks304.contents a.plan F, out := [Ks304.fulfilled a.plan F] }) := by simp only [act, h]
theorem ok_weigh (M : MFun K C "weigh" "Journey.weigh" s_weigh ["self"]) (T : Txt K mg C) (G_count_content : FOk P w K mg base 1 "count_content" ["filling", "wishes"] sp_content) (G_count_together : FOk P w K mg base 1 "count_together" ["filling", "pairs"] sp_together) :
    MOk P w K mg base C 3 "weigh" ["self"] (spL0 C .weigh) := by
  obtain ⟨f, fd, F, hb, hm⟩ := M
  refine ⟨f, fd, hm, F.ok sc_weigh (fun vs H Q E h => ?_) (fun cdv A outer s H vs Q E hr h => ?_), hb⟩
  · obtain ⟨p, j, a, rfl, _⟩ := h
    rfl
  · obtain ⟨p, j, a, rfl, J, k⟩ := h
    obtain ⟨dx, hp⟩ := J.ob
    refine ⟨_, (pss_cons (ps_if (pt_cmp (pc_isN (pe_fld (pv 0) rfl))) (pss_one (ps_ret (pe_lst (pa_cons (pe_globI T.c_NO_FILLING) pa_nil)))) pss_nil)
  (pss_one (ps_ret (pe_lst (pa_cons (pe_callF G_count_content (hr.mono (by decide)) (pa_cons (pe_fld (pv 0) rfl) (pa_cons (pe_fld (pv 0) rfl) pa_nil))) (pa_cons (pe_callF G_count_together (hr.mono (by decide)) (pa_cons (pe_fld (pv 0) rfl) (pa_cons (pe_fld (pv 0) rfl) pa_nil))) pa_nil)))))), ?_⟩
    refine ⟨_, rfl, p, C, dx, _, _, rfl, hp, T.cl, T.n_filling, f_filling _ _ _ _ _ _, _, rfl, ?_⟩
    cases e : a.filling with
    | none =>
      rw [fv_none (J.fil0 e)]
      refine iteT ⟨(by show 1 ≤ sizeLine; decide), fun g hg => ?_⟩
      exact k.stay (ans := Ks306.no (-61)) (by simp only [act, e]) J (Same.refl H) hg rfl
    | some G =>
      obtain ⟨x, hx, hx'⟩ := J.fil1 e
      obtain ⟨l1, l2⟩ := fil_len J.wf G e
      have h8 := J.wf.pup
      rw [fv_some hx] at hp ⊢
      refine iteF ?_
      have wr : ∀ q ∈ a.plan.wishes, q.1 < G.length ∧ q.2 < G.length := fun q hq => by rw [l1]; exact ⟨(J.wf.wr q hq).1, (J.wf.wr q hq).2.1⟩
      refine ⟨_, rfl, p, C, dx, _, _, rfl, hp, T.cl, T.n_filling, f_filling _ _ _ _ _ _, _, rfl, p, C, dx, _, _, rfl, hp, T.cl, T.n_wishes, f_wishes _ _ _ _ _ _, x, j.w, G, a.plan.wishes, rfl, hx', J.wishes, J.wf.wl, (by omega), wr, fun H1 s1 => ?_⟩
      refine ⟨_, rfl, p, C, dx, _, _, rfl, s1 _ _ hp, T.cl, T.n_filling, f_filling _ _ _ _ _ _, _, rfl, p, C, dx, _, _, rfl, s1 _ _ hp, T.cl, T.n_wishes, f_wishes _ _ _ _ _ _, x, j.w, G, a.plan.wishes, rfl, s1 _ _ hx', s1 _ _ J.wishes, J.wf.wl, wr, fun H2 s2 => ?_⟩
      refine ⟨(by show 2 ≤ sizeLine; decide), fun g hg => ?_⟩
      refine k.stay (act_weigh e) J (s1.trans s2) hg ?_
      rw [contentN_eq l1]
      rfl
theorem ok_state (M : MFun K C "state" "Journey.state" s_state ["self"]) (T : Txt K mg C) (G_has_filling : MOk P w K mg base C 1 "has_filling" ["self"] (sp_has C)) : MOk P w K mg base C 3 "state" ["self"] (spL0 C .state) := by
  obtain ⟨f, fd, F, hb, hm⟩ := M
  refine ⟨f, fd, hm, F.ok sc_state (fun vs H Q E h => ?_) (fun cdv A outer s H vs Q E hr h => ?_), hb⟩
  · obtain ⟨p, j, a, rfl, _⟩ := h
    rfl
  · obtain ⟨p, j, a, rfl, J, k⟩ := h
    obtain ⟨dx, hp⟩ := J.ob
    refine ⟨_, (pss_cons (ps_if (pt_cmpR op_eq (pe_fld (pv 0) rfl) pe_int (nomark _)) (pss_one (ps_ret (pe_lst (pa_cons (pe_globI T.c_NO_PLAN) pa_nil)))) pss_nil)
  (pss_one (ps_ret (pe_lst (pa_cons (pe_methM0 (pv 0) T.cl G_has_filling (hr.mono (by decide))) (pa_cons (pe_callB call_lenL (by rfl) T.len PySem.boot_len (pa_cons (pe_fld (pv 0) rfl) pa_nil)) (pa_cons (pe_callB call_lenT (by rfl) T.len PySem.boot_len (pa_cons (pe_fld (pv 0) rfl) pa_nil)) (pa_cons (pe_callB call_lenT (by rfl) T.len PySem.boot_len (pa_cons (pe_fld (pv 0) rfl) pa_nil)) pa_nil)))))))), ?_⟩
    refine ⟨_, rfl, p, C, dx, _, _, rfl, hp, T.cl, T.n_pupils, f_pupils _ _ _ _ _ _, rfl, _, rfl, ?_⟩
    refine ite2 (fun c => ?_) (fun c => ?_)
    · have c := of_decide_eq_true c
      injection c with c
      have c : a.plan.pupils = 0 := by omega
      refine ⟨(by show 1 ≤ sizeLine; decide), fun g hg => ?_⟩
      exact k.stay (ans := Ks306.no (-61)) (by simp only [act]; exact if_pos (on_false.mpr c)) J (Same.refl H) hg rfl
    · have c : ¬ a.plan.pupils = 0 := fun z => c (decide_eq_true (by rw [z]; rfl))
      refine ⟨_, rfl, p, dx, _, rfl, hp, rfl, p, j, a, rfl, J.hp, ?_⟩
      refine ⟨_, rfl, p, C, dx, _, _, rfl, hp, T.cl, T.n_rooms, f_rooms _ _ _ _ _ _, j.r, _, rfl, J.rooms, ?_⟩
      refine ⟨_, rfl, p, C, dx, _, _, rfl, hp, T.cl, T.n_wishes, f_wishes _ _ _ _ _ _, j.w, _, rfl, .inl J.wishes, ?_⟩
      refine ⟨_, rfl, p, C, dx, _, _, rfl, hp, T.cl, T.n_bars, f_bars _ _ _ _ _ _, j.b, _, rfl, .inl J.bars, ?_⟩
      refine ⟨(by show 4 ≤ sizeLine; decide), fun g hg => ?_⟩
      refine k.stay (by simp only [act]; exact if_neg fun z => c (on_false.mp z)) J (Same.refl H) hg ?_
      rw [nums_length, List.length_map, List.length_map]
      rfl
theorem who_list (n : Nat) (Pr : Nat → Bool) : ((List.range n).filter Pr).map (fun (j : Nat) => V.int (0 + (j : Int))) = nums ((List.range n).filter Pr) := by
  unfold nums
  apply List.map_congr_left
  intro x _
  rw [Int.zero_add]
theorem ok_who (M : MFun K C "who" "Journey.who" s_who ["self", "room"]) (T : Txt K mg C) : MOk P w K mg base C 3 "who" ["self", "room"] (spL1 C Call.who) := by
  obtain ⟨f, fd, F, hb, hm⟩ := M
  refine ⟨f, fd, hm, F.ok sc_who (fun vs H Q E h => ?_) (fun cdv A outer s H vs Q E hr h => ?_), hb⟩
  · obtain ⟨p, j, a, x, rfl, _⟩ := h
    rfl
  · obtain ⟨p, j, a, y, rfl, J, k⟩ := h
    obtain ⟨dx, hp⟩ := J.ob
    refine ⟨_, (pss_cons (ps_if (pt_cmp (pc_isN (pe_fld (pv 0) rfl))) (pss_one (ps_ret (pe_lst (pa_cons (pe_globI T.c_NO_FILLING) pa_nil)))) pss_nil)
  (pss_cons (ps_if (pt_cmpR op_ge (pv 1) (pe_callB call_lenL (by rfl) T.len PySem.boot_len (pa_cons (pe_fld (pv 0) rfl) pa_nil)) (nomark _)) (pss_one (ps_ret (pe_lst (pa_cons (pe_globI T.c_NOT_THERE) pa_nil)))) pss_nil)
  (pss_cons (ps_setLc (i := 2) rfl sc_who.nd rfl rfl (sw_true rfl rfl rfl rfl) (pi_range1 rfl T.range (pa_cons (pe_fld (pv 0) rfl) pa_nil)) (blkOk_by (own := [("pupil", 3)]) (by change blkC ["self", "room", "inside", "pupil"] (defScope s_who) _ _ = true; decide +kernel)) (fun _ _ _ _ _ => (pg_name (i := 3) sc_who.nd rfl (Or.inl rfl))) (fun _ _ _ _ _ => (pts_one (pt_cmpR op_eq (pe_ix ix_L (pe_fldK (K := K) rfl (pv 0) rfl) (pv 3) (fun _ _ => rfl)) (pv 1) (nomark _)))) (fun _ _ _ _ _ => (pv 3)))
  (pss_one (ps_ret (pe_op op_cat (pe_lst (pa_cons (pe_callB call_lenL (by rfl) T.len PySem.boot_len (pa_cons (pv 2) pa_nil)) pa_nil)) (pv 2))))))), ?_⟩
    refine ⟨_, rfl, p, C, dx, _, _, rfl, hp, T.cl, T.n_filling, f_filling _ _ _ _ _ _, _, rfl, ?_⟩
    cases e : a.filling with
    | none =>
      rw [fv_none (J.fil0 e)]
      refine iteT ⟨(by show 1 ≤ sizeLine; decide), fun g hg => ?_⟩
      exact k.stay (ans := Ks306.no (-61)) (by simp only [act, e]) J (Same.refl H) hg rfl
    | some G =>
      obtain ⟨x, hx, hx'⟩ := J.fil1 e
      obtain ⟨l1, l2⟩ := fil_len J.wf G e
      have h8 := J.wf.pup
      rw [fv_some hx] at hp ⊢
      refine iteF ?_
      refine ⟨_, rfl, _, rfl, p, C, dx, _, _, rfl, hp, T.cl, T.n_rooms, f_rooms _ _ _ _ _ _, j.r, _, rfl, J.rooms, _, _, rfl, rfl, _, rfl, ?_⟩
      rw [nums_length]
      refine ite2 (fun c => ?_) (fun c => ?_)
      · have c := of_decide_eq_true c
        refine ⟨(by show 1 ≤ sizeLine; decide), fun g hg => ?_⟩
        exact k.stay (ans := Ks306.no (-2)) (by simp only [act, e]; exact if_pos (by omega)) J (Same.refl H) hg rfl
      · have c : ¬ a.plan.beds.length ≤ y := fun z => c (decide_eq_true (by omega))
        refine ⟨_, rfl, p, C, dx, _, _, rfl, hp, T.cl, T.n_pupils, f_pupils _ _ _ _ _ _, _, rfl, (by omega), (by omega), fun D hD => ?_⟩
        refine lc_any (n := a.plan.pupils) (Grow H D fun i => ((List.range i).filter fun t => G.getD t 0 == y).map fun (t : Nat) => V.int (0 + (t : Int))) (L2.Grow.start hD rfl) (fun H' gr => ?_) (fun i H' hi gr => ?_) (fun i u H' H'' hi gr v => ?_) (fun H' gr => ?_)
        · show _ ≤ _
          omega
        · show _ < _
          omega
        · obtain ⟨rfl, rfl⟩ := v
          refine ⟨rfl, _, rfl, p, C, dx, _, _, rfl, gr.same _ _ hp, T.cl, T.n_filling, f_filling _ _ _ _ _ _, _, rfl, x, _, _, _, rfl, rfl, gr.same _ _ hx', (by rw [Int.zero_add]; exact nums_atI (by omega)), _, rfl, rfl, _, rfl, ?_⟩
          refine ite2 (fun c => ?_) (fun c => ?_)
          · have c := of_decide_eq_true c
            injection c with c
            refine ⟨_, rfl, ?_⟩
            exact Grow.yes hD gr (Same.refl _) (by rw [beq_iff_eq]; omega) rfl (by omega)
          · refine Grow.no gr (Same.refl _) ?_
            rw [beq_eq_false_iff_ne]
            intro z
            exact c (decide_eq_true (by rw [z]))
        · have hD' := gr.at
          rw [who_list] at hD'
          have ll : ((List.range a.plan.pupils).filter fun t => G.getD t 0 == y).length ≤ 8 := by
            have := List.length_filter_le (fun t => G.getD t 0 == y) (List.range a.plan.pupils)
            rw [List.length_range] at this
            omega
          refine ⟨_, rfl, D, _, rfl, hD', (by show 1 ≤ sizeLine; decide), fun t ht => ?_⟩
          have tD : D ≠ t := ne_of_none hD' ht
          refine ⟨_, rfl, t, D, _, _, rfl, rfl, upd_same, (by rw [upd_ne tD]; exact hD'), (by rw [nums_length, sizeLine_eq]; show 1 + _ ≤ _; omega), fun g hg => ?_⟩
          refine k.stay (ans := { ret := ((List.range a.plan.pupils).filter fun i => G.getD i 0 == y).length, out := (List.range a.plan.pupils).filter fun i => G.getD i 0 == y }) (by simp only [act, e]; rw [if_neg c]) J (gr.same.trans (Same.new ht)) hg ?_
          rw [nums_length, nums_ints]
          rfl
/-- fill -/
theorem ok_fill (M : MFun K C "fill" "Journey.fill" s_fill ["self"]) (T : Txt K mg C) (G_best_filling : FOk P w K mg base 5 "best_filling" ["rooms", "wishes", "bars", "pins"] sp_best_filling) (G_weigh : MOk P w K mg base C 3 "weigh" ["self"] (spL0 C .weigh)) :
    MOk P w K mg base C 7 "fill" ["self"] (spL0 C .fill) := by
  obtain ⟨f, fd, F, hb, hm⟩ := M
  refine ⟨f, fd, hm, F.ok sc_fill (fun vs H Q E h => ?_) (fun cdv A outer s H vs Q E hr h => ?_), hb⟩
  · obtain ⟨p, j, a, rfl, _⟩ := h
    rfl
  · obtain ⟨p, j, a, rfl, J, k⟩ := h
    obtain ⟨dx, hp⟩ := J.ob
    refine ⟨_, (pss_cons (ps_if (pt_cmpR op_eq (pe_fld (pv 0) rfl) pe_int (nomark _)) (pss_one (ps_ret (pe_lst (pa_cons (pe_globI T.c_NO_PLAN) pa_nil)))) pss_nil)
  (pss_cons (ps_set (i := 1) sc_fill.nd rfl (Or.inl rfl) (pe_callF G_best_filling (hr.mono (by decide)) (pa_cons (pe_fld (pv 0) rfl) (pa_cons (pe_fld (pv 0) rfl) (pa_cons (pe_fld (pv 0) rfl) (pa_cons (pe_fld (pv 0) rfl) pa_nil))))))
  (pss_cons (ps_if (pt_cmp (pc_isN (pv 1))) (pss_one (ps_ret (pe_lst (pa_cons (pe_globI T.c_NO_WAY_TO_FILL) pa_nil)))) pss_nil)
  (pss_cons (ps_fld (pv 0) (pv 1) rfl)
  (pss_one (ps_ret (pe_methM0 (pv 0) T.cl G_weigh (hr.mono (by decide))))))))), ?_⟩
    refine ⟨_, rfl, p, C, dx, _, _, rfl, hp, T.cl, T.n_pupils, f_pupils _ _ _ _ _ _, rfl, _, rfl, ?_⟩
    refine ite2 (fun c => ?_) (fun c => ?_)
    · have c := of_decide_eq_true c
      injection c with c
      have c : a.plan.pupils = 0 := by omega
      refine ⟨(by show 1 ≤ sizeLine; decide), fun g hg => ?_⟩
      exact k.stay (ans := Ks306.no (-61)) (by simp only [act]; exact if_pos (on_false.mpr c)) J (Same.refl H) hg rfl
    · have c : ¬ a.plan.pupils = 0 := fun z => c (decide_eq_true (by rw [z]; rfl))
      have on : ¬ a.on = false := fun z => c (on_false.mp z)
      refine ⟨_, rfl, p, C, dx, _, _, rfl, hp, T.cl, T.n_rooms, f_rooms _ _ _ _ _ _, _, rfl, p, C, dx, _, _, rfl, hp, T.cl, T.n_wishes, f_wishes _ _ _ _ _ _, _, rfl, p, C, dx, _, _, rfl, hp, T.cl, T.n_bars, f_bars _ _ _ _ _ _, _, rfl, p, C, dx, _, _, rfl, hp, T.cl, T.n_pins, f_pins _ _ _ _ _ _, ?_⟩
      refine ⟨j.r, j.w, j.b, j.q, a.plan, a.pins, rfl, ⟨J.rooms, J.wishes, J.bars, J.pins, J.wf.bl, J.wf.ok⟩, c, fun eb H1 s1 => ?_, fun G eb H1 x s1 nx hx => ?_⟩
      · refine ⟨_, rfl, _, rfl, iteT ⟨(by show 1 ≤ sizeLine; decide), fun g hg => ?_⟩⟩
        exact k.stay (ans := Ks306.no (-33)) (by simp only [act]; rw [if_neg on, eb]) J s1 hg rfl
      · refine ⟨_, rfl, _, rfl, iteF ?_⟩
        have J1 := J.hp.same s1
        have hp1 := s1 _ _ hp
        refine ⟨_, rfl, _, rfl, p, C, dx, _, rfl, hp1, T.cl, T.n_filling, (by show 6 < 1000; decide), ?_⟩
        have e : act a .fill = ({ a with filling := some G }, { ret := Ks304.contents a.plan G, out := [Ks304.fulfilled a.plan G] }) := by
          simp only [act]
          rw [if_neg on, eb]
        have w' := wf_act J.wf .fill
        rw [e] at w'
        have J2 := (J1.fills (dx := dx) hx (J.notOwn nx)).jat w'
        refine ⟨_, rfl, p, dx, _, rfl, upd_same, rfl, p, { j with f := some x }, { a with filling := some G }, rfl, J2, fun H3 j3 g A fr hg ng fg => ?_⟩
        have z := k H3 j3 g
        rw [e] at z
        rw [act_weigh (a := { a with filling := some G }) rfl] at A hg
        have fr1 : Fr H (L2.upd H1 p (.ins C dx (putF "filling" (.ref x) (flds (a.plan.pupils : Int) j.r j.w j.b j.q j.fv)))) p j { j with f := some x } := fr_fills s1 nx
        refine z A (fr1.trans fr) hg ng ?_
        by_cases q : g = p
        · exfalso
          rw [q] at fg
          have : (L2.upd H1 p (.ins C dx (putF "filling" (.ref x) (flds (a.plan.pupils : Int) j.r j.w j.b j.q j.fv)))) p = _ := upd_same
          rw [this] at fg
          cases fg
        · rw [upd_ne q] at fg
          exact s1.free fg
/-- change_filling -/
def sp_change (C : Addr) : Sp := fun vs H Q _ => ∃ (p x : Addr) (j : J) (a : Abs) (F : List Nat), vs = [.ref p, .ref x] ∧ JAt C H p j a ∧ H x = some (.lst (nums F)) ∧ ¬ x ∈ j.own p ∧ F.length = a.plan.pupils ∧
  (refusalF a F < 0 → ∀ H', Same H H' → Q (.int (refusalF a F)) H') ∧
  (¬ refusalF a F < 0 → ∀ H', JHp C H' p { j with f := some x } { a with filling := some F } → (∀ c o, H c = some o → c ≠ p → H' c = some o) → Q (.int (Ks304.contents a.plan F : Nat)) H')
theorem ok_change (M : MFun K C "change_filling" "Journey.change_filling" s_change_filling ["self", "filling"]) (T : Txt K mg C) (G_filling_refusal : MOk P w K mg base C 3 "filling_refusal" ["self", "filling"] (sp_refusal C))
    (G_count_content : FOk P w K mg base 1 "count_content" ["filling", "wishes"] sp_content) : MOk P w K mg base C 5 "change_filling" ["self", "filling"] (sp_change C) := by
  obtain ⟨f, fd, F, hb, hm⟩ := M
  refine ⟨f, fd, hm, F.ok sc_change_filling (fun vs H Q E h => ?_) (fun cdv A outer s H vs Q E hr h => ?_), hb⟩
  · obtain ⟨p, x, j, a, F, rfl, _⟩ := h
    rfl
  · obtain ⟨p, x, j, a, F, rfl, J, hx, nx, hl, k1, k2⟩ := h
    obtain ⟨dx, hp⟩ := J.ob
    have wf := J.wf
    refine ⟨_, (pss_cons (ps_set (i := 2) sc_change_filling.nd rfl (Or.inl rfl) (pe_methM (pv 0) T.cl G_filling_refusal (hr.mono (by decide)) (pa_cons (pv 1) pa_nil)))
  (pss_cons (ps_if (pt_cmpR op_lt (pv 2) pe_int (nomark _)) (pss_one (ps_ret (pv 2))) pss_nil)
  (pss_cons (ps_fld (pv 0) (pv 1) rfl)
  (pss_one (ps_ret (pe_callF G_count_content (hr.mono (by decide)) (pa_cons (pv 1) (pa_cons (pe_fld (pv 0) rfl) pa_nil)))))))), ?_⟩
    refine ⟨_, rfl, p, dx, _, rfl, hp, rfl, _, rfl, p, x, j, a, F, rfl, J.hp, hx, hl, wf.pup, wf.pin, wf.rooms, wf.bl, fun q hq => ⟨Nat.lt_trans (wf.br q hq).1 (wf.br q hq).2, (wf.br q hq).2⟩, fun H1 s1 => ?_⟩
    refine ⟨_, rfl, _, _, rfl, rfl, _, rfl, ?_⟩
    refine ite2 (fun c => ?_) (fun c => ?_)
    · have c := of_decide_eq_true c
      exact ⟨_, rfl, k1 c H1 s1⟩
    · have c : ¬ refusalF a F < 0 := fun z => c (decide_eq_true z)
      have J1 := J.hp.same s1
      refine ⟨_, rfl, _, rfl, p, C, dx, _, rfl, s1 _ _ hp, T.cl, T.n_filling, (by show 6 < 1000; decide), ?_⟩
      have J2 := J1.fills (dx := dx) (s1 _ _ hx) nx
      have xp : x ≠ p := fun e => nx (by rw [e]; exact own_p)
      have h8 := wf.pup
      refine ⟨_, rfl, _, rfl, p, C, dx, _, _, rfl, upd_same, T.cl, T.n_wishes, f_wishes _ _ _ _ _ (.ref x), x, j.w, F, a.plan.wishes, rfl, (by rw [upd_ne xp]; exact s1 _ _ hx), J2.wishes, wf.wl, (by omega), fun q hq => ⟨by rw [hl]; exact (wf.wr q hq).1, by rw [hl]; exact (wf.wr q hq).2.1⟩, fun H3 s3 => ?_⟩
      rw [contentN_eq hl]
      refine k2 c H3 (J2.same s3) fun b o z nb => s3 _ _ ?_
      rw [upd_ne nb]
      exact s1 _ _ z
theorem act_move {a : Abs} {G : List Nat} {i r : Nat} (h : a.filling = some G) (h1 : ¬ (a.plan.pupils ≤ i ∨ a.plan.beds.length ≤ r)) :
    act a (.move i r) = if refusalF a (G.set i r) < 0 then (a, Ks306.no (refusalF a (G.set i r))) else ({ a with filling := some (G.set i r) }, Ks306.no (Ks304.contents a.plan (G.set i r))) := by
  simp only [act, h]
  rw [if_neg h1]
  unfold refusalF
  cases keepsPins a.pins (G.set i r) <;> cases Ks304.tooFull a.plan (G.set i r) <;> cases Ks304.broken a.plan (G.set i r) <;> simp
theorem tooFull_swap {a : Abs} {G : List Nat} {i k : Nat} (w : Wf a) (h : a.filling = some G) (hi : i < G.length) (hk : k < G.length) : (Ks304.tooFull a.plan ((G.set i (G.getD k 0)).set k (G.getD i 0))).isSome = false := by
  cases e : (Ks304.tooFull a.plan ((G.set i (G.getD k 0)).set k (G.getD i 0))).isSome
  · rfl
  · obtain ⟨r, h1, h2⟩ := tooFull_some.mp e
    rw [inRoom_swap hi hk] at h2
    have := (may_iff.mp (w.fil G h).1).2.2.1 r h1
    omega
theorem act_swap {a : Abs} {G : List Nat} {i k : Nat} (w : Wf a) (h : a.filling = some G) (h1 : ¬ (a.plan.pupils ≤ i ∨ a.plan.pupils ≤ k)) :
    act a (.swap i k) = if refusalF a ((G.set i (G.getD k 0)).set k (G.getD i 0)) < 0 then (a, Ks306.no (refusalF a ((G.set i (G.getD k 0)).set k (G.getD i 0)))) else ({ a with filling := some ((G.set i (G.getD k 0)).set k (G.getD i 0)) }, Ks306.no (Ks304.contents a.plan ((G.set i (G.getD k 0)).set k (G.getD i 0)))) := by
  obtain ⟨l1, _⟩ := fil_len w G h
  have t := tooFull_swap w h (i := i) (k := k) (by omega) (by omega)
  simp only [act, h]
  rw [if_neg h1]
  unfold refusalF
  rw [t]
  cases keepsPins a.pins ((G.set i (G.getD k 0)).set k (G.getD i 0)) <;> cases Ks304.broken a.plan ((G.set i (G.getD k 0)).set k (G.getD i 0)) <;> simp
/-- the end of move and swap -/
theorem changed {H H1 : Hp} {p x : Addr} {j : J} {a : Abs} {c : Call} {F : List Nat} {Q : VK} (J : JAt C H p j a) (s1 : Same H H1) (nx : H x = none) (hx : H1 x = some (.lst (nums F))) (hl : F.length = a.plan.pupils)
    (e : act a c = if refusalF a F < 0 then (a, Ks306.no (refusalF a F)) else ({ a with filling := some F }, Ks306.no (Ks304.contents a.plan F))) (k : ∀ H' j', JAt C H' p j' (act a c).1 → Fr H H' p j j' → Q (.int (act a c).2.ret) H') {E : XK} : sp_change C [.ref p, .ref x] H1 Q E := by
  refine ⟨p, x, j, a, F, rfl, J.same s1, hx, J.notOwn nx, hl, fun c1 H' s' => ?_, fun c1 H' A kp => ?_⟩
  · rw [if_pos c1] at e
    exact goes (b := a) e (J.same (s1.trans s')) (fr_same (s1.trans s')) k
  · rw [if_neg c1] at e
    have w' := wf_act J.wf c
    rw [e] at w'
    refine goes e (A.jat w') ⟨fun b o z n => kp b o (s1 _ _ z) fun q => n (by rw [q]; exact own_p), fun b m => ?_⟩ k
    unfold Rs.J.own at m
    simp only [Option.toList_some, List.mem_cons, List.not_mem_nil, or_false] at m
    rcases m with m | m | m | m | m | m
    · exact .inl (by rw [m]; exact own_p)
    · exact .inl (by rw [m]; exact own_r)
    · exact .inl (by rw [m]; exact own_w)
    · exact .inl (by rw [m]; exact own_b)
    · exact .inl (by rw [m]; exact own_q)
    · exact .inr (by rw [m]; exact nx)
theorem ok_move (M : MFun K C "move" "Journey.move" s_move ["self", "a", "room"]) (T : Txt K mg C) (G_change_filling : MOk P w K mg base C 5 "change_filling" ["self", "filling"] (sp_change C)) : MOk P w K mg base C 7 "move" ["self", "a", "room"] (sp2 C Call.move) := by
  obtain ⟨f, fd, F, hb, hm⟩ := M
  refine ⟨f, fd, hm, F.ok sc_move (fun vs H Q E h => ?_) (fun cdv A outer s H vs Q E hr h => ?_), hb⟩
  · obtain ⟨p, j, a, x, y, rfl, _⟩ := h
    rfl
  · obtain ⟨p, j, a, x, y, rfl, J, k⟩ := h
    obtain ⟨dx, hp⟩ := J.ob
    refine ⟨_, (pss_cons (ps_if (pt_cmp (pc_isN (pe_fld (pv 0) rfl))) (pss_one (ps_ret (pe_globI T.c_NO_FILLING))) pss_nil)
  (pss_cons (ps_if (PW.pt (pw_or (pt_cmpR op_ge (pv 1) (pe_fld (pv 0) rfl) (nomark _)) (pw_or1 (pt_cmpR op_ge (pv 2) (pe_callB call_lenL (by rfl) T.len PySem.boot_len (pa_cons (pe_fld (pv 0) rfl) pa_nil)) (nomark _))))) (pss_one (ps_ret (pe_globI T.c_NOT_THERE))) pss_nil)
  (pss_cons (ps_set (i := 3) sc_move.nd rfl (Or.inl rfl) (pe_callTy call_list_of (by rfl) T.list (by decide +kernel) (pa_cons (pe_fld (pv 0) rfl) pa_nil)))
  (pss_cons (ps_asg (pv 2) (pg_sub (pv 3) (pv 1) set_list))
  (pss_one (ps_ret (pe_methM (pv 0) T.cl G_change_filling (hr.mono (by decide)) (pa_cons (pv 3) pa_nil)))))))), ?_⟩
    refine ⟨_, rfl, p, C, dx, _, _, rfl, hp, T.cl, T.n_filling, f_filling _ _ _ _ _ _, _, rfl, ?_⟩
    cases e : a.filling with
    | none =>
      rw [fv_none (J.fil0 e)]
      exact iteT (stays (by simp only [act, e]) J k)
    | some G =>
      obtain ⟨u, hu, hu'⟩ := J.fil1 e
      obtain ⟨l1, l2⟩ := fil_len J.wf G e
      rw [fv_some hu] at hp ⊢
      refine iteF ?_
      refine ⟨_, rfl, _, rfl, p, C, dx, _, _, rfl, hp, T.cl, T.n_pupils, f_pupils _ _ _ _ _ _, _, _, rfl, rfl, _, rfl, ?_⟩
      refine ite2 (fun c1 => ?_) (fun c1 => ?_)
      · have c1 := of_decide_eq_true c1
        refine iteT ?_
        exact stays (by simp only [act, e]; exact if_pos (.inl (by omega))) J k
      · have c1 : ¬ a.plan.pupils ≤ x := fun z => c1 (decide_eq_true (by omega))
        refine ⟨_, rfl, _, rfl, p, C, dx, _, _, rfl, hp, T.cl, T.n_rooms, f_rooms _ _ _ _ _ _, j.r, _, rfl, J.rooms, _, _, rfl, rfl, _, rfl, ?_⟩
        rw [nums_length]
        refine ite2 (fun c2 => ?_) (fun c2 => ?_)
        · have c2 := of_decide_eq_true c2
          exact stays (by simp only [act, e]; exact if_pos (.inr (by omega))) J k
        · have c2 : ¬ a.plan.beds.length ≤ y := fun z => c2 (decide_eq_true (by omega))
          refine ⟨_, rfl, p, C, dx, _, _, rfl, hp, T.cl, T.n_filling, f_filling _ _ _ _ _ _, u, _, rfl, .inl (SqL.of hu'), fun t ht => ?_⟩
          refine ⟨_, rfl, _, rfl, _, rfl, t, _, _, x, rfl, rfl, upd_same, ixN_lt (by rw [nums_length]; omega), ?_⟩
          rw [nums_set]
          have pt : p ≠ t := ne_of_none hp ht
          refine ⟨_, rfl, p, dx, _, rfl, (by rw [upd_ne pt, upd_ne pt]; exact hp), rfl, _, rfl, ?_⟩
          have s9 : Same H (L2.upd (L2.upd H t (.lst (nums G))) t (.lst (nums (G.set x y)))) := fun b o z => by rw [upd_ne (ne_of_none z ht), upd_ne (ne_of_none z ht)]; exact z
          exact changed (E := E0) J s9 ht upd_same (by rw [List.length_set]; exact l1) (act_move e (fun z => z.elim c1 c2)) k
theorem ok_swap (M : MFun K C "swap" "Journey.swap" s_swap ["self", "a", "b"]) (T : Txt K mg C) (G_change_filling : MOk P w K mg base C 5 "change_filling" ["self", "filling"] (sp_change C)) : MOk P w K mg base C 7 "swap" ["self", "a", "b"] (sp2 C Call.swap) := by
  obtain ⟨f, fd, F, hb, hm⟩ := M
  refine ⟨f, fd, hm, F.ok sc_swap (fun vs H Q E h => ?_) (fun cdv A outer s H vs Q E hr h => ?_), hb⟩
  · obtain ⟨p, j, a, x, y, rfl, _⟩ := h
    rfl
  · obtain ⟨p, j, a, x, y, rfl, J, k⟩ := h
    obtain ⟨dx, hp⟩ := J.ob
    refine ⟨_, (pss_cons (ps_if (pt_cmp (pc_isN (pe_fld (pv 0) rfl))) (pss_one (ps_ret (pe_globI T.c_NO_FILLING))) pss_nil)
  (pss_cons (ps_if (PW.pt (pw_or (pt_cmpR op_ge (pv 1) (pe_fld (pv 0) rfl) (nomark _)) (pw_or1 (pt_cmpR op_ge (pv 2) (pe_fld (pv 0) rfl) (nomark _))))) (pss_one (ps_ret (pe_globI T.c_NOT_THERE))) pss_nil)
  (pss_cons (ps_set (i := 3) sc_swap.nd rfl (Or.inl rfl) (pe_callTy call_list_of (by rfl) T.list (by decide +kernel) (pa_cons (pe_fld (pv 0) rfl) pa_nil)))
  (pss_cons (ps_asg (pe_ix ix_L (pe_fld (pv 0) rfl) (pv 2) (fun _ _ => rfl)) (pg_sub (pv 3) (pv 1) set_list))
  (pss_cons (ps_asg (pe_ix ix_L (pe_fld (pv 0) rfl) (pv 1) (fun _ _ => rfl)) (pg_sub (pv 3) (pv 2) set_list))
  (pss_one (ps_ret (pe_methM (pv 0) T.cl G_change_filling (hr.mono (by decide)) (pa_cons (pv 3) pa_nil))))))))), ?_⟩
    refine ⟨_, rfl, p, C, dx, _, _, rfl, hp, T.cl, T.n_filling, f_filling _ _ _ _ _ _, _, rfl, ?_⟩
    cases e : a.filling with
    | none =>
      rw [fv_none (J.fil0 e)]
      exact iteT (stays (by simp only [act, e]) J k)
    | some G =>
      obtain ⟨u, hu, hu'⟩ := J.fil1 e
      obtain ⟨l1, l2⟩ := fil_len J.wf G e
      rw [fv_some hu] at hp ⊢
      refine iteF ?_
      refine ⟨_, rfl, _, rfl, p, C, dx, _, _, rfl, hp, T.cl, T.n_pupils, f_pupils _ _ _ _ _ _, _, _, rfl, rfl, _, rfl, ?_⟩
      refine ite2 (fun c1 => ?_) (fun c1 => ?_)
      · have c1 := of_decide_eq_true c1
        refine iteT ?_
        exact stays (by simp only [act, e]; exact if_pos (.inl (by omega))) J k
      · have c1 : ¬ a.plan.pupils ≤ x := fun z => c1 (decide_eq_true (by omega))
        refine ⟨_, rfl, _, rfl, p, C, dx, _, _, rfl, hp, T.cl, T.n_pupils, f_pupils _ _ _ _ _ _, _, _, rfl, rfl, _, rfl, ?_⟩
        refine ite2 (fun c2 => ?_) (fun c2 => ?_)
        · have c2 := of_decide_eq_true c2
          exact stays (by simp only [act, e]; exact if_pos (.inr (by omega))) J k
        · have c2 : ¬ a.plan.pupils ≤ y := fun z => c2 (decide_eq_true (by omega))
          have hx : x < G.length := by omega
          have hy : y < G.length := by omega
          refine ⟨_, rfl, p, C, dx, _, _, rfl, hp, T.cl, T.n_filling, f_filling _ _ _ _ _ _, u, _, rfl, .inl (SqL.of hu'), fun t ht => ?_⟩
          have pt : p ≠ t := ne_of_none hp ht
          have ut : u ≠ t := ne_of_none hu' ht
          have hp1 : (L2.upd H t (.lst (nums G))) p = some (.ins C dx (flds (a.plan.pupils : Int) j.r j.w j.b j.q (.ref u))) := by rw [upd_ne pt]; exact hp
          refine ⟨_, rfl, p, C, dx, _, _, rfl, hp1, T.cl, T.n_filling, f_filling _ _ _ _ _ _, _, rfl, u, _, _, _, rfl, rfl, (by rw [upd_ne ut]; exact hu'), nums_atI hy, _, rfl, _, rfl, t, _, _, x, rfl, rfl, upd_same, ixN_lt (by rw [nums_length]; exact hx), ?_⟩
          rw [nums_set]
          refine ⟨_, rfl, p, C, dx, _, _, rfl, (by rw [upd_ne pt]; exact hp1), T.cl, T.n_filling, f_filling _ _ _ _ _ _, _, rfl, u, _, _, _, rfl, rfl, (by rw [upd_ne ut, upd_ne ut]; exact hu'), nums_atI hx, _, rfl, _, rfl, t, _, _, y, rfl, rfl, upd_same, ixN_lt (by rw [nums_length, List.length_set]; exact hy), ?_⟩
          rw [nums_set]
          refine ⟨_, rfl, p, dx, _, rfl, (by rw [upd_ne pt, upd_ne pt]; exact hp1), rfl, _, rfl, ?_⟩
          have s9 : Same H (L2.upd (L2.upd (L2.upd H t (.lst (nums G))) t (.lst (nums (G.set x (G.getD y 0))))) t (.lst (nums ((G.set x (G.getD y 0)).set y (G.getD x 0))))) := fun b o z => by rw [upd_ne (ne_of_none z ht), upd_ne (ne_of_none z ht), upd_ne (ne_of_none z ht)]; exact z
          exact changed (E := E0) J s9 ht upd_same (by rw [List.length_set, List.length_set]; exact l1) (act_swap J.wf e (fun z => z.elim c1 c2)) k
end
end Rs
end
section
set_option Elab.async false
set_option linter.all false
set_option maxRecDepth 100000
set_option maxHeartbeats 4000000
namespace Rs
open PySem PySem.Spec PyProof.Rows L2
open Ks306 (Abs Call act looked keepsPins put has pairOk there)
section
variable {P : Program} {w : World} {K : PySem.W.Frag} {mg : Str → Option Value} {base : Heap} {C : Addr}
/-- a new object -/
def sp_init (C : Addr) : Sp := fun vs H Q _ => ∃ (p dx : Addr), vs = [.ref p] ∧ H p = some (.ins C dx []) ∧
  ∀ H' j', JAt C H' p j' Ks306Neutral.start → (∀ c o, H c = some o → c ≠ p → H' c = some o) → (∀ c, c ∈ j'.own p → c = p ∨ H c = none) → Q .non H'
theorem ok_init (M : ∃ f fd, Fun K "__init__" "Journey.__init__" s_init f fd ∧ Binds K fd ["self"] [] ∧ Mk K C f) (T : Txt K mg C) (G_start_anew : MOk P w K mg base C 1 "start_anew" ["self", "pupils"] (sp_start_anew C)) :
    COk P w K mg base C 2 "Journey" ["self"] (sp_init C) := by
  obtain ⟨f, fd, F, hb, hm⟩ := M
  refine ⟨f, fd, T.mgC, hm, F.ok sc_init (fun vs H Q E h => ?_) (fun cdv A outer s H vs Q E hr h => ?_), hb⟩
  · obtain ⟨p, dx, rfl, _⟩ := h
    rfl
  · obtain ⟨p, dx, rfl, hp, k⟩ := h
    refine ⟨_, (pss_one (ps_expr (pe_methM (pv 0) T.cl G_start_anew (hr.mono (by decide)) (pa_cons pe_int pa_nil)))), ?_⟩
    exact ⟨_, rfl, p, dx, _, rfl, hp, rfl, p, dx, [], 0, rfl, Nat.zero_le _, hp, .inl rfl, fun H' j' A h1 h2 => k H' j' A h1 h2⟩
theorem ok_begin (M : MFun K C "begin" "Journey.begin" s_begin ["self", "pupils"]) (T : Txt K mg C) (G_start_anew : MOk P w K mg base C 1 "start_anew" ["self", "pupils"] (sp_start_anew C)) :
    MOk P w K mg base C 2 "begin" ["self", "pupils"] (sp1 C Call.begin) := by
  obtain ⟨f, fd, F, hb, hm⟩ := M
  refine ⟨f, fd, hm, F.ok sc_begin (fun vs H Q E h => ?_) (fun cdv A outer s H vs Q E hr h => ?_), hb⟩
  · obtain ⟨p, j, a, x, rfl, _⟩ := h
    rfl
  · obtain ⟨p, j, a, x, rfl, J, k⟩ := h
    obtain ⟨dx, hp⟩ := J.ob
    refine ⟨_, (pss_cons (ps_if (PW.pt (pw_or (pt_cmpR op_lt (pv 1) pe_int (nomark _)) (pw_or1 (pt_cmpR op_gt (pv 1) (pe_globI T.c_MOST_PUPILS) (nomark _))))) (pss_one (ps_ret (pe_globI T.c_OUT_OF_RANGE))) pss_nil)
  (pss_cons (ps_expr (pe_methM (pv 0) T.cl G_start_anew (hr.mono (by decide)) (pa_cons (pv 1) pa_nil)))
  (pss_one (ps_ret pe_int)))), ?_⟩
    refine ⟨_, rfl, _, _, rfl, rfl, _, rfl, ?_⟩
    refine ite2 (fun h1 => ?_) (fun h1 => ?_)
    · have h1 : (x : Int) < 1 := of_decide_eq_true h1
      refine iteT ?_
      exact stays (by simp only [act]; exact if_pos (.inl (by omega))) J k
    · have h1 : ¬ (x : Int) < 1 := fun z => h1 (decide_eq_true z)
      refine ⟨_, rfl, _, _, rfl, rfl, _, rfl, ?_⟩
      refine ite2 (fun h2 => ?_) (fun h2 => ?_)
      · have h2 : (8 : Int) < x := of_decide_eq_true h2
        exact stays (by simp only [act]; exact if_pos (.inr (by show 8 < x; omega))) J k
      · have h2 : ¬ (8 : Int) < x := fun z => h2 (decide_eq_true z)
        have e : act a (.begin x) = (fresh x, Ks306.no 0) := by
          simp only [act]
          rw [if_neg (by show ¬ (x = 0 ∨ 8 < x); omega)]
          rfl
        refine ⟨_, rfl, p, dx, _, rfl, hp, rfl, _, rfl, p, dx, _, x, rfl, by omega, hp, .inr ⟨_, _, _, _, _, _, rfl⟩, fun H' j' A g1 g2 => ?_⟩
        refine goes e A ⟨fun c o z n => g1 c o z fun q => n (by rw [q]; exact own_p), fun c m => ?_⟩ k
        rcases g2 c m with z | z
        · exact .inl (by rw [z]; exact own_p)
        · exact .inr z
/-- answer's promise: the numbers of one call -/
def sp_answer (C : Addr) : Sp := fun vs H Q _ => ∃ (p t : Addr) (j : J) (a : Abs) (c : Nat) (l : List Int), vs = [.ref p, .int c, .ref t] ∧ JAt C H p j a ∧ H t = some (.lst (l.map V.int)) ∧ ¬ t ∈ j.own p ∧ c < 12 ∧ l.length = wide c ∧ (∀ x ∈ l, 0 ≤ x) ∧
  ∀ H' j' g, JAt C H' p j' (Ks306Neutral.step a [(c : Int) :: l]).1 → Fr H H' p j j' → H' g = some (.lst ((Ks306Neutral.step a [(c : Int) :: l]).2.map V.int)) → ¬ g ∈ j'.own p → (∀ b o, H b = some o → ¬ b ∈ j.own p → b ≠ g) → Q (.ref g) H'
theorem atI_int {l : List Int} {i : Nat} {x : Int} (h : l[i]? = some x) : atI (l.map V.int) (i : Int) = some (.int x) := atI_nat (by rw [List.getElem?_map, h]; rfl)
theorem cut_map (l : List Int) (i n : Nat) (h : i + n ≤ l.length) : cutV (l.map V.int) (some (i : Int)) (some ((i + n : Nat) : Int)) = ((l.drop i).take n).map V.int := by
  unfold cutV
  rw [List.length_map, HT.sIx_nat, HT.sIx_nat, Nat.min_eq_left h, Nat.min_eq_left (show i ≤ l.length by omega), ← List.map_drop, ← List.map_take]
  congr 2
  omega
theorem wide_at {c : Nat} (h : c < 12) : atI [V.int 1, V.int 1, V.int 2, V.int 3, V.int 3, V.int 2, V.int 0, V.int 2, V.int 2, V.int 1, V.int 0, V.int 0] (c : Int) = some (.int (wide c)) := by
  match c, h with
  | 0, _ => rfl
  | 1, _ => rfl
  | 2, _ => rfl
  | 3, _ => rfl
  | 4, _ => rfl
  | 5, _ => rfl
  | 6, _ => rfl
  | 7, _ => rfl
  | 8, _ => rfl
  | 9, _ => rfl
  | 10, _ => rfl
  | 11, _ => rfl
/-- what holds between two turns of the loop -/
structure Turns (K : PySem.W.Frag) (C : Addr) (H0 : Hp) (a p g : Addr) (l : List Int) (i : Nat) (H : Hp) : Prop where
  same : Same H0 H
  ex : ∃ (j : J) (s : Abs) (out : List Int) (f : Nat) (cs : List (List (List Int))), JAt C H p j s ∧ H g = some (.lst (out.map V.int)) ∧ ¬ g ∈ j.own p ∧ (∀ c, c ∈ j.own p → H0 c = none) ∧
    PyFlat.calls PyKs306.shape f (l.drop i) = some cs ∧ out ++ PyFlat.told (PyFlat.played Ks306Neutral.step s cs) = PyKs306.answers l
  le : i ≤ l.length
  new : H0 g = none
theorem ok_answers {f : Addr} {fd : FuncData} (F : Fun K "answers" "answers" s_answers f fd) (T : Txt K mg C) (G_init : COk P w K mg base C 2 "Journey" ["self"] (sp_init C))
    {kA : Nat} (hk : kA ≤ 58) (G_answer : FOk P w K mg base kA "answer" ["journey", "call", "told"] (sp_answer C)) : FnOk P w K mg base CX0 60 f fd ["calls"] (spAns K) := by
  obtain ⟨aB, g_NUMBERS_BEHIND, hB⟩ := T.t_NUMBERS_BEHIND
  have hW : ∀ c : Nat, c < 12 → atI [V.int 1, V.int 1, V.int 2, V.int 3, V.int 3, V.int 2, V.int 0, V.int 2, V.int 2, V.int 1, V.int 0, V.int 0] (c : Int) = some (.int (wide c)) := fun c hc => wide_at hc
  refine F.ok sc_answers (fun vs H Q E h => ?_) (fun cdv A outer s H vs Q E hr h => ?_)
  · obtain ⟨a, ns, rfl, _⟩ := h
    rfl
  · obtain ⟨a, l, rfl, hS, hlen, hpos, hask, k⟩ := h
    obtain ⟨cs0, AS⟩ := asked_of hask
    refine ⟨_, (pss_cons (ps_set (i := 1) sc_answers.nd rfl (Or.inl rfl) (pe_makeM0 G_init (hr.mono (by decide))))
  (pss_cons (ps_set (i := 2) sc_answers.nd rfl (Or.inl rfl) (pe_lst pa_nil))
  (pss_cons (ps_set (i := 3) sc_answers.nd rfl (Or.inl rfl) pe_int)
  (pss_cons (ps_while PassesOwn.never (pt_cmpR op_lt (pv 3) (pe_callB call_len_seq (by rfl) T.len PySem.boot_len (pa_cons (pv 0) pa_nil)) (nomark _)) (pss_cons (ps_set (i := 4) sc_answers.nd rfl (Or.inl rfl) (pe_ix ix_list (pv 0) (pv 3) (fun _ _ => rfl)))
  (pss_cons (ps_set (i := 5) sc_answers.nd rfl (Or.inl rfl) (pe_op op_add (pe_op op_add (pv 3) pe_int) (pe_ix ix_tup (pe_globR g_NUMBERS_BEHIND) (pv 4) (fun _ _ => rfl))))
  (pss_cons (ps_set (i := 6) sc_answers.nd rfl (Or.inl rfl) (pe_callF G_answer (hr.mono (by omega)) (pa_cons (pv 1) (pa_cons (pv 4) (pa_cons (pe_slice sl_list (pv 0) (po_some (pe_op op_add (pv 3) pe_int)) (po_some (pv 5))) pa_nil)))))
  (pss_cons (ps_expr (pe_bm PySem.F.plainAttrs_list PySem.F.slot_list_append PySem.F.type_list_append mt_append (pv 2) (pa_cons (pe_callB call_lenL (by rfl) T.len PySem.boot_len (pa_cons (pv 6) pa_nil)) pa_nil)))
  (pss_cons (ps_expr (pe_bm PySem.F.plainAttrs_list PySem.F.slot_list_extend PySem.F.type_list_extend mt_extend (pv 2) (pa_cons (pv 6) pa_nil)))
  (pss_one (ps_set (i := 3) sc_answers.nd rfl (Or.inl rfl) (pv 5)))))))))
  (pss_one (ps_ret (pv 2))))))), ?_⟩
    -- journey = Journey(); given = []; at = 0
    intro p dx np ndx nex
    refine ⟨p, dx, rfl, upd_same, fun H1 j1 J1 kp1 nw1 => ⟨rfl, ?_⟩⟩
    have s1 : Same H H1 := Same.made np ndx kp1
    have n1 : ∀ c, c ∈ j1.own p → H c = none := fun c m => by
      rcases nw1 c m with z | z
      · rw [z]; exact np
      · by_cases e : c = p
        · rw [e]; exact np
        · rw [upd_ne e] at z
          by_cases e2 : c = dx
          · rw [e2]; exact ndx
          · rw [upd_ne e2] at z; exact z
    refine ⟨Nat.zero_le _, fun g hg => ?_⟩
    have s2 : Same H1 (upd H1 g (.lst [])) := fun b o z => by rw [upd_ne (ne_of_none z hg)]; exact z
    have ng : ¬ g ∈ j1.own p := fun m => by
      have this := J1.tracked m
      obtain ⟨o, ho⟩ := this
      rw [hg] at ho
      cases ho
    have t0 : Turns K C H a p g l 0 (upd H1 g (.lst [])) := ⟨s1.trans s2, ⟨j1, Ks306Neutral.start, [], l.length, cs0, J1.same s2, upd_same, ng, n1, by rw [List.drop_zero]; exact AS.calls, by rw [List.nil_append]; exact AS.due.symm⟩, Nat.zero_le _, s1.free hg⟩
    refine ⟨fun m σ H' => ∃ (i : Nat) (v4 v5 v6 : Option V), m = l.length - i ∧ σ = [some (.ref a), some (.ref p), some (.ref g), some (.int i), v4, v5, v6] ∧ Turns K C H a p g l i H', ⟨_, 0, none, none, none, rfl, rfl, t0⟩, ?_⟩
    rintro m σ H' ⟨i, v4, v5, v6, rfl, rfl, TT⟩
    have hS' := TT.same.seq hS
    refine ⟨_, rfl, _, rfl, a, _, rfl, .inl hS', _, _, rfl, rfl, _, rfl, ?_⟩
    rw [List.length_map]
    obtain ⟨j, st, out, fu, cs, J, hg', ngo, nwo, hc, due⟩ := TT.ex
    have few := AS.few
    refine ite2 (fun h1 => ?_) (fun h1 => ?_)
    · have h1 : i < l.length := by have := of_decide_eq_true h1; omega
      obtain ⟨f', c, cs', hci, hc12, hle, rfl, hc'⟩ := calls_at hc h1
      refine ⟨fun σ' H'' => ∃ (v4 v5 v6 : Option V), σ' = [some (.ref a), some (.ref p), some (.ref g), some (.int (i + 1 + wide c : Nat)), v4, v5, v6] ∧ Turns K C H a p g l (i + 1 + wide c) H'', ?_, ?_⟩
      · rintro σ' H'' ⟨u4, u5, u6, rfl, TT'⟩
        exact ⟨l.length - (i + 1 + wide c), by omega, _, u4, u5, u6, rfl, rfl, TT'⟩
      -- call = calls[at]; behind = at + 1 + NUMBERS_BEHIND[call]
      refine ⟨_, rfl, _, rfl, a, _, _, _, rfl, rfl, hS', atI_int hci, ?_⟩
      refine ⟨_, rfl, _, _, rfl, rfl, _, rfl, aB, _, _, _, rfl, rfl, hB _, hW c hc12, _, _, rfl, rfl, ?_⟩
      -- numbers = answer(journey, call, calls[at + 1:behind])
      refine ⟨_, rfl, _, rfl, _, rfl, _, rfl, _, _, rfl, rfl, _, rfl, _, rfl, _, rfl, a, _, rfl, hS', fun t ht => ?_⟩
      have s3 : Same H' (upd H' t (.lst (cutV (l.map V.int) (some ((i : Int) + 1)) (some ((i : Int) + 1 + (wide c : Int)))))) := fun b o z => by rw [upd_ne (ne_of_none z ht)]; exact z
      have ec : cutV (l.map V.int) (some ((i : Int) + 1)) (some ((i : Int) + 1 + (wide c : Int))) = ((l.drop (i + 1)).take (wide c)).map V.int := by
        have := cut_map l (i + 1) (wide c) hle
        rw [← this]
        congr 2
      have nto : ¬ t ∈ j.own p := fun m => by
        obtain ⟨o, ho⟩ := J.tracked m
        rw [ht] at ho
        cases ho
      have ntg : g ≠ t := ne_of_none hg' ht
      have hll : ((l.drop (i + 1)).take (wide c)).length = wide c := by rw [List.length_take, List.length_drop]; omega
      have hlp : ∀ x ∈ (l.drop (i + 1)).take (wide c), 0 ≤ x := fun x hx => hpos x (List.mem_of_mem_drop (List.mem_of_mem_take hx))
      refine ⟨p, t, j, st, c, (l.drop (i + 1)).take (wide c), rfl, J.same s3, (by rw [upd_same, ec]), nto, hc12, hll, hlp, fun H2 j2 gn J2 fr2 hgn ngn fgn => ?_⟩
      have hg2 : H2 g = some (.lst (out.map V.int)) := fr2.kept g _ (s3 _ _ hg') ngo
      have gng : g ≠ gn := fgn g _ (s3 _ _ hg') ngo
      rw [played_cons, told_cons] at due
      have hbig : out.length + 1 + (Ks306Neutral.step st [(c : Int) :: (l.drop (i + 1)).take (wide c)]).2.length ≤ (PyKs306.answers l).length := by
        rw [← due, List.length_append, List.length_append, List.length_cons]
        omega
      -- given.append(len(numbers))
      refine ⟨_, rfl, .inl ⟨rfl, _, SqL.of hg2⟩, _, rfl, gn, _, rfl, hgn, g, _, _, rfl, rfl, hg2, (by rw [List.length_map, sizeLine_eq]; omega), ?_⟩
      -- given.extend(numbers)
      refine ⟨_, rfl, .inl ⟨rfl, _, SqL.of upd_same⟩, _, rfl, g, gn, _, _, rfl, rfl, upd_same, (by rw [upd_ne gng.symm]; exact hgn), (by rw [List.length_append, List.length_map, List.length_map, List.length_singleton, sizeLine_eq]; omega), ?_⟩
      -- at = behind
      refine ⟨_, rfl, _, _, _, rfl, ?_, ⟨j2, (Ks306Neutral.step st [(c : Int) :: (l.drop (i + 1)).take (wide c)]).1, out ++ (((Ks306Neutral.step st [(c : Int) :: (l.drop (i + 1)).take (wide c)]).2.length : Int) :: (Ks306Neutral.step st [(c : Int) :: (l.drop (i + 1)).take (wide c)]).2), f', cs', ?_, ?_, ?_, ?_, hc', ?_⟩, hle, TT.new⟩
      · intro b o z
        have zg : b ≠ g := fun e => by rw [e, TT.new] at z; cases z
        rw [upd_ne zg, upd_ne zg]
        refine fr2.kept b o (s3 _ _ (TT.same _ _ z)) fun m => ?_
        rw [nwo b m] at z
        cases z
      · refine J2.keep fun b o m z => ?_
        have zg : b ≠ g := fun e => by
          rcases fr2.new b m with y | y
          · exact ngo (e ▸ y)
          · rw [e, s3 _ _ hg'] at y; cases y
        rw [upd_ne zg, upd_ne zg]
        exact z
      · rw [upd_same]
        simp [List.map_append]
      · intro m
        rcases fr2.new g m with z | z
        · exact ngo z
        · rw [s3 _ _ hg'] at z
          cases z
      · intro b m
        rcases fr2.new b m with z | z
        · exact nwo b z
        · exact (TT.same.trans s3).free z
      · rw [List.append_assoc]
        exact due
    · have h1 : l.length ≤ i := by
        have : ¬ (i : Int) < (l.length : Int) := fun z => h1 (decide_eq_true z)
        omega
      have e : i = l.length := Nat.le_antisymm TT.le h1
      subst e
      rw [List.drop_length] at hc
      have := calls_nil hc
      subst this
      rw [show PyFlat.told (PyFlat.played Ks306Neutral.step st []) = [] from rfl, List.append_nil] at due
      refine ⟨_, rfl, ?_⟩
      rw [due] at hg'
      exact k _ _ hg'
end
end Rs
end
section
set_option Elab.async false
set_option linter.all false
set_option maxRecDepth 100000
set_option maxHeartbeats 4000000
namespace Rs
open PySem PySem.Spec PyProof.Rows L2
open Ks306 (Abs Call act looked keepsPins put has pairOk there)
theorem ifEq {c : Nat} (k : Nat) {A B : Prop} (h : c = k → A) (h2 : ¬ c = k → B) : if decide (V.int (c : Int) = V.int (k : Int)) = true then A else B := by
  by_cases e : c = k
  · subst e
    rw [if_pos (decide_eq_true rfl)]
    exact h rfl
  · rw [if_neg]
    · exact h2 e
    · intro z
      have z := of_decide_eq_true z
      injection z with z
      exact e (by omega)
theorem list1 {l : List Int} (h : l.length = 1) (hp : ∀ x ∈ l, 0 ≤ x) : ∃ a : Nat, l = [(a : Int)] := by
  match l, h with
  | [x], _ =>
    obtain ⟨n, e⟩ := Int.eq_ofNat_of_zero_le (hp x (by simp))
    exact ⟨n, by rw [e]⟩
theorem list2 {l : List Int} (h : l.length = 2) (hp : ∀ x ∈ l, 0 ≤ x) : ∃ a b : Nat, l = [(a : Int), (b : Int)] := by
  match l, h with
  | [x, y], _ =>
    obtain ⟨n, e⟩ := Int.eq_ofNat_of_zero_le (hp x (by simp))
    obtain ⟨m, e2⟩ := Int.eq_ofNat_of_zero_le (hp y (by simp))
    exact ⟨n, m, by rw [e, e2]⟩
theorem list3 {l : List Int} (h : l.length = 3) (hp : ∀ x ∈ l, 0 ≤ x) : ∃ a b c : Nat, l = [(a : Int), (b : Int), (c : Int)] := by
  match l, h with
  | [x, y, z], _ =>
    obtain ⟨n, e⟩ := Int.eq_ofNat_of_zero_le (hp x (by simp))
    obtain ⟨m, e2⟩ := Int.eq_ofNat_of_zero_le (hp y (by simp))
    obtain ⟨o, e3⟩ := Int.eq_ofNat_of_zero_le (hp z (by simp))
    exact ⟨n, m, o, by rw [e, e2, e3]⟩
theorem list0 {l : List Int} (h : l.length = 0) : l = [] := List.length_eq_zero_iff.mp h
/-! ### calls that answer one number alone -/
theorem out_begin (a : Abs) (n : Nat) : (act a (.begin n)).2.out = [] := by simp only [act]; split <;> rfl
theorem out_room (a : Abs) (n : Nat) : (act a (.room n)).2.out = [] := by simp only [act]; repeat' split
                                                                          all_goals rfl
theorem out_beds (a : Abs) (n m : Nat) : (act a (.beds n m)).2.out = [] := by simp only [act]; repeat' split
                                                                              all_goals rfl
theorem out_wish (a : Abs) (n m o : Nat) : (act a (.wish n m o)).2.out = [] := by simp only [act]; repeat' split
                                                                                  all_goals rfl
theorem out_bar (a : Abs) (n m o : Nat) : (act a (.bar n m o)).2.out = [] := by simp only [act]; repeat' split
                                                                                all_goals rfl
theorem out_pin (a : Abs) (n m : Nat) : (act a (.pin n m)).2.out = [] := by simp only [act]; repeat' split
                                                                            all_goals rfl
theorem out_move (a : Abs) (n m : Nat) : (act a (.move n m)).2.out = [] := by simp only [act]; repeat' split
                                                                              all_goals rfl
theorem out_swap (a : Abs) (n m : Nat) : (act a (.swap n m)).2.out = [] := by simp only [act]; repeat' split
                                                                              all_goals rfl
section
variable {P : Program} {w : World} {K : PySem.W.Frag} {mg : Str → Option Value} {base : Heap} {C : Addr}
/-- what answer's caller is told -/
def KA (C : Addr) (H : Hp) (p : Addr) (j : J) (a : Abs) (r : Abs × List Int) (Q : VK) : Prop :=
  ∀ (H' : Hp) (j' : J) (g : Addr), JAt C H' p j' r.1 → Fr H H' p j j' → H' g = some (.lst (r.2.map V.int)) → ¬ g ∈ j'.own p → (∀ b o, H b = some o → ¬ b ∈ j.own p → b ≠ g) → Q (.ref g) H'
/-- a number alone, put into a list -/
theorem KA.one {H : Hp} {p : Addr} {j : J} {a : Abs} {r : Abs × List Int} {Q : VK} {c : Call} (k : KA C H p j a r Q) (e : r = Ks306Neutral.sa (act a c)) (ho : (act a c).2.out = []) :
    ∀ H' j', JAt C H' p j' (act a c).1 → Fr H H' p j j' → 1 ≤ sizeLine ∧ ∀ g, H' g = none → Q (.ref g) (upd H' g (.lst [.int (act a c).2.ret])) := fun H' j' A fr => by
  refine ⟨by decide, fun g hg => ?_⟩
  subst e
  refine k _ j' g (A.same (Same.new hg)) (fr.trans (fr_same (Same.new hg))) ?_ (A.notOwn hg) fun b o z n => ne_of_none (fr.kept b o z n) hg
  rw [upd_same]
  unfold Ks306Neutral.sa
  rw [ho]
  rfl
theorem KA.many {H : Hp} {p : Addr} {j : J} {a : Abs} {r : Abs × List Int} {Q : VK} {c : Call} (k : KA C H p j a r Q) (e : r = Ks306Neutral.sa (act a c)) : KL C H p j a c Q := fun H' j' g A fr hg ng fg => by
  subst e
  exact k H' j' g A fr hg ng fun b o z _ => ne_of_none z fg
theorem ok_answer (M : TFun K mg "answer" s_answer ["journey", "call", "told"]) (T : Txt K mg C) (G_begin : MOk P w K mg base C 2 "begin" ["self", "pupils"] (sp1 C Call.begin)) (G_room : MOk P w K mg base C 1 "room" ["self", "beds"] (sp1 C Call.room))
    (G_beds : MOk P w K mg base C 7 "beds" ["self", "room", "beds"] (sp2 C Call.beds)) (G_wish : MOk P w K mg base C 2 "wish" ["self", "a", "b", "on"] (sp3 C Call.wish)) (G_bar : MOk P w K mg base C 7 "bar" ["self", "a", "b", "on"] (sp3 C Call.bar)) (G_pin : MOk P w K mg base C 7 "pin" ["self", "a", "where"] (sp2 C Call.pin))
    (G_fill : MOk P w K mg base C 7 "fill" ["self"] (spL0 C .fill)) (G_move : MOk P w K mg base C 7 "move" ["self", "a", "room"] (sp2 C Call.move)) (G_swap : MOk P w K mg base C 7 "swap" ["self", "a", "b"] (sp2 C Call.swap)) (G_who : MOk P w K mg base C 3 "who" ["self", "room"] (spL1 C Call.who))
    (G_weigh : MOk P w K mg base C 3 "weigh" ["self"] (spL0 C .weigh)) (G_state : MOk P w K mg base C 3 "state" ["self"] (spL0 C .state)) : FOk P w K mg base 9 "answer" ["journey", "call", "told"] (sp_answer C) := by
  obtain ⟨f, fd, F, hb, hm⟩ := M
  refine ⟨f, fd, hm, F.kp, F.ok sc_answer (fun vs H Q E h => ?_) (fun cdv A outer s H vs Q E hr h => ?_), hb⟩
  · obtain ⟨p, t, j, a, c, l, rfl, _⟩ := h
    rfl
  · obtain ⟨p, t, j, a, c, l, rfl, J, ht, nt, hc, hl, hpos, k⟩ := h
    have k : KA C H p j a (Ks306Neutral.step a [(c : Int) :: l]) Q := k
    obtain ⟨dx, hp⟩ := J.ob
    refine ⟨_, (pss_cons (ps_if (pt_cmpR op_eq (pv 1) (pe_globI T.c_BEGIN) (nomark _)) (pss_one (ps_ret (pe_lst (pa_cons (pe_methM (pv 0) T.cl G_begin (hr.mono (by decide)) (pa_cons (pe_ix ix_L (pv 2) pe_int (fun _ _ => rfl)) pa_nil)) pa_nil)))) pss_nil)
  (pss_cons (ps_if (pt_cmpR op_eq (pv 1) (pe_globI T.c_ROOM) (nomark _)) (pss_one (ps_ret (pe_lst (pa_cons (pe_methM (pv 0) T.cl G_room (hr.mono (by decide)) (pa_cons (pe_ix ix_L (pv 2) pe_int (fun _ _ => rfl)) pa_nil)) pa_nil)))) pss_nil)
  (pss_cons (ps_if (pt_cmpR op_eq (pv 1) (pe_globI T.c_BEDS) (nomark _)) (pss_one (ps_ret (pe_lst (pa_cons (pe_methM (pv 0) T.cl G_beds (hr.mono (by decide)) (pa_cons (pe_ix ix_L (pv 2) pe_int (fun _ _ => rfl)) (pa_cons (pe_ix ix_L (pv 2) pe_int (fun _ _ => rfl)) pa_nil))) pa_nil)))) pss_nil)
  (pss_cons (ps_if (pt_cmpR op_eq (pv 1) (pe_globI T.c_WISH) (nomark _)) (pss_one (ps_ret (pe_lst (pa_cons (pe_methM (pv 0) T.cl G_wish (hr.mono (by decide)) (pa_cons (pe_ix ix_L (pv 2) pe_int (fun _ _ => rfl)) (pa_cons (pe_ix ix_L (pv 2) pe_int (fun _ _ => rfl)) (pa_cons (pe_ix ix_L (pv 2) pe_int (fun _ _ => rfl)) pa_nil)))) pa_nil)))) pss_nil)
  (pss_cons (ps_if (pt_cmpR op_eq (pv 1) (pe_globI T.c_BAR) (nomark _)) (pss_one (ps_ret (pe_lst (pa_cons (pe_methM (pv 0) T.cl G_bar (hr.mono (by decide)) (pa_cons (pe_ix ix_L (pv 2) pe_int (fun _ _ => rfl)) (pa_cons (pe_ix ix_L (pv 2) pe_int (fun _ _ => rfl)) (pa_cons (pe_ix ix_L (pv 2) pe_int (fun _ _ => rfl)) pa_nil)))) pa_nil)))) pss_nil)
  (pss_cons (ps_if (pt_cmpR op_eq (pv 1) (pe_globI T.c_PIN) (nomark _)) (pss_one (ps_ret (pe_lst (pa_cons (pe_methM (pv 0) T.cl G_pin (hr.mono (by decide)) (pa_cons (pe_ix ix_L (pv 2) pe_int (fun _ _ => rfl)) (pa_cons (pe_ix ix_L (pv 2) pe_int (fun _ _ => rfl)) pa_nil))) pa_nil)))) pss_nil)
  (pss_cons (ps_if (pt_cmpR op_eq (pv 1) (pe_globI T.c_FILL) (nomark _)) (pss_one (ps_ret (pe_methM0 (pv 0) T.cl G_fill (hr.mono (by decide))))) pss_nil)
  (pss_cons (ps_if (pt_cmpR op_eq (pv 1) (pe_globI T.c_MOVE) (nomark _)) (pss_one (ps_ret (pe_lst (pa_cons (pe_methM (pv 0) T.cl G_move (hr.mono (by decide)) (pa_cons (pe_ix ix_L (pv 2) pe_int (fun _ _ => rfl)) (pa_cons (pe_ix ix_L (pv 2) pe_int (fun _ _ => rfl)) pa_nil))) pa_nil)))) pss_nil)
  (pss_cons (ps_if (pt_cmpR op_eq (pv 1) (pe_globI T.c_SWAP) (nomark _)) (pss_one (ps_ret (pe_lst (pa_cons (pe_methM (pv 0) T.cl G_swap (hr.mono (by decide)) (pa_cons (pe_ix ix_L (pv 2) pe_int (fun _ _ => rfl)) (pa_cons (pe_ix ix_L (pv 2) pe_int (fun _ _ => rfl)) pa_nil))) pa_nil)))) pss_nil)
  (pss_cons (ps_if (pt_cmpR op_eq (pv 1) (pe_globI T.c_WHO) (nomark _)) (pss_one (ps_ret (pe_methM (pv 0) T.cl G_who (hr.mono (by decide)) (pa_cons (pe_ix ix_L (pv 2) pe_int (fun _ _ => rfl)) pa_nil)))) pss_nil)
  (pss_cons (ps_if (pt_cmpR op_eq (pv 1) (pe_globI T.c_WEIGH) (nomark _)) (pss_one (ps_ret (pe_methM0 (pv 0) T.cl G_weigh (hr.mono (by decide))))) pss_nil)
  (pss_one (ps_ret (pe_methM0 (pv 0) T.cl G_state (hr.mono (by decide)))))))))))))))), ?_⟩
    -- begin
    refine ⟨_, rfl, rfl, _, rfl, ifEq 0 (fun ec => ?_) (fun n0 => ?_)⟩
    · subst ec
      obtain ⟨x, rfl⟩ := list1 hl hpos
      exact ⟨_, rfl, p, dx, _, rfl, hp, rfl, _, rfl, t, _, _, _, rfl, rfl, ht, rfl, p, j, a, x, rfl, J, k.one rfl (out_begin a x)⟩
    refine ⟨_, rfl, rfl, _, rfl, ifEq 1 (fun ec => ?_) (fun n1 => ?_)⟩
    · subst ec
      obtain ⟨x, rfl⟩ := list1 hl hpos
      exact ⟨_, rfl, p, dx, _, rfl, hp, rfl, _, rfl, t, _, _, _, rfl, rfl, ht, rfl, p, j, a, x, rfl, J, k.one rfl (out_room a x)⟩
    refine ⟨_, rfl, rfl, _, rfl, ifEq 2 (fun ec => ?_) (fun n2 => ?_)⟩
    · subst ec
      obtain ⟨x, y, rfl⟩ := list2 hl hpos
      exact ⟨_, rfl, p, dx, _, rfl, hp, rfl, _, rfl, t, _, _, _, rfl, rfl, ht, rfl, _, rfl, t, _, _, _, rfl, rfl, ht, rfl, p, j, a, x, y, rfl, J, k.one rfl (out_beds a x y)⟩
    refine ⟨_, rfl, rfl, _, rfl, ifEq 3 (fun ec => ?_) (fun n3 => ?_)⟩
    · subst ec
      obtain ⟨x, y, z, rfl⟩ := list3 hl hpos
      exact ⟨_, rfl, p, dx, _, rfl, hp, rfl, _, rfl, t, _, _, _, rfl, rfl, ht, rfl, _, rfl, t, _, _, _, rfl, rfl, ht, rfl, _, rfl, t, _, _, _, rfl, rfl, ht, rfl, p, j, a, x, y, z, rfl, J, k.one rfl (out_wish a x y z)⟩
    refine ⟨_, rfl, rfl, _, rfl, ifEq 4 (fun ec => ?_) (fun n4 => ?_)⟩
    · subst ec
      obtain ⟨x, y, z, rfl⟩ := list3 hl hpos
      exact ⟨_, rfl, p, dx, _, rfl, hp, rfl, _, rfl, t, _, _, _, rfl, rfl, ht, rfl, _, rfl, t, _, _, _, rfl, rfl, ht, rfl, _, rfl, t, _, _, _, rfl, rfl, ht, rfl, p, j, a, x, y, z, rfl, J, k.one rfl (out_bar a x y z)⟩
    refine ⟨_, rfl, rfl, _, rfl, ifEq 5 (fun ec => ?_) (fun n5 => ?_)⟩
    · subst ec
      obtain ⟨x, y, rfl⟩ := list2 hl hpos
      exact ⟨_, rfl, p, dx, _, rfl, hp, rfl, _, rfl, t, _, _, _, rfl, rfl, ht, rfl, _, rfl, t, _, _, _, rfl, rfl, ht, rfl, p, j, a, x, y, rfl, J, k.one rfl (out_pin a x y)⟩
    refine ⟨_, rfl, rfl, _, rfl, ifEq 6 (fun ec => ?_) (fun n6 => ?_)⟩
    · subst ec
      have := list0 hl
      subst this
      exact ⟨_, rfl, p, dx, _, rfl, hp, rfl, p, j, a, rfl, J, k.many rfl⟩
    refine ⟨_, rfl, rfl, _, rfl, ifEq 7 (fun ec => ?_) (fun n7 => ?_)⟩
    · subst ec
      obtain ⟨x, y, rfl⟩ := list2 hl hpos
      exact ⟨_, rfl, p, dx, _, rfl, hp, rfl, _, rfl, t, _, _, _, rfl, rfl, ht, rfl, _, rfl, t, _, _, _, rfl, rfl, ht, rfl, p, j, a, x, y, rfl, J, k.one rfl (out_move a x y)⟩
    refine ⟨_, rfl, rfl, _, rfl, ifEq 8 (fun ec => ?_) (fun n8 => ?_)⟩
    · subst ec
      obtain ⟨x, y, rfl⟩ := list2 hl hpos
      exact ⟨_, rfl, p, dx, _, rfl, hp, rfl, _, rfl, t, _, _, _, rfl, rfl, ht, rfl, _, rfl, t, _, _, _, rfl, rfl, ht, rfl, p, j, a, x, y, rfl, J, k.one rfl (out_swap a x y)⟩
    refine ⟨_, rfl, rfl, _, rfl, ifEq 9 (fun ec => ?_) (fun n9 => ?_)⟩
    · subst ec
      obtain ⟨x, rfl⟩ := list1 hl hpos
      exact ⟨_, rfl, p, dx, _, rfl, hp, rfl, _, rfl, t, _, _, _, rfl, rfl, ht, rfl, p, j, a, x, rfl, J, k.many rfl⟩
    refine ⟨_, rfl, rfl, _, rfl, ifEq 10 (fun ec => ?_) (fun n10 => ?_)⟩
    · subst ec
      have := list0 hl
      subst this
      exact ⟨_, rfl, p, dx, _, rfl, hp, rfl, p, j, a, rfl, J, k.many rfl⟩
    have ec : c = 11 := by omega
    subst ec
    have := list0 hl
    subst this
    exact ⟨_, rfl, p, dx, _, rfl, hp, rfl, p, j, a, rfl, J, k.many rfl⟩
theorem ok_entry {f : Addr} {fd : FuncData} (F : Fun K "answers" "answers" s_answers f fd) (T : Txt K mg C) (FF : Funs K mg C) : FnOk P w K mg base CX0 60 f fd ["calls"] (spAns K) := by
  have t1 := ok_start_anew (P := P) (w := w) (base := base) FF.start_anew T
  have k1 := ok_keeps (P := P) (w := w) (base := base) FF.keeps_to_pins T
  have k2 := ok_full (P := P) (w := w) (base := base) FF.is_too_full T
  have k3 := ok_together (P := P) (w := w) (base := base) FF.count_together T
  have k4 := ok_content (P := P) (w := w) (base := base) FF.count_content T
  have g1 := ok_sizes (P := P) (w := w) (base := base) FF.group_sizes T
  have g2 := ok_parts (P := P) (w := w) (base := base) FF.group_parts T
  have g3 := ok_paired (P := P) (w := w) (base := base) FF.paired_with T
  have g4 := ok_worth_together (P := P) (w := w) (base := base) FF.worth_together T
  have g5 := ok_order (P := P) (w := w) (base := base) FF.worth_of_order T
  have g6 := ok_pinned (P := P) (w := w) (base := base) FF.pinned_to T
  have g7 := ok_worths (P := P) (w := w) (base := base) FF.worths_in_rooms T g1 g3 g4 g5 g6
  have g8 := ok_split (P := P) (w := w) (base := base) FF.best_split T
  have g9 := ok_best_worth (P := P) (w := w) (base := base) FF.best_worth T g8
  have g10 := ok_decode (P := P) (w := w) (base := base) FF.filling_of_worth T
  have g11 := ok_best_filling (P := P) (w := w) (base := base) FF.best_filling T g7 g2 g9 g10
  have m1 := ok_has (P := P) (w := w) (base := base) FF.has_filling T
  have m2 := ok_refusal (P := P) (w := w) (base := base) FF.filling_refusal T k1 k2 k3
  have m3 := ok_look (P := P) (w := w) (base := base) FF.look_anew T m1 m2
  have m4 := ok_pair_refusal (P := P) (w := w) (base := base) FF.pair_refusal T
  have m5 := ok_tell_pair (P := P) (w := w) (base := base) FF.tell_pair T
  have m6 := ok_weigh (P := P) (w := w) (base := base) FF.weigh T k4 k3
  have m7 := ok_change (P := P) (w := w) (base := base) FF.change_filling T m2 k4
  have an := ok_answer (P := P) (w := w) (base := base) FF.answer T (ok_begin FF.begin T t1) (ok_room FF.room T) (ok_beds FF.beds T m3) (ok_wish FF.wish T m4 m5) (ok_bar FF.bar T m4 m5 m3) (ok_pin FF.pin T m3) (ok_fill FF.fill T g11 m6) (ok_move FF.move T m7) (ok_swap FF.swap T m7) (ok_who FF.who T) m6 (ok_state FF.state T m1)
  exact ok_answers F T (ok_init FF.init T t1) (by decide) an
end
end Rs
end
set_option Elab.async false
set_option linter.all false
set_option maxRecDepth 100000
set_option maxHeartbeats 4000000
/-! What the top has written, and the row's head. Made by tools/mkhead.py. -/
namespace Rs
open PySem PySem.Spec PyProof.Rows L2
open PySem.W (Codec)
theorem all_mk {P : Program} {w : World} {K : PySem.W.Frag} {h : Heap} {mg : Str → Option Value} {fa C f1 f2 f3 f4 f5 f6 f7 f8 f9 f10 f11 f12 f13 f14 f15 f16 f17 f18 f19 f20 f21 f22 f23 f24 f25 f26 f27 f28 f29 f30 f31 f32 f33 f34 f35 f36 f37 : Addr} (X : K.In h) (G : h.Ns mainGlobals mg) (hfa : mg "answers" = some (.ref fa))
    {od1 an1 od2 an2 od3 an3 od4 an4 od5 an5 od6 an6 od7 an7 od8 an8 od9 an9 od10 an10 od11 an11 od12 an12 od13 an13 od14 an14 od15 an15 od16 an16 od17 an17 od18 an18 od19 an19 od20 an20 od21 an21 od22 an22 od23 an23 od24 an24 od25 an25 od26 an26 od27 an27 od28 an28 od29 an29 od30 an30 od31 an31 od32 an32 od33 an33 od34 an34 od35 an35 od36 an36 od37 an37 : Option Addr} {sl1 sl2 sl3 sl4 sl5 sl6 sl7 sl8 sl9 sl10 sl11 sl12 sl13 sl14 sl15 sl16 sl17 sl18 sl19 sl20 sl21 sl22 sl23 sl24 sl25 sl26 sl27 sl28 sl29 sl30 sl31 sl32 sl33 sl34 sl35 sl36 sl37 : Array (Option Value)} {oc1 kV1 dc1 pm1 cd1 ct1 oc2 kV2 dc2 pm2 cd2 ct2 oc3 kV3 dc3 pm3 cd3 ct3 oc4 kV4 dc4 pm4 cd4 ct4 oc5 kV5 dc5 pm5 cd5 ct5 oc6 kV6 dc6 pm6 cd6 ct6 oc7 kV7 dc7 pm7 cd7 ct7 oc8 kV8 dc8 pm8 cd8 ct8 oc9 kV9 dc9 pm9 cd9 ct9 oc10 kV10 dc10 pm10 cd10 ct10 oc11 kV11 dc11 pm11 cd11 ct11 oc12 kV12 dc12 pm12 cd12 ct12 oc13 kV13 dc13 pm13 cd13 ct13 oc14 kV14 dc14 pm14 cd14 ct14 oc15 kV15 dc15 pm15 cd15 ct15 oc16 kV16 dc16 pm16 cd16 ct16 oc17 kV17 dc17 pm17 cd17 ct17 oc18 kV18 dc18 pm18 cd18 ct18 oc19 kV19 dc19 pm19 cd19 ct19 oc20 kV20 dc20 pm20 cd20 ct20 oc21 kV21 dc21 pm21 cd21 ct21 oc22 kV22 dc22 pm22 cd22 ct22 oc23 kV23 dc23 pm23 cd23 ct23 oc24 kV24 dc24 pm24 cd24 ct24 oc25 kV25 dc25 pm25 cd25 ct25 oc26 kV26 dc26 pm26 cd26 ct26 oc27 kV27 dc27 pm27 cd27 ct27 oc28 kV28 dc28 pm28 cd28 ct28 oc29 kV29 dc29 pm29 cd29 ct29 oc30 kV30 dc30 pm30 cd30 ct30 oc31 kV31 dc31 pm31 cd31 ct31 oc32 kV32 dc32 pm32 cd32 ct32 oc33 kV33 dc33 pm33 cd33 ct33 oc34 kV34 dc34 pm34 cd34 ct34 oc35 kV35 dc35 pm35 cd35 ct35 oc36 kV36 dc36 pm36 cd36 ct36 oc37 kV37 dc37 pm37 cd37 ct37 : Value}
    {k_MOST_ROOMS k_ONE_CONTENT k_ONE_FULFILLED k_MAY_NOT_BE k_BAR_BROKEN k_NOT_THERE k_NO_PLACE_LEFT k_PINNED_ELSEWHERE k_NOTHING_TO_CHANGE k_OUT_OF_RANGE k_TOO_FULL k_NO_WAY_TO_FILL k_NO_PLAN k_NO_FILLING k_MOST_PUPILS k_MOST_BEDS k_MOST_PAIRS k_BEGIN k_ROOM k_BEDS k_WISH k_BAR k_PIN k_FILL k_MOVE k_SWAP k_WHO k_WEIGH : Tok}
    {a_ONE_ROOM_BEHIND : Addr} {o_ONE_ROOM_BEHIND : Option Addr} {m_ONE_ROOM_BEHIND : Nat} {l_ONE_ROOM_BEHIND : Array (Option Value)} {k_ONE_ROOM_BEHIND_0 k_ONE_ROOM_BEHIND_1 k_ONE_ROOM_BEHIND_2 k_ONE_ROOM_BEHIND_3 k_ONE_ROOM_BEHIND_4 k_ONE_ROOM_BEHIND_5 k_ONE_ROOM_BEHIND_6 k_ONE_ROOM_BEHIND_7 : Tok}
    {a_NUMBERS_BEHIND : Addr} {o_NUMBERS_BEHIND : Option Addr} {m_NUMBERS_BEHIND : Nat} {l_NUMBERS_BEHIND : Array (Option Value)} {k_NUMBERS_BEHIND_0 k_NUMBERS_BEHIND_1 k_NUMBERS_BEHIND_2 k_NUMBERS_BEHIND_3 k_NUMBERS_BEHIND_4 k_NUMBERS_BEHIND_5 k_NUMBERS_BEHIND_6 k_NUMBERS_BEHIND_7 k_NUMBERS_BEHIND_8 k_NUMBERS_BEHIND_9 k_NUMBERS_BEHIND_10 k_NUMBERS_BEHIND_11 : Tok}
    (aC : PySem.W.nsIn K mainGlobals "Journey" = some (some (.ref C)))
    (a1 : PySem.W.nsIn K mainGlobals "keeps_to_pins" = some (some (.ref f1)))
    (l1 : K.lookup f1 = some ⟨oc1, od1, .func (PySem.W.fnOf "keeps_to_pins" "keeps_to_pins" (defArgs s_keeps_to_pins) (defBody s_keeps_to_pins) (defScope s_keeps_to_pins) .none kV1 dc1 pm1 an1 cd1 ct1), sl1⟩) (c1 : PySem.W.codeIn K cd1 "keeps_to_pins" = true) (k1 : PySem.W.keepIn K (.ref f1) = true)
    (a2 : PySem.W.nsIn K mainGlobals "is_too_full" = some (some (.ref f2)))
    (l2 : K.lookup f2 = some ⟨oc2, od2, .func (PySem.W.fnOf "is_too_full" "is_too_full" (defArgs s_is_too_full) (defBody s_is_too_full) (defScope s_is_too_full) .none kV2 dc2 pm2 an2 cd2 ct2), sl2⟩) (c2 : PySem.W.codeIn K cd2 "is_too_full" = true) (k2 : PySem.W.keepIn K (.ref f2) = true)
    (a3 : PySem.W.nsIn K mainGlobals "count_together" = some (some (.ref f3)))
    (l3 : K.lookup f3 = some ⟨oc3, od3, .func (PySem.W.fnOf "count_together" "count_together" (defArgs s_count_together) (defBody s_count_together) (defScope s_count_together) .none kV3 dc3 pm3 an3 cd3 ct3), sl3⟩) (c3 : PySem.W.codeIn K cd3 "count_together" = true) (k3 : PySem.W.keepIn K (.ref f3) = true)
    (a4 : PySem.W.nsIn K mainGlobals "count_content" = some (some (.ref f4)))
    (l4 : K.lookup f4 = some ⟨oc4, od4, .func (PySem.W.fnOf "count_content" "count_content" (defArgs s_count_content) (defBody s_count_content) (defScope s_count_content) .none kV4 dc4 pm4 an4 cd4 ct4), sl4⟩) (c4 : PySem.W.codeIn K cd4 "count_content" = true) (k4 : PySem.W.keepIn K (.ref f4) = true)
    (a5 : PySem.W.nsIn K mainGlobals "group_sizes" = some (some (.ref f5)))
    (l5 : K.lookup f5 = some ⟨oc5, od5, .func (PySem.W.fnOf "group_sizes" "group_sizes" (defArgs s_group_sizes) (defBody s_group_sizes) (defScope s_group_sizes) .none kV5 dc5 pm5 an5 cd5 ct5), sl5⟩) (c5 : PySem.W.codeIn K cd5 "group_sizes" = true) (k5 : PySem.W.keepIn K (.ref f5) = true)
    (a6 : PySem.W.nsIn K mainGlobals "group_parts" = some (some (.ref f6)))
    (l6 : K.lookup f6 = some ⟨oc6, od6, .func (PySem.W.fnOf "group_parts" "group_parts" (defArgs s_group_parts) (defBody s_group_parts) (defScope s_group_parts) .none kV6 dc6 pm6 an6 cd6 ct6), sl6⟩) (c6 : PySem.W.codeIn K cd6 "group_parts" = true) (k6 : PySem.W.keepIn K (.ref f6) = true)
    (a7 : PySem.W.nsIn K mainGlobals "paired_with" = some (some (.ref f7)))
    (l7 : K.lookup f7 = some ⟨oc7, od7, .func (PySem.W.fnOf "paired_with" "paired_with" (defArgs s_paired_with) (defBody s_paired_with) (defScope s_paired_with) .none kV7 dc7 pm7 an7 cd7 ct7), sl7⟩) (c7 : PySem.W.codeIn K cd7 "paired_with" = true) (k7 : PySem.W.keepIn K (.ref f7) = true)
    (a8 : PySem.W.nsIn K mainGlobals "worth_together" = some (some (.ref f8)))
    (l8 : K.lookup f8 = some ⟨oc8, od8, .func (PySem.W.fnOf "worth_together" "worth_together" (defArgs s_worth_together) (defBody s_worth_together) (defScope s_worth_together) .none kV8 dc8 pm8 an8 cd8 ct8), sl8⟩) (c8 : PySem.W.codeIn K cd8 "worth_together" = true) (k8 : PySem.W.keepIn K (.ref f8) = true)
    (a9 : PySem.W.nsIn K mainGlobals "worth_of_order" = some (some (.ref f9)))
    (l9 : K.lookup f9 = some ⟨oc9, od9, .func (PySem.W.fnOf "worth_of_order" "worth_of_order" (defArgs s_worth_of_order) (defBody s_worth_of_order) (defScope s_worth_of_order) .none kV9 dc9 pm9 an9 cd9 ct9), sl9⟩) (c9 : PySem.W.codeIn K cd9 "worth_of_order" = true) (k9 : PySem.W.keepIn K (.ref f9) = true)
    (a10 : PySem.W.nsIn K mainGlobals "pinned_to" = some (some (.ref f10)))
    (l10 : K.lookup f10 = some ⟨oc10, od10, .func (PySem.W.fnOf "pinned_to" "pinned_to" (defArgs s_pinned_to) (defBody s_pinned_to) (defScope s_pinned_to) .none kV10 dc10 pm10 an10 cd10 ct10), sl10⟩) (c10 : PySem.W.codeIn K cd10 "pinned_to" = true) (k10 : PySem.W.keepIn K (.ref f10) = true)
    (a11 : PySem.W.nsIn K mainGlobals "worths_in_rooms" = some (some (.ref f11)))
    (l11 : K.lookup f11 = some ⟨oc11, od11, .func (PySem.W.fnOf "worths_in_rooms" "worths_in_rooms" (defArgs s_worths_in_rooms) (defBody s_worths_in_rooms) (defScope s_worths_in_rooms) .none kV11 dc11 pm11 an11 cd11 ct11), sl11⟩) (c11 : PySem.W.codeIn K cd11 "worths_in_rooms" = true) (k11 : PySem.W.keepIn K (.ref f11) = true)
    (a12 : PySem.W.nsIn K mainGlobals "best_split" = some (some (.ref f12)))
    (l12 : K.lookup f12 = some ⟨oc12, od12, .func (PySem.W.fnOf "best_split" "best_split" (defArgs s_best_split) (defBody s_best_split) (defScope s_best_split) .none kV12 dc12 pm12 an12 cd12 ct12), sl12⟩) (c12 : PySem.W.codeIn K cd12 "best_split" = true) (k12 : PySem.W.keepIn K (.ref f12) = true)
    (a13 : PySem.W.nsIn K mainGlobals "best_worth" = some (some (.ref f13)))
    (l13 : K.lookup f13 = some ⟨oc13, od13, .func (PySem.W.fnOf "best_worth" "best_worth" (defArgs s_best_worth) (defBody s_best_worth) (defScope s_best_worth) .none kV13 dc13 pm13 an13 cd13 ct13), sl13⟩) (c13 : PySem.W.codeIn K cd13 "best_worth" = true) (k13 : PySem.W.keepIn K (.ref f13) = true)
    (a14 : PySem.W.nsIn K mainGlobals "filling_of_worth" = some (some (.ref f14)))
    (l14 : K.lookup f14 = some ⟨oc14, od14, .func (PySem.W.fnOf "filling_of_worth" "filling_of_worth" (defArgs s_filling_of_worth) (defBody s_filling_of_worth) (defScope s_filling_of_worth) .none kV14 dc14 pm14 an14 cd14 ct14), sl14⟩) (c14 : PySem.W.codeIn K cd14 "filling_of_worth" = true) (k14 : PySem.W.keepIn K (.ref f14) = true)
    (a15 : PySem.W.nsIn K mainGlobals "best_filling" = some (some (.ref f15)))
    (l15 : K.lookup f15 = some ⟨oc15, od15, .func (PySem.W.fnOf "best_filling" "best_filling" (defArgs s_best_filling) (defBody s_best_filling) (defScope s_best_filling) .none kV15 dc15 pm15 an15 cd15 ct15), sl15⟩) (c15 : PySem.W.codeIn K cd15 "best_filling" = true) (k15 : PySem.W.keepIn K (.ref f15) = true)
    (a16 : PySem.W.nsIn K mainGlobals "tell_pair" = some (some (.ref f16)))
    (l16 : K.lookup f16 = some ⟨oc16, od16, .func (PySem.W.fnOf "tell_pair" "tell_pair" (defArgs s_tell_pair) (defBody s_tell_pair) (defScope s_tell_pair) .none kV16 dc16 pm16 an16 cd16 ct16), sl16⟩) (c16 : PySem.W.codeIn K cd16 "tell_pair" = true) (k16 : PySem.W.keepIn K (.ref f16) = true)
    (a17 : PySem.W.findIn K (.ref C) "__init__" = some (some (.ref f17))) (i17 : PySem.W.isFn K (.ref f17) = true)
    (l17 : K.lookup f17 = some ⟨oc17, od17, .func (PySem.W.fnOf "__init__" "Journey.__init__" (defArgs s_init) (defBody s_init) (defScope s_init) .none kV17 dc17 pm17 an17 cd17 ct17), sl17⟩) (c17 : PySem.W.codeIn K cd17 "Journey.__init__" = true) (k17 : PySem.W.keepIn K (.ref f17) = true)
    (a18 : PySem.W.findIn K (.ref C) "start_anew" = some (some (.ref f18))) (i18 : PySem.W.isFn K (.ref f18) = true)
    (l18 : K.lookup f18 = some ⟨oc18, od18, .func (PySem.W.fnOf "start_anew" "Journey.start_anew" (defArgs s_start_anew) (defBody s_start_anew) (defScope s_start_anew) .none kV18 dc18 pm18 an18 cd18 ct18), sl18⟩) (c18 : PySem.W.codeIn K cd18 "Journey.start_anew" = true) (k18 : PySem.W.keepIn K (.ref f18) = true)
    (a19 : PySem.W.findIn K (.ref C) "has_filling" = some (some (.ref f19))) (i19 : PySem.W.isFn K (.ref f19) = true)
    (l19 : K.lookup f19 = some ⟨oc19, od19, .func (PySem.W.fnOf "has_filling" "Journey.has_filling" (defArgs s_has_filling) (defBody s_has_filling) (defScope s_has_filling) .none kV19 dc19 pm19 an19 cd19 ct19), sl19⟩) (c19 : PySem.W.codeIn K cd19 "Journey.has_filling" = true) (k19 : PySem.W.keepIn K (.ref f19) = true)
    (a20 : PySem.W.findIn K (.ref C) "filling_refusal" = some (some (.ref f20))) (i20 : PySem.W.isFn K (.ref f20) = true)
    (l20 : K.lookup f20 = some ⟨oc20, od20, .func (PySem.W.fnOf "filling_refusal" "Journey.filling_refusal" (defArgs s_filling_refusal) (defBody s_filling_refusal) (defScope s_filling_refusal) .none kV20 dc20 pm20 an20 cd20 ct20), sl20⟩) (c20 : PySem.W.codeIn K cd20 "Journey.filling_refusal" = true) (k20 : PySem.W.keepIn K (.ref f20) = true)
    (a21 : PySem.W.findIn K (.ref C) "look_anew" = some (some (.ref f21))) (i21 : PySem.W.isFn K (.ref f21) = true)
    (l21 : K.lookup f21 = some ⟨oc21, od21, .func (PySem.W.fnOf "look_anew" "Journey.look_anew" (defArgs s_look_anew) (defBody s_look_anew) (defScope s_look_anew) .none kV21 dc21 pm21 an21 cd21 ct21), sl21⟩) (c21 : PySem.W.codeIn K cd21 "Journey.look_anew" = true) (k21 : PySem.W.keepIn K (.ref f21) = true)
    (a22 : PySem.W.findIn K (.ref C) "begin" = some (some (.ref f22))) (i22 : PySem.W.isFn K (.ref f22) = true)
    (l22 : K.lookup f22 = some ⟨oc22, od22, .func (PySem.W.fnOf "begin" "Journey.begin" (defArgs s_begin) (defBody s_begin) (defScope s_begin) .none kV22 dc22 pm22 an22 cd22 ct22), sl22⟩) (c22 : PySem.W.codeIn K cd22 "Journey.begin" = true) (k22 : PySem.W.keepIn K (.ref f22) = true)
    (a23 : PySem.W.findIn K (.ref C) "room" = some (some (.ref f23))) (i23 : PySem.W.isFn K (.ref f23) = true)
    (l23 : K.lookup f23 = some ⟨oc23, od23, .func (PySem.W.fnOf "room" "Journey.room" (defArgs s_room) (defBody s_room) (defScope s_room) .none kV23 dc23 pm23 an23 cd23 ct23), sl23⟩) (c23 : PySem.W.codeIn K cd23 "Journey.room" = true) (k23 : PySem.W.keepIn K (.ref f23) = true)
    (a24 : PySem.W.findIn K (.ref C) "beds" = some (some (.ref f24))) (i24 : PySem.W.isFn K (.ref f24) = true)
    (l24 : K.lookup f24 = some ⟨oc24, od24, .func (PySem.W.fnOf "beds" "Journey.beds" (defArgs s_beds) (defBody s_beds) (defScope s_beds) .none kV24 dc24 pm24 an24 cd24 ct24), sl24⟩) (c24 : PySem.W.codeIn K cd24 "Journey.beds" = true) (k24 : PySem.W.keepIn K (.ref f24) = true)
    (a25 : PySem.W.findIn K (.ref C) "pair_refusal" = some (some (.ref f25))) (i25 : PySem.W.isFn K (.ref f25) = true)
    (l25 : K.lookup f25 = some ⟨oc25, od25, .func (PySem.W.fnOf "pair_refusal" "Journey.pair_refusal" (defArgs s_pair_refusal) (defBody s_pair_refusal) (defScope s_pair_refusal) .none kV25 dc25 pm25 an25 cd25 ct25), sl25⟩) (c25 : PySem.W.codeIn K cd25 "Journey.pair_refusal" = true) (k25 : PySem.W.keepIn K (.ref f25) = true)
    (a26 : PySem.W.findIn K (.ref C) "wish" = some (some (.ref f26))) (i26 : PySem.W.isFn K (.ref f26) = true)
    (l26 : K.lookup f26 = some ⟨oc26, od26, .func (PySem.W.fnOf "wish" "Journey.wish" (defArgs s_wish) (defBody s_wish) (defScope s_wish) .none kV26 dc26 pm26 an26 cd26 ct26), sl26⟩) (c26 : PySem.W.codeIn K cd26 "Journey.wish" = true) (k26 : PySem.W.keepIn K (.ref f26) = true)
    (a27 : PySem.W.findIn K (.ref C) "bar" = some (some (.ref f27))) (i27 : PySem.W.isFn K (.ref f27) = true)
    (l27 : K.lookup f27 = some ⟨oc27, od27, .func (PySem.W.fnOf "bar" "Journey.bar" (defArgs s_bar) (defBody s_bar) (defScope s_bar) .none kV27 dc27 pm27 an27 cd27 ct27), sl27⟩) (c27 : PySem.W.codeIn K cd27 "Journey.bar" = true) (k27 : PySem.W.keepIn K (.ref f27) = true)
    (a28 : PySem.W.findIn K (.ref C) "pin" = some (some (.ref f28))) (i28 : PySem.W.isFn K (.ref f28) = true)
    (l28 : K.lookup f28 = some ⟨oc28, od28, .func (PySem.W.fnOf "pin" "Journey.pin" (defArgs s_pin) (defBody s_pin) (defScope s_pin) .none kV28 dc28 pm28 an28 cd28 ct28), sl28⟩) (c28 : PySem.W.codeIn K cd28 "Journey.pin" = true) (k28 : PySem.W.keepIn K (.ref f28) = true)
    (a29 : PySem.W.findIn K (.ref C) "fill" = some (some (.ref f29))) (i29 : PySem.W.isFn K (.ref f29) = true)
    (l29 : K.lookup f29 = some ⟨oc29, od29, .func (PySem.W.fnOf "fill" "Journey.fill" (defArgs s_fill) (defBody s_fill) (defScope s_fill) .none kV29 dc29 pm29 an29 cd29 ct29), sl29⟩) (c29 : PySem.W.codeIn K cd29 "Journey.fill" = true) (k29 : PySem.W.keepIn K (.ref f29) = true)
    (a30 : PySem.W.findIn K (.ref C) "change_filling" = some (some (.ref f30))) (i30 : PySem.W.isFn K (.ref f30) = true)
    (l30 : K.lookup f30 = some ⟨oc30, od30, .func (PySem.W.fnOf "change_filling" "Journey.change_filling" (defArgs s_change_filling) (defBody s_change_filling) (defScope s_change_filling) .none kV30 dc30 pm30 an30 cd30 ct30), sl30⟩) (c30 : PySem.W.codeIn K cd30 "Journey.change_filling" = true) (k30 : PySem.W.keepIn K (.ref f30) = true)
    (a31 : PySem.W.findIn K (.ref C) "move" = some (some (.ref f31))) (i31 : PySem.W.isFn K (.ref f31) = true)
    (l31 : K.lookup f31 = some ⟨oc31, od31, .func (PySem.W.fnOf "move" "Journey.move" (defArgs s_move) (defBody s_move) (defScope s_move) .none kV31 dc31 pm31 an31 cd31 ct31), sl31⟩) (c31 : PySem.W.codeIn K cd31 "Journey.move" = true) (k31 : PySem.W.keepIn K (.ref f31) = true)
    (a32 : PySem.W.findIn K (.ref C) "swap" = some (some (.ref f32))) (i32 : PySem.W.isFn K (.ref f32) = true)
    (l32 : K.lookup f32 = some ⟨oc32, od32, .func (PySem.W.fnOf "swap" "Journey.swap" (defArgs s_swap) (defBody s_swap) (defScope s_swap) .none kV32 dc32 pm32 an32 cd32 ct32), sl32⟩) (c32 : PySem.W.codeIn K cd32 "Journey.swap" = true) (k32 : PySem.W.keepIn K (.ref f32) = true)
    (a33 : PySem.W.findIn K (.ref C) "who" = some (some (.ref f33))) (i33 : PySem.W.isFn K (.ref f33) = true)
    (l33 : K.lookup f33 = some ⟨oc33, od33, .func (PySem.W.fnOf "who" "Journey.who" (defArgs s_who) (defBody s_who) (defScope s_who) .none kV33 dc33 pm33 an33 cd33 ct33), sl33⟩) (c33 : PySem.W.codeIn K cd33 "Journey.who" = true) (k33 : PySem.W.keepIn K (.ref f33) = true)
    (a34 : PySem.W.findIn K (.ref C) "weigh" = some (some (.ref f34))) (i34 : PySem.W.isFn K (.ref f34) = true)
    (l34 : K.lookup f34 = some ⟨oc34, od34, .func (PySem.W.fnOf "weigh" "Journey.weigh" (defArgs s_weigh) (defBody s_weigh) (defScope s_weigh) .none kV34 dc34 pm34 an34 cd34 ct34), sl34⟩) (c34 : PySem.W.codeIn K cd34 "Journey.weigh" = true) (k34 : PySem.W.keepIn K (.ref f34) = true)
    (a35 : PySem.W.findIn K (.ref C) "state" = some (some (.ref f35))) (i35 : PySem.W.isFn K (.ref f35) = true)
    (l35 : K.lookup f35 = some ⟨oc35, od35, .func (PySem.W.fnOf "state" "Journey.state" (defArgs s_state) (defBody s_state) (defScope s_state) .none kV35 dc35 pm35 an35 cd35 ct35), sl35⟩) (c35 : PySem.W.codeIn K cd35 "Journey.state" = true) (k35 : PySem.W.keepIn K (.ref f35) = true)
    (a36 : PySem.W.nsIn K mainGlobals "answer" = some (some (.ref f36)))
    (l36 : K.lookup f36 = some ⟨oc36, od36, .func (PySem.W.fnOf "answer" "answer" (defArgs s_answer) (defBody s_answer) (defScope s_answer) .none kV36 dc36 pm36 an36 cd36 ct36), sl36⟩) (c36 : PySem.W.codeIn K cd36 "answer" = true) (k36 : PySem.W.keepIn K (.ref f36) = true)
    (a37 : PySem.W.nsIn K mainGlobals "answers" = some (some (.ref f37)))
    (l37 : K.lookup f37 = some ⟨oc37, od37, .func (PySem.W.fnOf "answers" "answers" (defArgs s_answers) (defBody s_answers) (defScope s_answers) .none kV37 dc37 pm37 an37 cd37 ct37), sl37⟩) (c37 : PySem.W.codeIn K cd37 "answers" = true) (k37 : PySem.W.keepIn K (.ref f37) = true)
    (pg : PySem.W.plainGet K C Str.empty = true) (hd : PySem.W.hasDictIn K C = true) (po : PySem.W.plainOver K C = true) (sa : PySem.W.findIn K (.ref C) "__setattr__" = some (some (.builtin "object.__setattr__"))) (mk : PySem.W.makesIn K C = true) (kc : PySem.W.keepIn K (.ref C) = true)
    (n_pupils : PySem.W.findIn K (.ref C) "pupils" = some none)
    (n_rooms : PySem.W.findIn K (.ref C) "rooms" = some none)
    (n_wishes : PySem.W.findIn K (.ref C) "wishes" = some none)
    (n_bars : PySem.W.findIn K (.ref C) "bars" = some none)
    (n_pins : PySem.W.findIn K (.ref C) "pins" = some none)
    (n_filling : PySem.W.findIn K (.ref C) "filling" = some none)
    (c_MOST_ROOMS : PySem.W.nsIn K mainGlobals "MOST_ROOMS" = some (some (.int 4 k_MOST_ROOMS)))
    (c_ONE_CONTENT : PySem.W.nsIn K mainGlobals "ONE_CONTENT" = some (some (.int 4194304 k_ONE_CONTENT)))
    (c_ONE_FULFILLED : PySem.W.nsIn K mainGlobals "ONE_FULFILLED" = some (some (.int 65536 k_ONE_FULFILLED)))
    (c_MAY_NOT_BE : PySem.W.nsIn K mainGlobals "MAY_NOT_BE" = some (some (.int (-1099511627776) k_MAY_NOT_BE)))
    (c_BAR_BROKEN : PySem.W.nsIn K mainGlobals "BAR_BROKEN" = some (some (.int (-1) k_BAR_BROKEN)))
    (c_NOT_THERE : PySem.W.nsIn K mainGlobals "NOT_THERE" = some (some (.int (-2) k_NOT_THERE)))
    (c_NO_PLACE_LEFT : PySem.W.nsIn K mainGlobals "NO_PLACE_LEFT" = some (some (.int (-12) k_NO_PLACE_LEFT)))
    (c_PINNED_ELSEWHERE : PySem.W.nsIn K mainGlobals "PINNED_ELSEWHERE" = some (some (.int (-13) k_PINNED_ELSEWHERE)))
    (c_NOTHING_TO_CHANGE : PySem.W.nsIn K mainGlobals "NOTHING_TO_CHANGE" = some (some (.int (-17) k_NOTHING_TO_CHANGE)))
    (c_OUT_OF_RANGE : PySem.W.nsIn K mainGlobals "OUT_OF_RANGE" = some (some (.int (-22) k_OUT_OF_RANGE)))
    (c_TOO_FULL : PySem.W.nsIn K mainGlobals "TOO_FULL" = some (some (.int (-28) k_TOO_FULL)))
    (c_NO_WAY_TO_FILL : PySem.W.nsIn K mainGlobals "NO_WAY_TO_FILL" = some (some (.int (-33) k_NO_WAY_TO_FILL)))
    (c_NO_PLAN : PySem.W.nsIn K mainGlobals "NO_PLAN" = some (some (.int (-61) k_NO_PLAN)))
    (c_NO_FILLING : PySem.W.nsIn K mainGlobals "NO_FILLING" = some (some (.int (-61) k_NO_FILLING)))
    (c_MOST_PUPILS : PySem.W.nsIn K mainGlobals "MOST_PUPILS" = some (some (.int 8 k_MOST_PUPILS)))
    (c_MOST_BEDS : PySem.W.nsIn K mainGlobals "MOST_BEDS" = some (some (.int 8 k_MOST_BEDS)))
    (c_MOST_PAIRS : PySem.W.nsIn K mainGlobals "MOST_PAIRS" = some (some (.int 32 k_MOST_PAIRS)))
    (c_BEGIN : PySem.W.nsIn K mainGlobals "BEGIN" = some (some (.int 0 k_BEGIN)))
    (c_ROOM : PySem.W.nsIn K mainGlobals "ROOM" = some (some (.int 1 k_ROOM)))
    (c_BEDS : PySem.W.nsIn K mainGlobals "BEDS" = some (some (.int 2 k_BEDS)))
    (c_WISH : PySem.W.nsIn K mainGlobals "WISH" = some (some (.int 3 k_WISH)))
    (c_BAR : PySem.W.nsIn K mainGlobals "BAR" = some (some (.int 4 k_BAR)))
    (c_PIN : PySem.W.nsIn K mainGlobals "PIN" = some (some (.int 5 k_PIN)))
    (c_FILL : PySem.W.nsIn K mainGlobals "FILL" = some (some (.int 6 k_FILL)))
    (c_MOVE : PySem.W.nsIn K mainGlobals "MOVE" = some (some (.int 7 k_MOVE)))
    (c_SWAP : PySem.W.nsIn K mainGlobals "SWAP" = some (some (.int 8 k_SWAP)))
    (c_WHO : PySem.W.nsIn K mainGlobals "WHO" = some (some (.int 9 k_WHO)))
    (c_WEIGH : PySem.W.nsIn K mainGlobals "WEIGH" = some (some (.int 10 k_WEIGH)))
    (t_ONE_ROOM_BEHIND : PySem.W.nsIn K mainGlobals "ONE_ROOM_BEHIND" = some (some (.ref a_ONE_ROOM_BEHIND)))
    (u_ONE_ROOM_BEHIND : K.lookup a_ONE_ROOM_BEHIND = some ⟨.type "tuple", o_ONE_ROOM_BEHIND, .seq #[.int 16384 k_ONE_ROOM_BEHIND_0, .int 4096 k_ONE_ROOM_BEHIND_1, .int 1024 k_ONE_ROOM_BEHIND_2, .int 256 k_ONE_ROOM_BEHIND_3, .int 64 k_ONE_ROOM_BEHIND_4, .int 16 k_ONE_ROOM_BEHIND_5, .int 4 k_ONE_ROOM_BEHIND_6, .int 1 k_ONE_ROOM_BEHIND_7] m_ONE_ROOM_BEHIND, l_ONE_ROOM_BEHIND⟩)
    (t_NUMBERS_BEHIND : PySem.W.nsIn K mainGlobals "NUMBERS_BEHIND" = some (some (.ref a_NUMBERS_BEHIND)))
    (u_NUMBERS_BEHIND : K.lookup a_NUMBERS_BEHIND = some ⟨.type "tuple", o_NUMBERS_BEHIND, .seq #[.int 1 k_NUMBERS_BEHIND_0, .int 1 k_NUMBERS_BEHIND_1, .int 2 k_NUMBERS_BEHIND_2, .int 3 k_NUMBERS_BEHIND_3, .int 3 k_NUMBERS_BEHIND_4, .int 2 k_NUMBERS_BEHIND_5, .int 0 k_NUMBERS_BEHIND_6, .int 2 k_NUMBERS_BEHIND_7, .int 2 k_NUMBERS_BEHIND_8, .int 1 k_NUMBERS_BEHIND_9, .int 0 k_NUMBERS_BEHIND_10, .int 0 k_NUMBERS_BEHIND_11] m_NUMBERS_BEHIND, l_NUMBERS_BEHIND⟩)
    (b_all : PySem.W.nsIn K mainGlobals "all" = some none)
    (b_any : PySem.W.nsIn K mainGlobals "any" = some none)
    (b_enumerate : PySem.W.nsIn K mainGlobals "enumerate" = some none)
    (b_len : PySem.W.nsIn K mainGlobals "len" = some none)
    (b_list : PySem.W.nsIn K mainGlobals "list" = some none)
    (b_max : PySem.W.nsIn K mainGlobals "max" = some none)
    (b_min : PySem.W.nsIn K mainGlobals "min" = some none)
    (b_range : PySem.W.nsIn K mainGlobals "range" = some none)
    (b_sum : PySem.W.nsIn K mainGlobals "sum" = some none)
    (b_zip : PySem.W.nsIn K mainGlobals "zip" = some none)
    : ∃ fd : FuncData, (∀ (s : Shared) (us : List Value), us.length = (["calls"] : List Str).length → BindsTo s fd ⟨us, []⟩ ((["calls"] : List Str).zip us)) ∧ ∀ base : Heap, K.In base → base.Ns mainGlobals mg → FnOk P w K mg base CX0 60 fa fd ["calls"] (spAns K) := by
  have e := hfa.symm.trans (PySem.W.mg_of X G a37)
  cases e
  have F1 := fun_mk (st := s_keeps_to_pins) l1 c1 k1
  have b1 := F1.binds (ps := ["filling", "pins"]) fun _ _ _ _ _ _ us hl => match us, hl with | [_, _], _ => rfl
  have F2 := fun_mk (st := s_is_too_full) l2 c2 k2
  have b2 := F2.binds (ps := ["filling", "rooms"]) fun _ _ _ _ _ _ us hl => match us, hl with | [_, _], _ => rfl
  have F3 := fun_mk (st := s_count_together) l3 c3 k3
  have b3 := F3.binds (ps := ["filling", "pairs"]) fun _ _ _ _ _ _ us hl => match us, hl with | [_, _], _ => rfl
  have F4 := fun_mk (st := s_count_content) l4 c4 k4
  have b4 := F4.binds (ps := ["filling", "wishes"]) fun _ _ _ _ _ _ us hl => match us, hl with | [_, _], _ => rfl
  have F5 := fun_mk (st := s_group_sizes) l5 c5 k5
  have b5 := F5.binds (ps := ["pupils"]) fun _ _ _ _ _ _ us hl => match us, hl with | [_], _ => rfl
  have F6 := fun_mk (st := s_group_parts) l6 c6 k6
  have b6 := F6.binds (ps := ["pupils"]) fun _ _ _ _ _ _ us hl => match us, hl with | [_], _ => rfl
  have F7 := fun_mk (st := s_paired_with) l7 c7 k7
  have b7 := F7.binds (ps := ["pupils", "pairs"]) fun _ _ _ _ _ _ us hl => match us, hl with | [_, _], _ => rfl
  have F8 := fun_mk (st := s_worth_together) l8 c8 k8
  have b8 := F8.binds (ps := ["group", "wished", "barred", "sizes"]) fun _ _ _ _ _ _ us hl => match us, hl with | [_, _, _, _], _ => rfl
  have F9 := fun_mk (st := s_worth_of_order) l9 c9 k9
  have b9 := F9.binds (ps := ["group", "pupils"]) fun _ _ _ _ _ _ us hl => match us, hl with | [_, _], _ => rfl
  have F10 := fun_mk (st := s_pinned_to) l10 c10 k10
  have b10 := F10.binds (ps := ["pins", "room"]) fun _ _ _ _ _ _ us hl => match us, hl with | [_, _], _ => rfl
  have F11 := fun_mk (st := s_worths_in_rooms) l11 c11 k11
  have b11 := F11.binds (ps := ["rooms", "wishes", "bars", "pins"]) fun _ _ _ _ _ _ us hl => match us, hl with | [_, _, _, _], _ => rfl
  have F12 := fun_mk (st := s_best_split) l12 c12 k12
  have b12 := F12.binds (ps := ["group", "parts", "first", "second"]) fun _ _ _ _ _ _ us hl => match us, hl with | [_, _, _, _], _ => rfl
  have F13 := fun_mk (st := s_best_worth) l13 c13 k13
  have b13 := F13.binds (ps := ["worths", "parts"]) fun _ _ _ _ _ _ us hl => match us, hl with | [_, _], _ => rfl
  have F14 := fun_mk (st := s_filling_of_worth) l14 c14 k14
  have b14 := F14.binds (ps := ["worth", "pupils"]) fun _ _ _ _ _ _ us hl => match us, hl with | [_, _], _ => rfl
  have F15 := fun_mk (st := s_best_filling) l15 c15 k15
  have b15 := F15.binds (ps := ["rooms", "wishes", "bars", "pins"]) fun _ _ _ _ _ _ us hl => match us, hl with | [_, _, _, _], _ => rfl
  have F16 := fun_mk (st := s_tell_pair) l16 c16 k16
  have b16 := F16.binds (ps := ["pairs", "pair", "on"]) fun _ _ _ _ _ _ us hl => match us, hl with | [_, _, _], _ => rfl
  have F17 := fun_mk (st := s_init) l17 c17 k17
  have b17 := F17.binds (ps := ["self"]) fun _ _ _ _ _ _ us hl => match us, hl with | [_], _ => rfl
  have F18 := fun_mk (st := s_start_anew) l18 c18 k18
  have b18 := F18.binds (ps := ["self", "pupils"]) fun _ _ _ _ _ _ us hl => match us, hl with | [_, _], _ => rfl
  have F19 := fun_mk (st := s_has_filling) l19 c19 k19
  have b19 := F19.binds (ps := ["self"]) fun _ _ _ _ _ _ us hl => match us, hl with | [_], _ => rfl
  have F20 := fun_mk (st := s_filling_refusal) l20 c20 k20
  have b20 := F20.binds (ps := ["self", "filling"]) fun _ _ _ _ _ _ us hl => match us, hl with | [_, _], _ => rfl
  have F21 := fun_mk (st := s_look_anew) l21 c21 k21
  have b21 := F21.binds (ps := ["self"]) fun _ _ _ _ _ _ us hl => match us, hl with | [_], _ => rfl
  have F22 := fun_mk (st := s_begin) l22 c22 k22
  have b22 := F22.binds (ps := ["self", "pupils"]) fun _ _ _ _ _ _ us hl => match us, hl with | [_, _], _ => rfl
  have F23 := fun_mk (st := s_room) l23 c23 k23
  have b23 := F23.binds (ps := ["self", "beds"]) fun _ _ _ _ _ _ us hl => match us, hl with | [_, _], _ => rfl
  have F24 := fun_mk (st := s_beds) l24 c24 k24
  have b24 := F24.binds (ps := ["self", "room", "beds"]) fun _ _ _ _ _ _ us hl => match us, hl with | [_, _, _], _ => rfl
  have F25 := fun_mk (st := s_pair_refusal) l25 c25 k25
  have b25 := F25.binds (ps := ["self", "a", "b", "on"]) fun _ _ _ _ _ _ us hl => match us, hl with | [_, _, _, _], _ => rfl
  have F26 := fun_mk (st := s_wish) l26 c26 k26
  have b26 := F26.binds (ps := ["self", "a", "b", "on"]) fun _ _ _ _ _ _ us hl => match us, hl with | [_, _, _, _], _ => rfl
  have F27 := fun_mk (st := s_bar) l27 c27 k27
  have b27 := F27.binds (ps := ["self", "a", "b", "on"]) fun _ _ _ _ _ _ us hl => match us, hl with | [_, _, _, _], _ => rfl
  have F28 := fun_mk (st := s_pin) l28 c28 k28
  have b28 := F28.binds (ps := ["self", "a", "where"]) fun _ _ _ _ _ _ us hl => match us, hl with | [_, _, _], _ => rfl
  have F29 := fun_mk (st := s_fill) l29 c29 k29
  have b29 := F29.binds (ps := ["self"]) fun _ _ _ _ _ _ us hl => match us, hl with | [_], _ => rfl
  have F30 := fun_mk (st := s_change_filling) l30 c30 k30
  have b30 := F30.binds (ps := ["self", "filling"]) fun _ _ _ _ _ _ us hl => match us, hl with | [_, _], _ => rfl
  have F31 := fun_mk (st := s_move) l31 c31 k31
  have b31 := F31.binds (ps := ["self", "a", "room"]) fun _ _ _ _ _ _ us hl => match us, hl with | [_, _, _], _ => rfl
  have F32 := fun_mk (st := s_swap) l32 c32 k32
  have b32 := F32.binds (ps := ["self", "a", "b"]) fun _ _ _ _ _ _ us hl => match us, hl with | [_, _, _], _ => rfl
  have F33 := fun_mk (st := s_who) l33 c33 k33
  have b33 := F33.binds (ps := ["self", "room"]) fun _ _ _ _ _ _ us hl => match us, hl with | [_, _], _ => rfl
  have F34 := fun_mk (st := s_weigh) l34 c34 k34
  have b34 := F34.binds (ps := ["self"]) fun _ _ _ _ _ _ us hl => match us, hl with | [_], _ => rfl
  have F35 := fun_mk (st := s_state) l35 c35 k35
  have b35 := F35.binds (ps := ["self"]) fun _ _ _ _ _ _ us hl => match us, hl with | [_], _ => rfl
  have F36 := fun_mk (st := s_answer) l36 c36 k36
  have b36 := F36.binds (ps := ["journey", "call", "told"]) fun _ _ _ _ _ _ us hl => match us, hl with | [_, _, _], _ => rfl
  have F37 := fun_mk (st := s_answers) l37 c37 k37
  have b37 := F37.binds (ps := ["calls"]) fun _ _ _ _ _ _ us hl => match us, hl with | [_], _ => rfl
  have T : Txt K mg C := ⟨⟨pg, hd, po, sa⟩, n_pupils, n_rooms, n_wishes, n_bars, n_pins, n_filling, PySem.W.mg_of X G aC, ⟨_, PySem.W.mg_of X G c_MOST_ROOMS⟩, ⟨_, PySem.W.mg_of X G c_ONE_CONTENT⟩, ⟨_, PySem.W.mg_of X G c_ONE_FULFILLED⟩, ⟨_, PySem.W.mg_of X G c_MAY_NOT_BE⟩, ⟨_, PySem.W.mg_of X G c_BAR_BROKEN⟩, ⟨_, PySem.W.mg_of X G c_NOT_THERE⟩, ⟨_, PySem.W.mg_of X G c_NO_PLACE_LEFT⟩, ⟨_, PySem.W.mg_of X G c_PINNED_ELSEWHERE⟩, ⟨_, PySem.W.mg_of X G c_NOTHING_TO_CHANGE⟩, ⟨_, PySem.W.mg_of X G c_OUT_OF_RANGE⟩, ⟨_, PySem.W.mg_of X G c_TOO_FULL⟩, ⟨_, PySem.W.mg_of X G c_NO_WAY_TO_FILL⟩, ⟨_, PySem.W.mg_of X G c_NO_PLAN⟩, ⟨_, PySem.W.mg_of X G c_NO_FILLING⟩, ⟨_, PySem.W.mg_of X G c_MOST_PUPILS⟩, ⟨_, PySem.W.mg_of X G c_MOST_BEDS⟩, ⟨_, PySem.W.mg_of X G c_MOST_PAIRS⟩, ⟨_, PySem.W.mg_of X G c_BEGIN⟩, ⟨_, PySem.W.mg_of X G c_ROOM⟩, ⟨_, PySem.W.mg_of X G c_BEDS⟩, ⟨_, PySem.W.mg_of X G c_WISH⟩, ⟨_, PySem.W.mg_of X G c_BAR⟩, ⟨_, PySem.W.mg_of X G c_PIN⟩, ⟨_, PySem.W.mg_of X G c_FILL⟩, ⟨_, PySem.W.mg_of X G c_MOVE⟩, ⟨_, PySem.W.mg_of X G c_SWAP⟩, ⟨_, PySem.W.mg_of X G c_WHO⟩, ⟨_, PySem.W.mg_of X G c_WEIGH⟩, ⟨_, PySem.W.mg_of X G t_ONE_ROOM_BEHIND, fun H => .inr ⟨_, _, _, u_ONE_ROOM_BEHIND, rfl, rfl, (by show 8 ≤ sizeLine; decide), .cons ⟨_, rfl⟩ (.cons ⟨_, rfl⟩ (.cons ⟨_, rfl⟩ (.cons ⟨_, rfl⟩ (.cons ⟨_, rfl⟩ (.cons ⟨_, rfl⟩ (.cons ⟨_, rfl⟩ (.cons ⟨_, rfl⟩ (.nil))))))))⟩⟩, ⟨_, PySem.W.mg_of X G t_NUMBERS_BEHIND, fun H => .inr ⟨_, _, _, u_NUMBERS_BEHIND, rfl, rfl, (by show 12 ≤ sizeLine; decide), .cons ⟨_, rfl⟩ (.cons ⟨_, rfl⟩ (.cons ⟨_, rfl⟩ (.cons ⟨_, rfl⟩ (.cons ⟨_, rfl⟩ (.cons ⟨_, rfl⟩ (.cons ⟨_, rfl⟩ (.cons ⟨_, rfl⟩ (.cons ⟨_, rfl⟩ (.cons ⟨_, rfl⟩ (.cons ⟨_, rfl⟩ (.cons ⟨_, rfl⟩ (.nil))))))))))))⟩⟩, PySem.W.mg_none_of X G b_all, PySem.W.mg_none_of X G b_any, PySem.W.mg_none_of X G b_enumerate, PySem.W.mg_none_of X G b_len, PySem.W.mg_none_of X G b_list, PySem.W.mg_none_of X G b_max, PySem.W.mg_none_of X G b_min, PySem.W.mg_none_of X G b_range, PySem.W.mg_none_of X G b_sum, PySem.W.mg_none_of X G b_zip⟩
  have FF : Funs K mg C := ⟨⟨_, _, F1, b1, PySem.W.mg_of X G a1⟩, ⟨_, _, F2, b2, PySem.W.mg_of X G a2⟩, ⟨_, _, F3, b3, PySem.W.mg_of X G a3⟩, ⟨_, _, F4, b4, PySem.W.mg_of X G a4⟩, ⟨_, _, F5, b5, PySem.W.mg_of X G a5⟩, ⟨_, _, F6, b6, PySem.W.mg_of X G a6⟩, ⟨_, _, F7, b7, PySem.W.mg_of X G a7⟩, ⟨_, _, F8, b8, PySem.W.mg_of X G a8⟩, ⟨_, _, F9, b9, PySem.W.mg_of X G a9⟩, ⟨_, _, F10, b10, PySem.W.mg_of X G a10⟩, ⟨_, _, F11, b11, PySem.W.mg_of X G a11⟩, ⟨_, _, F12, b12, PySem.W.mg_of X G a12⟩, ⟨_, _, F13, b13, PySem.W.mg_of X G a13⟩, ⟨_, _, F14, b14, PySem.W.mg_of X G a14⟩, ⟨_, _, F15, b15, PySem.W.mg_of X G a15⟩, ⟨_, _, F16, b16, PySem.W.mg_of X G a16⟩, ⟨_, _, F17, b17, ⟨mk, a17, i17, kc⟩⟩, ⟨_, _, F18, b18, ⟨a18, i18, k18⟩⟩, ⟨_, _, F19, b19, ⟨a19, i19, k19⟩⟩, ⟨_, _, F20, b20, ⟨a20, i20, k20⟩⟩, ⟨_, _, F21, b21, ⟨a21, i21, k21⟩⟩, ⟨_, _, F22, b22, ⟨a22, i22, k22⟩⟩, ⟨_, _, F23, b23, ⟨a23, i23, k23⟩⟩, ⟨_, _, F24, b24, ⟨a24, i24, k24⟩⟩, ⟨_, _, F25, b25, ⟨a25, i25, k25⟩⟩, ⟨_, _, F26, b26, ⟨a26, i26, k26⟩⟩, ⟨_, _, F27, b27, ⟨a27, i27, k27⟩⟩, ⟨_, _, F28, b28, ⟨a28, i28, k28⟩⟩, ⟨_, _, F29, b29, ⟨a29, i29, k29⟩⟩, ⟨_, _, F30, b30, ⟨a30, i30, k30⟩⟩, ⟨_, _, F31, b31, ⟨a31, i31, k31⟩⟩, ⟨_, _, F32, b32, ⟨a32, i32, k32⟩⟩, ⟨_, _, F33, b33, ⟨a33, i33, k33⟩⟩, ⟨_, _, F34, b34, ⟨a34, i34, k34⟩⟩, ⟨_, _, F35, b35, ⟨a35, i35, k35⟩⟩, ⟨_, _, F36, b36, PySem.W.mg_of X G a36⟩⟩
  exact ⟨PySem.W.fnOf "answers" "answers" (defArgs s_answers) (defBody s_answers) (defScope s_answers) .none kV37 dc37 pm37 an37 cd37 ct37, fun s us hu => match us, hu with | [_], _ => .of_eq rfl, fun base _ _ => ok_entry F37 T FF⟩
end Rs
open PySem PySem.W PyProof.Rows
set_option maxRecDepth 100000 in
set_option maxHeartbeats 0 in
theorem PySem.Challenge.cw_roomsharedesk_s01_answers_holds : PySem.Challenge.rw_roomsharedesk_s01_answers.Holds := by
  w_on; k_headS; (case hw => exact ⟨[.list [.int 11]], by decide +kernel, by decide +kernel⟩)
  k_fillS
  refine L2.walk_specK (r := PySem.Challenge.rw_roomsharedesk_s01_answers) (k := 60) (CX := L2.CX0) (ps := ["calls"]) (sp := Rs.spAns) (by decide +kernel) rfl rfl ⟨rfl, by decide, by decide⟩ (fun w h Y => PySem.W.kIn_of Y) ?F ?S (fun _ _ _ _ z => z)
  case F =>
    intro w mg fa h Y KX G hmg
    refine' Rs.all_mk KX G hmg ?aC ?a1 ?l1 ?c1 ?k1 ?a2 ?l2 ?c2 ?k2 ?a3 ?l3 ?c3 ?k3 ?a4 ?l4 ?c4 ?k4 ?a5 ?l5 ?c5 ?k5 ?a6 ?l6 ?c6 ?k6 ?a7 ?l7 ?c7 ?k7 ?a8 ?l8 ?c8 ?k8 ?a9 ?l9 ?c9 ?k9 ?a10 ?l10 ?c10 ?k10 ?a11 ?l11 ?c11 ?k11 ?a12 ?l12 ?c12 ?k12 ?a13 ?l13 ?c13 ?k13 ?a14 ?l14 ?c14 ?k14 ?a15 ?l15 ?c15 ?k15 ?a16 ?l16 ?c16 ?k16 ?a17 ?i17 ?l17 ?c17 ?k17 ?a18 ?i18 ?l18 ?c18 ?k18 ?a19 ?i19 ?l19 ?c19 ?k19 ?a20 ?i20 ?l20 ?c20 ?k20 ?a21 ?i21 ?l21 ?c21 ?k21 ?a22 ?i22 ?l22 ?c22 ?k22 ?a23 ?i23 ?l23 ?c23 ?k23 ?a24 ?i24 ?l24 ?c24 ?k24 ?a25 ?i25 ?l25 ?c25 ?k25 ?a26 ?i26 ?l26 ?c26 ?k26 ?a27 ?i27 ?l27 ?c27 ?k27 ?a28 ?i28 ?l28 ?c28 ?k28 ?a29 ?i29 ?l29 ?c29 ?k29 ?a30 ?i30 ?l30 ?c30 ?k30 ?a31 ?i31 ?l31 ?c31 ?k31 ?a32 ?i32 ?l32 ?c32 ?k32 ?a33 ?i33 ?l33 ?c33 ?k33 ?a34 ?i34 ?l34 ?c34 ?k34 ?a35 ?i35 ?l35 ?c35 ?k35 ?a36 ?l36 ?c36 ?k36 ?a37 ?l37 ?c37 ?k37 ?pg ?hd ?po ?sa ?mk ?kc ?n_pupils ?n_rooms ?n_wishes ?n_bars ?n_pins ?n_filling ?c_MOST_ROOMS ?c_ONE_CONTENT ?c_ONE_FULFILLED ?c_MAY_NOT_BE ?c_BAR_BROKEN ?c_NOT_THERE ?c_NO_PLACE_LEFT ?c_PINNED_ELSEWHERE ?c_NOTHING_TO_CHANGE ?c_OUT_OF_RANGE ?c_TOO_FULL ?c_NO_WAY_TO_FILL ?c_NO_PLAN ?c_NO_FILLING ?c_MOST_PUPILS ?c_MOST_BEDS ?c_MOST_PAIRS ?c_BEGIN ?c_ROOM ?c_BEDS ?c_WISH ?c_BAR ?c_PIN ?c_FILL ?c_MOVE ?c_SWAP ?c_WHO ?c_WEIGH ?t_ONE_ROOM_BEHIND ?u_ONE_ROOM_BEHIND ?t_NUMBERS_BEHIND ?u_NUMBERS_BEHIND ?b_all ?b_any ?b_enumerate ?b_len ?b_list ?b_max ?b_min ?b_range ?b_sum ?b_zip
    (case aC => k_is)
    (case a1 => k_is)
    (case l1 => k_is)
    (case c1 => k_is)
    (case k1 => k_is)
    (case a2 => k_is)
    (case l2 => k_is)
    (case c2 => k_is)
    (case k2 => k_is)
    (case a3 => k_is)
    (case l3 => k_is)
    (case c3 => k_is)
    (case k3 => k_is)
    (case a4 => k_is)
    (case l4 => k_is)
    (case c4 => k_is)
    (case k4 => k_is)
    (case a5 => k_is)
    (case l5 => k_is)
    (case c5 => k_is)
    (case k5 => k_is)
    (case a6 => k_is)
    (case l6 => k_is)
    (case c6 => k_is)
    (case k6 => k_is)
    (case a7 => k_is)
    (case l7 => k_is)
    (case c7 => k_is)
    (case k7 => k_is)
    (case a8 => k_is)
    (case l8 => k_is)
    (case c8 => k_is)
    (case k8 => k_is)
    (case a9 => k_is)
    (case l9 => k_is)
    (case c9 => k_is)
    (case k9 => k_is)
    (case a10 => k_is)
    (case l10 => k_is)
    (case c10 => k_is)
    (case k10 => k_is)
    (case a11 => k_is)
    (case l11 => k_is)
    (case c11 => k_is)
    (case k11 => k_is)
    (case a12 => k_is)
    (case l12 => k_is)
    (case c12 => k_is)
    (case k12 => k_is)
    (case a13 => k_is)
    (case l13 => k_is)
    (case c13 => k_is)
    (case k13 => k_is)
    (case a14 => k_is)
    (case l14 => k_is)
    (case c14 => k_is)
    (case k14 => k_is)
    (case a15 => k_is)
    (case l15 => k_is)
    (case c15 => k_is)
    (case k15 => k_is)
    (case a16 => k_is)
    (case l16 => k_is)
    (case c16 => k_is)
    (case k16 => k_is)
    (case a17 => k_is)
    (case i17 => k_is)
    (case l17 => k_is)
    (case c17 => k_is)
    (case k17 => k_is)
    (case a18 => k_is)
    (case i18 => k_is)
    (case l18 => k_is)
    (case c18 => k_is)
    (case k18 => k_is)
    (case a19 => k_is)
    (case i19 => k_is)
    (case l19 => k_is)
    (case c19 => k_is)
    (case k19 => k_is)
    (case a20 => k_is)
    (case i20 => k_is)
    (case l20 => k_is)
    (case c20 => k_is)
    (case k20 => k_is)
    (case a21 => k_is)
    (case i21 => k_is)
    (case l21 => k_is)
    (case c21 => k_is)
    (case k21 => k_is)
    (case a22 => k_is)
    (case i22 => k_is)
    (case l22 => k_is)
    (case c22 => k_is)
    (case k22 => k_is)
    (case a23 => k_is)
    (case i23 => k_is)
    (case l23 => k_is)
    (case c23 => k_is)
    (case k23 => k_is)
    (case a24 => k_is)
    (case i24 => k_is)
    (case l24 => k_is)
    (case c24 => k_is)
    (case k24 => k_is)
    (case a25 => k_is)
    (case i25 => k_is)
    (case l25 => k_is)
    (case c25 => k_is)
    (case k25 => k_is)
    (case a26 => k_is)
    (case i26 => k_is)
    (case l26 => k_is)
    (case c26 => k_is)
    (case k26 => k_is)
    (case a27 => k_is)
    (case i27 => k_is)
    (case l27 => k_is)
    (case c27 => k_is)
    (case k27 => k_is)
    (case a28 => k_is)
    (case i28 => k_is)
    (case l28 => k_is)
    (case c28 => k_is)
    (case k28 => k_is)
    (case a29 => k_is)
    (case i29 => k_is)
    (case l29 => k_is)
    (case c29 => k_is)
    (case k29 => k_is)
    (case a30 => k_is)
    (case i30 => k_is)
    (case l30 => k_is)
    (case c30 => k_is)
    (case k30 => k_is)
    (case a31 => k_is)
    (case i31 => k_is)
    (case l31 => k_is)
    (case c31 => k_is)
    (case k31 => k_is)
    (case a32 => k_is)
    (case i32 => k_is)
    (case l32 => k_is)
    (case c32 => k_is)
    (case k32 => k_is)
    (case a33 => k_is)
    (case i33 => k_is)
    (case l33 => k_is)
    (case c33 => k_is)
    (case k33 => k_is)
    (case a34 => k_is)
    (case i34 => k_is)
    (case l34 => k_is)
    (case c34 => k_is)
    (case k34 => k_is)
    (case a35 => k_is)
    (case i35 => k_is)
    (case l35 => k_is)
    (case c35 => k_is)
    (case k35 => k_is)
    (case a36 => k_is)
    (case l36 => k_is)
    (case c36 => k_is)
    (case k36 => k_is)
    (case a37 => k_is)
    (case l37 => k_is)
    (case c37 => k_is)
    (case k37 => k_is)
    (case pg => k_is)
    (case hd => k_is)
    (case po => k_is)
    (case sa => k_is)
    (case mk => k_is)
    (case kc => k_is)
    (case n_pupils => k_is)
    (case n_rooms => k_is)
    (case n_wishes => k_is)
    (case n_bars => k_is)
    (case n_pins => k_is)
    (case n_filling => k_is)
    (case c_MOST_ROOMS => k_is)
    (case c_ONE_CONTENT => k_is)
    (case c_ONE_FULFILLED => k_is)
    (case c_MAY_NOT_BE => k_is)
    (case c_BAR_BROKEN => k_is)
    (case c_NOT_THERE => k_is)
    (case c_NO_PLACE_LEFT => k_is)
    (case c_PINNED_ELSEWHERE => k_is)
    (case c_NOTHING_TO_CHANGE => k_is)
    (case c_OUT_OF_RANGE => k_is)
    (case c_TOO_FULL => k_is)
    (case c_NO_WAY_TO_FILL => k_is)
    (case c_NO_PLAN => k_is)
    (case c_NO_FILLING => k_is)
    (case c_MOST_PUPILS => k_is)
    (case c_MOST_BEDS => k_is)
    (case c_MOST_PAIRS => k_is)
    (case c_BEGIN => k_is)
    (case c_ROOM => k_is)
    (case c_BEDS => k_is)
    (case c_WISH => k_is)
    (case c_BAR => k_is)
    (case c_PIN => k_is)
    (case c_FILL => k_is)
    (case c_MOVE => k_is)
    (case c_SWAP => k_is)
    (case c_WHO => k_is)
    (case c_WEIGH => k_is)
    (case t_ONE_ROOM_BEHIND => k_is)
    (case u_ONE_ROOM_BEHIND => k_is)
    (case t_NUMBERS_BEHIND => k_is)
    (case u_NUMBERS_BEHIND => k_is)
    (case b_all => k_is)
    (case b_any => k_is)
    (case b_enumerate => k_is)
    (case b_len => k_is)
    (case b_list => k_is)
    (case b_max => k_is)
    (case b_min => k_is)
    (case b_range => k_is)
    (case b_sum => k_is)
    (case b_zip => k_is)
  case S =>
    intro K H xs a hO hwi hask hx
    exact Rs.req K H xs a hwi hask hx
#print axioms PySem.Challenge.cw_roomsharedesk_s01_answers_holds
