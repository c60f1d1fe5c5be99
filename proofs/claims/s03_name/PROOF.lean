import PyProof.Rows.All
import Wide.All
import OpenK.AllK
import Wide.FinOn
import PyProof.EqAt
import PyProof.EqKinds
import PyProof.TupleCall
import KE.BitLaws
import Open.SpecLaws
import KE.OsHead
import KE.OsGo
import PySem.Challenge.RW_signlists_s03_name
section
set_option Elab.async false
set_option linter.all false
set_option maxRecDepth 100000
namespace L2
open PySem PySem.Spec PyProof.Rows

abbrev Key := Sum Int Str
def keyIs : Key → Value → Bool
  | .inl k, v => Value.isInt k v
  | .inr x, v => Value.isStrOf x v
def keyH (w : World) : Key → Int
  | .inl k => hashInt k
  | .inr x => hashStr w x
theorem keyIs_shape : ∀ {k : Key} {v : Value}, keyIs k v = true → (∃ i t, k = Sum.inl i ∧ v = Value.int i t) ∨ (∃ x t, k = Sum.inr x ∧ v = Value.str x t)
  | .inl i, v, h => by
    obtain ⟨t, e⟩ := Value.isInt_shape (k := i) (v := v) h
    exact .inl ⟨i, t, rfl, e⟩
  | .inr x, v, h => by
    obtain ⟨t, e⟩ := Value.isStrOf_shape (x := x) (v := v) h
    exact .inr ⟨x, t, rfl, e⟩
theorem key_ll (a b : Int) : decide ((Sum.inl a : Key) = Sum.inl b) = (a == b) := by
  by_cases e : a = b
  · subst e; simp
  · have h : ¬ (Sum.inl a : Key) = Sum.inl b := fun q => e (Sum.inl.inj q)
    rw [decide_eq_false h]
    exact (beq_eq_false_iff_ne.mpr e).symm
theorem key_rr (a b : Str) : decide ((Sum.inr a : Key) = Sum.inr b) = decide (a = b) := by
  by_cases e : a = b
  · subst e; simp
  · have h : ¬ (Sum.inr a : Key) = Sum.inr b := fun q => e (Sum.inr.inj q)
    rw [decide_eq_false h, decide_eq_false e]
theorem key_lr (a : Int) (b : Str) : decide ((Sum.inl a : Key) = Sum.inr b) = false := decide_eq_false (fun q => nomatch q)
theorem key_rl (a : Str) (b : Int) : decide ((Sum.inr a : Key) = Sum.inl b) = false := decide_eq_false (fun q => nomatch q)

def mixKind (prog : Program) (w : World) : PySem.KeyKind prog w Key where
  is := keyIs
  hash := keyH w
  inj := fun v a b ha hb => by
    rcases keyIs_shape ha with ⟨i, t, rfl, rfl⟩ | ⟨x, t, rfl, rfl⟩
    · rcases keyIs_shape hb with ⟨j, u, rfl, e⟩ | ⟨y, u, rfl, e⟩
      · injection e with e1 _; rw [e1]
      · exact nomatch e
    · rcases keyIs_shape hb with ⟨j, u, rfl, e⟩ | ⟨y, u, rfl, e⟩
      · exact nomatch e
      · injection e with e1 _; rw [e1]
  byValue := fun k v h => by
    rcases keyIs_shape h with ⟨i, t, rfl, rfl⟩ | ⟨x, t, rfl, rfl⟩ <;> rfl
  pyHash := fun hv h => by
    rcases keyIs_shape hv with ⟨i, t, rfl, rfl⟩ | ⟨x, t, rfl, rfl⟩
    · exact wpAny_pyHash_int h
    · exact wpAny_pyHash_str h
  eqBool := fun hu hv h => by
    rcases keyIs_shape hu with ⟨i, t, rfl, rfl⟩ | ⟨x, t, rfl, rfl⟩
    · rcases keyIs_shape hv with ⟨j, u, rfl, rfl⟩ | ⟨y, u, rfl, rfl⟩
      · rw [key_ll] at h; exact wpAny_eqBool_int h
      · rw [key_lr] at h; exact SeqAt.EqAt.int_str i t y u _ _ _ _ h
    · rcases keyIs_shape hv with ⟨j, u, rfl, rfl⟩ | ⟨y, u, rfl, rfl⟩
      · rw [key_rl] at h; exact SeqAt.EqAt.str_int x t j u _ _ _ _ h
      · rw [key_rr] at h; exact wpAny_eqBool_str h
  «strs» := fun k x t v h => by
    rcases keyIs_shape h with ⟨i, u, rfl, e⟩ | ⟨y, u, rfl, e⟩
    · exact nomatch e
    · injection e with e1 _
      subst e1
      cases v <;> rfl

end L2

namespace L2
open PySem PySem.Spec PyProof.Rows

inductive V where
  | non | bl (b : Bool) | int (i : Int) | str (x : Str) | byt (b : Array UInt8) | flt (b : UInt64) | ref (a : Addr) | ty (n : String)
  deriving DecidableEq

def RelV : V → Value → Prop
  | .non, u => u = Value.none
  | .bl b, u => u = Value.bool b
  | .int i, u => ∃ t, u = Value.int i t
  | .str x, u => ∃ t, u = Value.str x t
  | .byt b, u => ∃ t, u = Value.bytes b t
  | .flt b, u => ∃ t, u = Value.float b t
  | .ref a, u => u = Value.ref a
  | .ty n, u => u = Value.type n

abbrev Vals : List V → List Value → Prop := Paired RelV
theorem Vals.length {xs : List V} {us : List Value} (r : Vals xs us) : xs.length = us.length := Paired.length r
theorem Vals.get : ∀ {xs : List V} {us : List Value} {i : Nat} {x : V}, Vals xs us → xs[i]? = some x → ∃ u, us[i]? = some u ∧ RelV x u
  | _, _, _, _, .nil, e => by simp at e
  | _, _, 0, _, .cons r _, e => by simp at e; subst e; exact ⟨_, rfl, r⟩
  | _, _, i + 1, x, .cons _ t, e => by
    obtain ⟨u, h1, h2⟩ := Vals.get (i := i) (x := x) t (by simpa using e)
    exact ⟨u, by simpa using h1, h2⟩
theorem Vals.append : ∀ {xs ys : List V} {us ws : List Value}, Vals xs us → Vals ys ws → Vals (xs ++ ys) (us ++ ws)
  | _, _, _, _, .nil, s => s
  | _, _, _, _, .cons r t, s => .cons r (Vals.append t s)
theorem Vals.take : ∀ {xs : List V} {us : List Value} (n : Nat), Vals xs us → Vals (xs.take n) (us.take n)
  | _, _, 0, _ => .nil
  | _, _, _ + 1, .nil => .nil
  | _, _, n + 1, .cons r t => .cons r (Vals.take n t)
theorem Vals.drop : ∀ {xs : List V} {us : List Value} (n : Nat), Vals xs us → Vals (xs.drop n) (us.drop n)
  | _, _, 0, r => r
  | _, _, _ + 1, .nil => .nil
  | _, _, n + 1, .cons _ t => Vals.drop n t
def RelO : Option V → Option Value → Prop
  | some v, some u => RelV v u
  | none, none => True
  | _, _ => False
def KV {κ : Type} : List (κ × V) → List (κ × Value) → Prop := Paired fun (p : κ × V) (q : κ × Value) => p.1 = q.1 ∧ RelV p.2 q.2

def kV : Key → V
  | .inl i => .int i
  | .inr x => .str x

inductive HO where
  /-- a list -/
  | lst (xs : List V)
  /-- a tuple (never changes) -/
  | tup (xs : List V)
  /-- a dict whose keys are ints and texts; one whose keys are tuples of ints and texts (the empty one is both) -/
  | dK (kvs : List (Key × V)) | dT (kvs : List (List Key × V))
  /-- a set of ints: its members, its size -/
  | set (S : Int → Bool) (n : Nat)
  /-- an instance of the class at C, its dict at dx, its attributes -/
  | ins (C dx : Addr) (fs : List (Str × V))
  /-- the dict of the instance at x -/
  | own (x : Addr)
  /-- the dict of an exception -/
  | xd (fs : List (Str × V))
  /-- a bound method, f of x -/
  | met (f x : Addr)
  /-- a range object lo, lo + 1, .. below hi -/
  | rng (lo hi : Int)
  /-- a thing that is known to the object (the script; a dict while a loop walks it): read, never written while it is so -/
  | frz (o : Obj) (u : HO)
  /-- a code object's table -/
  | tbl (ps : Array Value)
  /-- any other thing, by what is true of its one object (a def of one's own: SetO a S n := HO.ext fun h => ..) -/
  | ext (φ : Heap → Prop)

abbrev Hp := Addr → Option HO
def upd (H : Hp) (a : Addr) (o : HO) : Hp := fun b => if b = a then some o else H b
theorem upd_same {H : Hp} {a : Addr} {o : HO} : upd H a o a = some o := by unfold upd; rw [if_pos rfl]
theorem upd_ne {H : Hp} {a b : Addr} {o : HO} (h : b ≠ a) : upd H a o b = H b := by unfold upd; rw [if_neg h]
theorem upd_upd {H : Hp} {a : Addr} {o u : HO} : upd (upd H a o) a u = upd H a u := by
  funext b; unfold upd; split <;> rfl
theorem ne_of {H : Hp} {a b : Addr} {o u : HO} (h : H a = some o) (h' : H b = some u) (d : o ≠ u) : a ≠ b := by
  intro e; subst e; rw [h] at h'; exact d (Option.some.inj h')
theorem ne_of_none {H : Hp} {a b : Addr} {o : HO} (h : H a = some o) (h' : H b = none) : a ≠ b := by
  intro e; subst e; rw [h] at h'; cases h'

section
variable (P : Program) (w : World)
def ObjOk (H : Hp) (h : Heap) (a : Addr) : HO → Prop
  | .lst xs => xs.length ≤ sizeLine ∧ ∃ (its : List Value) (n : Nat), Vals xs its ∧ h.get? a = some { cls := .type "list", data := .seq its.toArray n }
  | .tup xs => xs.length ≤ sizeLine ∧ ∃ its : List Value, Vals xs its ∧ IsTup h a its.toArray
  | .dK kvs => kvs.length ≤ sizeLine ∧ (a == sysModules) = false ∧ ∃ vs, KV kvs vs ∧ h.DictOf (mixKind P w) a vs
  | .dT kvs => kvs.length ≤ sizeLine ∧ (a == sysModules) = false ∧ ∃ xs : List (List Key × Addr × Value),
      Paired (fun (p : List Key × V) (q : List Key × Addr × Value) => p.1 = q.1 ∧ H q.2.1 = some (.tup (p.1.map kV)) ∧ RelV p.2 q.2.2) kvs xs ∧
      ∃ o es ep, h.get? a = some o ∧ o.ExactDict ∧ o.data = .dict es ep ∧ es.toList = xs.map (entryOfKey (tupleKind (mixKind P w))) ∧ (xs.map (·.1)).Nodup
  | .set S n => h.SetOf (intKind P w) a S n
  | .ins C dx fs => H dx = some (.own a) ∧ fs.length ≤ 1000 ∧ dx ≠ a ∧ h.get? a = some (PySem.W.instObj C dx) ∧
      ∃ mA, h.Ns1 dx mA ∧ (∀ f, RelO (fs.lookup f) (mA f)) ∧ PySem.Within mA (fs.map (·.1))
  | .own _ => ∃ o, h.get? a = some o
  | .xd fs => ∃ mA, h.Ns1 a mA ∧ ∀ f, RelO (fs.lookup f) (mA f)
  | .rng lo hi => ∃ t u v, h.get? a = some { cls := .type "range", data := .fields #[.int lo t, .int hi u, .int 1 v] }
  | .frz o u => h.get? a = some o ∧ ObjOk H h a u
  | .tbl ps => h.get? a = some { cls := .none, data := .fields ps }
  | .met f x => h.get? a = some (PySem.W.methodObj (.ref f) (.ref x))
  | .ext φ => φ h ∧ (∃ o, h.get? a = some o) ∧ ∀ h1 h2 : Heap, φ h1 → (∀ o, h1.get? a = some o → h2.get? a = some o) → φ h2
def HOk (H : Hp) (h : Heap) : Prop := ∀ a o, H a = some o → ObjOk P w H h a o
end

section
variable {P : Program} {w : World} {H H' : Hp} {h h' : Heap} {a : Addr} {o : HO}
theorem ObjOk.lt (x : ObjOk P w H h a o) : a < h.objs.size := by
  cases o with
  | lst xs => obtain ⟨_, _, _, _, e⟩ := x; exact Heap.lt_size e
  | tup xs => obtain ⟨_, _, _, p⟩ := x; exact p.lt
  | dK kvs => obtain ⟨_, _, _, _, o, _, _, e, _⟩ := x; exact Heap.lt_size e
  | dT kvs => obtain ⟨_, _, _, _, o, _, _, e, _⟩ := x; exact Heap.lt_size e
  | set S n => obtain ⟨o, _, _, _, e, _⟩ := x; exact Heap.lt_size e
  | ins C dx fs => obtain ⟨_, _, _, e, _⟩ := x; exact Heap.lt_size e
  | own y => obtain ⟨_, e⟩ := x; exact Heap.lt_size e
  | xd fs => obtain ⟨_, ⟨_, _, _, e, _⟩, _⟩ := x; exact Heap.lt_size e
  | rng lo hi => obtain ⟨_, _, _, e⟩ := x; exact Heap.lt_size e
  | frz ob u => obtain ⟨e, _⟩ := x; exact Heap.lt_size e
  | tbl ps => exact Heap.lt_size (show h.get? a = some _ from x)
  | met f y => exact Heap.lt_size (show h.get? a = some _ from x)
  | ext φ => obtain ⟨_, ⟨_, e⟩, _⟩ := x; exact Heap.lt_size e
theorem Paired.mapP {α β : Type} {F G : α → β → Prop} : ∀ {l₁ : List α} {l₂ : List β}, Paired F l₁ l₂ → (∀ a b, F a b → G a b) → Paired G l₁ l₂
  | _, _, .nil, _ => .nil
  | _, _, .cons r t, f => .cons (f _ _ r) (Paired.mapP t f)
theorem ObjOk.stay (x : ObjOk P w H h a o) (k : ∀ b u, (b = a ∨ H b = some (.own a)) → h.get? b = some u → h'.get? b = some u)
    (ho : ∀ b, H b = some (.own a) → H' b = some (.own a)) (ht : ∀ b xs, H b = some (.tup xs) → H' b = some (.tup xs)) : ObjOk P w H' h' a o := by
  induction o with
  | lst xs => obtain ⟨z, its, n, r, e⟩ := x; exact ⟨z, its, n, r, k _ _ (.inl rfl) e⟩
  | tup xs => obtain ⟨z, its, r, ob, e, c⟩ := x; exact ⟨z, its, r, ob, k _ _ (.inl rfl) e, c⟩
  | dK kvs => obtain ⟨z, y, vs, r, ob, es, ep, e, c⟩ := x; exact ⟨z, y, vs, r, ob, es, ep, k _ _ (.inl rfl) e, c⟩
  | dT kvs =>
    obtain ⟨z, y, xs, r, ob, es, ep, e, c⟩ := x
    exact ⟨z, y, xs, Paired.mapP r fun p q z => ⟨z.1, ht _ _ z.2.1, z.2.2⟩, ob, es, ep, k _ _ (.inl rfl) e, c⟩
  | set S n => obtain ⟨ob, es, ep, t, e, c⟩ := x; exact ⟨ob, es, ep, t, k _ _ (.inl rfl) e, c⟩
  | ins C dx fs =>
    obtain ⟨d, z, ne, e, mA, ⟨od, es, ep, e2, c⟩, r⟩ := x
    exact ⟨ho _ d, z, ne, k _ _ (.inl rfl) e, mA, ⟨od, es, ep, k _ _ (.inr d) e2, c⟩, r⟩
  | own y => obtain ⟨ob, e⟩ := x; exact ⟨ob, k _ _ (.inl rfl) e⟩
  | xd fs => obtain ⟨mA, ⟨od, es, ep, e, c⟩, r⟩ := x; exact ⟨mA, ⟨od, es, ep, k _ _ (.inl rfl) e, c⟩, r⟩
  | rng lo hi => obtain ⟨t, u, v, e⟩ := x; exact ⟨t, u, v, k _ _ (.inl rfl) e⟩
  | frz ob u ih => obtain ⟨e, q⟩ := x; exact ⟨k _ _ (.inl rfl) e, ih q⟩
  | tbl ps =>
    have e : h.get? a = some { cls := .none, data := .fields ps } := x
    show h'.get? a = some { cls := .none, data := .fields ps }
    exact k a _ (.inl rfl) e
  | met f y =>
    have e : h.get? a = some (PySem.W.methodObj (.ref f) (.ref y)) := x
    show h'.get? a = some (PySem.W.methodObj (.ref f) (.ref y))
    exact k a _ (.inl rfl) e
  | ext φ => obtain ⟨p, ⟨o, e⟩, st⟩ := x; exact ⟨st _ _ p fun o q => k _ _ (.inl rfl) q, ⟨o, k _ _ (.inl rfl) e⟩, st⟩
theorem HOk.lt (x : HOk P w H h) (e : H a = some o) : a < h.objs.size := (x a o e).lt
theorem HOk.fresh (x : HOk P w H h) (e : h.objs.size ≤ a) : H a = none := by
  cases q : H a with
  | none => rfl
  | some u => exact absurd (Nat.lt_of_lt_of_le (x.lt q) e) (Nat.lt_irrefl _)
theorem HOk.kept (x : HOk P w H h) (k : ∀ b u, h.get? b = some u → h'.get? b = some u) : HOk P w H h' := fun a o e =>
  (x a o e).stay (fun b u _ q => k b u q) (fun _ q => q) fun _ _ q => q
theorem HOk.laid (x : HOk P w H h) (k : ∀ b u, h.get? b = some u → h'.get? b = some u) (hp : h.objs.size ≤ a) (new : ObjOk P w (upd H a o) h' a o) : HOk P w (upd H a o) h' := fun b u e => by
  have hn := x.fresh hp
  by_cases hb : b = a
  · subst hb; rw [upd_same] at e; cases e; exact new
  · rw [upd_ne hb] at e
    exact (x b u e).stay (fun c v _ q => k c v q) (fun c q => by rw [upd_ne (ne_of_none q hn)]; exact q) fun c xs q => by rw [upd_ne (ne_of_none q hn)]; exact q
end

def Rd (H : Hp) (a : Addr) (u : HO) : Prop := H a = some u ∨ ∃ o, H a = some (.frz o u)
theorem Rd.ok {P : Program} {w : World} {H : Hp} {h : Heap} {a : Addr} {u : HO} (r : Rd H a u) (x : HOk P w H h) : ObjOk P w H h a u := by
  rcases r with r | ⟨o, r⟩
  · exact x a u r
  · obtain ⟨_, q⟩ := x a _ r
    exact q
def Mut : Option HO → Prop
  | some (.lst _) => True
  | some (.dK _) => True
  | some (.dT _) => True
  | some (.set _ _) => True
  | some (.ins _ _ _) => True
  | some (.ext _) => True
  | _ => False
section
variable {P : Program} {w : World} {H : Hp} {h h' : Heap} {x e : Addr} {o' : HO}
theorem HOk.write (ok : HOk P w H h) (mu : Mut (H x)) (he : e = x ∨ H e = some (.own x)) (k : ∀ b u, b ≠ e → h.get? b = some u → h'.get? b = some u) (heo : ∃ u, h'.get? e = some u)
    (new : ObjOk P w (upd H x o') h' x o') : HOk P w (upd H x o') h' := fun b u q => by
  have nown : ∀ c y, H c = some (.own y) → c ≠ x := fun c y r z => by subst z; rw [r] at mu; exact mu
  have ntup : ∀ c xs, H c = some (.tup xs) → c ≠ x := fun c xs r z => by subst z; rw [r] at mu; exact mu
  by_cases hb : b = x
  · subst hb; rw [upd_same] at q; cases q; exact new
  · rw [upd_ne hb] at q
    by_cases hbe : b = e
    · have q' : H b = some (.own x) := by
        rcases he with z | z
        · exact absurd (hbe.trans z) hb
        · rw [hbe]; exact z
      rw [q] at q'; cases q'
      obtain ⟨v, hv⟩ := heo
      exact ⟨v, by rw [hbe]; exact hv⟩
    · refine (ok b u q).stay (fun c v hc r => k c v ?_ r) (fun c r => by rw [upd_ne (nown c b r)]; exact r) fun c xs r => by rw [upd_ne (ntup c xs r)]; exact r
      rcases hc with rfl | hc
      · exact hbe
      · rintro rfl
        rcases he with z | z
        · exact nown c b hc z
        · rw [hc] at z; cases z; exact hb rfl
end

structure Un (fs ex : List Addr) (H H' : Hp) (h h' : Heap) : Prop where
  keep : ∀ b o, h.get? b = some o → H b = none → b ∉ fs → b ∉ ex → h'.get? b = some o
  slot : ∀ b o, h.get? b = some o → H b = none → b ∈ fs → b ∉ ex → ∃ sl, h'.get? b = some { o with slots := sl }
  free : ∀ b o, h.get? b = some o → H b = none → b ∉ ex → H' b = none
  there : ∀ b o, h.get? b = some o → b ∉ ex → ∃ o', h'.get? b = some o'
  tups : ∀ b xs, H b = some (.tup xs) → H' b = some (.tup xs)
  frzs : ∀ b o u, H b = some (.frz o u) → H' b = some (.frz o u)
  tbls : ∀ b ps, H b = some (.tbl ps) → ∃ more, H' b = some (.tbl (ps ++ more))
section
variable {fs fs' ex ex' : List Addr} {H H1 H2 : Hp} {h h1 h2 h' : Heap} {a x e : Addr} {o : HO}
theorem Un.any (u : Un fs ex H H1 h h1) {b : Addr} {ob : Obj} (q : h.get? b = some ob) (n : H b = none) (hx : b ∉ ex) : ∃ sl, h1.get? b = some { ob with slots := sl } := by
  by_cases hb : b ∈ fs
  · exact u.slot b ob q n hb hx
  · exact ⟨ob.slots, u.keep b ob q n hb hx⟩
theorem Un.kept (k : ∀ b u, h.get? b = some u → h'.get? b = some u) : Un fs ex H H h h' :=
  ⟨fun b ob q _ _ _ => k b ob q, fun b ob q _ _ _ => ⟨ob.slots, k b ob q⟩, fun _ _ _ n _ => n, fun b ob q _ => ⟨ob, k b ob q⟩, fun _ _ q => q, fun _ _ _ q => q, fun _ ps q => ⟨#[], by rw [q]; simp⟩⟩
theorem Un.refl : Un fs ex H H h h := Un.kept fun _ _ q => q
theorem Un.laid (k : ∀ b u, h.get? b = some u → h'.get? b = some u) (hp : h.objs.size ≤ a) (hn : H a = none) : Un fs ex H (upd H a o) h h' where
  keep := fun b u q _ _ _ => k b u q
  slot := fun b u q _ _ _ => ⟨u.slots, k b u q⟩
  free := fun b u q n _ => by rw [upd_ne (Nat.ne_of_lt (Nat.lt_of_lt_of_le (Heap.lt_size q) hp))]; exact n
  there := fun b u q _ => ⟨u, k b u q⟩
  tups := fun b xs q => by rw [upd_ne (ne_of_none q hn)]; exact q
  frzs := fun b u xs q => by rw [upd_ne (ne_of_none q hn)]; exact q
  tbls := fun b ps q => ⟨#[], by rw [upd_ne (ne_of_none q hn), q]; simp⟩
theorem Un.write (mu : Mut (H x)) (he : e = x ∨ H e = some (.own x)) (k : ∀ b u, b ≠ e → h.get? b = some u → h'.get? b = some u) (heo : ∃ u, h'.get? e = some u) : Un fs ex H (upd H x o) h h' := by
  have hx : ∀ b, H b = none → b ≠ x := fun b n z => by subst z; rw [n] at mu; exact mu
  have hb : ∀ b, H b = none → b ≠ e := fun b n z => by
    subst z
    rcases he with r | r
    · exact hx b n r
    · rw [n] at r; cases r
  have hm : ∀ b u, H b = some u → ¬ Mut (some u) → b ≠ x := fun b u q nm z => by subst z; rw [q] at mu; exact nm mu
  refine ⟨fun b u q n _ _ => k b u (hb b n) q, fun b u q n _ _ => ⟨u.slots, k b u (hb b n) q⟩, fun b u q n _ => by rw [upd_ne (hx b n)]; exact n, fun b u q _ => ?_,
    fun b xs q => by rw [upd_ne (hm b _ q fun z => z)]; exact q, fun b u xs q => by rw [upd_ne (hm b _ q fun z => z)]; exact q, fun b ps q => ⟨#[], by rw [upd_ne (hm b _ q fun z => z), q]; simp⟩⟩
  by_cases hbe : b = e
  · subst hbe; exact heo
  · exact ⟨u, k b u hbe q⟩
end

def trk (h : Heap) (H : Hp) : List Addr := (List.range h.objs.size).filter fun a => (H a).isSome
def hidT (h : Heap) (H : Hp) : Heap := PySem.W.hideAll h (trk h H)
theorem hidT_size (h : Heap) (H : Hp) : (hidT h H).objs.size = h.objs.size := PySem.W.hideAll_size _ _
theorem hidT_get {h : Heap} {H : Hp} {b : Addr} {o : Obj} (e : h.get? b = some o) (n : H b = none) : (hidT h H).get? b = some o :=
  PySem.W.hideAll_get _ e fun hm => by
    have q : (H b).isSome = true := (List.mem_filter.mp hm).2
    rw [n] at q; simp at q
theorem of_hidT {h : Heap} {H : Hp} {b : Addr} {o : Obj} (e : (hidT h H).get? b = some o) : h.get? b = some o ∧ H b = none := by
  have e' : h.get? b = some o := PySem.W.of_hideAll (trk h H) e
  refine ⟨e', ?_⟩
  cases q : H b with
  | none => rfl
  | some x =>
    have hm : b ∈ trk h H := List.mem_filter.mpr ⟨List.mem_range.mpr (Heap.lt_size e'), by simp [q]⟩
    have z : (hidT h H).get? b = none := PySem.W.hideAll_none (trk h H) hm
    rw [z] at e; cases e

def allNews (g h : Heap) (L : Addr) : List (Addr × Obj) := (List.range h.objs.size).filterMap fun a => if a = L ∨ (g.get? a).isSome = true then none else (h.get? a).map fun o => (a, o)
def rest (g h : Heap) (L d : Addr) : List (Addr × Obj) := (allNews g h L).filter fun p => decide (p.1 ≠ d)
end L2

namespace L2
open PySem PySem.Spec PyProof.Rows

structure Mod (K : PySem.W.Frag) (mg : Str → Option Value) (base : Heap) : Prop where
  kin : K.In base
  glob : base.Ns mainGlobals mg
  blt : ∃ mb, base.Ns builtinsNs mb ∧ ∀ x : Str, x ≠ "__name__" → mb x = bootBuiltins x
  nolimit : base.NoLimit

structure Cx where
  prog : Program
  w : World
  K : PySem.W.Frag
  mg : Str → Option Value
  base : Heap
  A : Around
  N : List Str
  s_0 : Shared
  H_0 : Hp
  env : Env
  outer : List Env
  stack : List Env
  ex : List Addr
  fn : Str → Bool
  calm : Bool
  pn : List (Addr × Obj)
  xe : Value → Shared → Prop
def frs (l : List Env) : List Addr := l.filterMap (·.frame)
abbrev Cx.fs (X : Cx) : List Addr := frs X.outer

def Vis (sc : Scope) (x : Str) : Prop := sc.names.lookup x = some .local ∨ sc.names.lookup x = some .cell ∨ sc.names.lookup x = some .free
def Loc (sc : Scope) (x : Str) : Prop := sc.names.lookup x = some .local ∨ sc.names.lookup x = some .cell
def Look (env : Env) (h : Heap) (m : Str → Option Value) (x : Str) (u : Value) : Prop :=
  (env.kindOf x = some .local ∧ m x = some u) ∨ ((env.kindOf x = some .cell ∨ env.kindOf x = some .free) ∧ ∃ c, env.cells.lookup x = some c ∧ h.IsCell c (some u))

structure Cx.Ok (X : Cx) : Prop where
  mod : Mod X.K X.mg X.base
  kind : X.env.scope.kind = .function
  glob : X.env.globals = mainGlobals
  blt : X.env.builtins = builtinsNs
  above : X.s_0.heap.objs.size ≤ X.env.locals
  inj : ∀ x y c, X.env.cells.lookup x = some c → X.env.cells.lookup y = some c → x = y
  has : ∀ x, (X.env.kindOf x = some .cell ∨ X.env.kindOf x = some .free) → ∃ c, X.env.cells.lookup x = some c
  cab : ∀ x c, X.fn x = true → X.env.cells.lookup x = some c → X.s_0.heap.objs.size ≤ c
  hd : X.calm = true → X.A.handled = none
  frames : X.A.frames = some X.stack
  stk : X.stack = X.outer ∨ (X.stack = X.env :: X.outer ∧ X.env.frame = some X.env.locals)
  exf : ∀ b ∈ X.ex, b ≠ X.env.locals ∧ ∀ x c, X.env.cells.lookup x = some c → c ≠ b
  bs : ∀ b o, X.base.get? b = some o → X.s_0.heap.get? b = some o ∧ X.H_0 b = none
  bsz : X.base.objs.size ≤ X.s_0.heap.objs.size
  noex : ∀ b o, X.base.get? b = some o → b ∉ X.ex
  exfs : ∀ b ∈ X.ex, b ∉ X.fs
  funs : X.s_0.heap.FunFrames X.base X.outer
  frf : ∀ b ∈ X.fs, X.H_0 b = none

structure Inv (X : Cx) (pins : List (Addr × Obj)) (σ : List (Option V)) (H : Hp) (s : Shared) : Prop where
  ok : X.Ok
  os : s.os = X.s_0.os
  bare : AllBare s.gens
  base : Un X.fs X.ex X.H_0 H X.s_0.heap s.heap
  loc : ∃ m, s.heap.Ns X.env.locals m ∧ ∀ (i : Nat) (x : Str) (v : V), X.N[i]? = some x → σ[i]? = some (some v) → Vis X.env.scope x → ∃ u, RelV v u ∧ Look X.env s.heap m x u
  cell : ∀ x c, X.env.cells.lookup x = some c → ∃ v, s.heap.IsCell c v
  free : H X.env.locals = none
  freeC : ∀ x c, X.env.cells.lookup x = some c → H c = none
  pin : ∀ p ∈ X.pn ++ pins, s.heap.get? p.1 = some p.2 ∧ H p.1 = none ∧ p.1 ≠ X.env.locals ∧ p.1 ∉ X.fs ∧ ∀ v, p.2.data ≠ .cell v
  hok : HOk X.prog X.w H s.heap
  len : σ.length = X.N.length

section
variable {X : Cx} {pins : List (Addr × Obj)} {σ : List (Option V)} {H H' : Hp} {s : Shared} {h' : Heap}

theorem Cx.Ok.nofr (ok : X.Ok) {b : Addr} {o : Obj} (e : X.base.get? b = some o) : b ∉ X.fs := fun hb => by
  have := (ok.funs.mem hb).1
  rw [e] at this; cases this
theorem Inv.bs (I : Inv X pins σ H s) : ∀ b o, X.base.get? b = some o → s.heap.get? b = some o ∧ H b = none := fun b o e =>
  ⟨I.base.keep b o (I.ok.bs b o e).1 (I.ok.bs b o e).2 (I.ok.nofr e) (I.ok.noex b o e), I.base.free b o (I.ok.bs b o e).1 (I.ok.bs b o e).2 (I.ok.noex b o e)⟩
theorem Inv.bk (I : Inv X pins σ H s) : ∀ b o, X.base.get? b = some o → s.heap.get? b = some o := fun b o e => (I.bs b o e).1
theorem Inv.mod (I : Inv X pins σ H s) : Mod X.K X.mg X.base := I.ok.mod
theorem Inv.kIn (I : Inv X pins σ H s) : X.K.In s.heap := I.ok.mod.kin.keeps I.bk
theorem Inv.fr (I : Inv X pins σ H s) : ∃ m, Fr X.base X.env.locals s.heap m :=
  let ⟨m, hn, _⟩ := I.loc
  ⟨m, hn, I.bk, Nat.le_trans I.ok.bsz I.ok.above⟩
theorem Inv.lt (I : Inv X pins σ H s) : X.env.locals < s.heap.objs.size := let ⟨_, hn, _⟩ := I.loc; hn.lt
theorem Inv.sz (I : Inv X pins σ H s) : X.s_0.heap.objs.size ≤ s.heap.objs.size := Nat.le_trans I.ok.above (Nat.le_of_lt I.lt)
theorem Inv.nofs (I : Inv X pins σ H s) {a : Addr} (h : s.heap.objs.size ≤ a) : a ∉ X.fs := fun hb => by
  obtain ⟨_, o, ho, _⟩ := I.ok.funs.mem hb
  exact absurd (Nat.lt_of_lt_of_le (Heap.lt_size ho) (Nat.le_trans I.sz h)) (Nat.lt_irrefl _)
theorem Inv.cne (I : Inv X pins σ H s) : ∀ x c, X.env.cells.lookup x = some c → c ≠ X.env.locals := fun x c e z => by
  obtain ⟨v, o, ho, hd⟩ := I.cell x c e
  obtain ⟨m, ⟨o', es, ep, ho', hd', _⟩, _⟩ := I.loc
  rw [z, ho'] at ho; cases ho; rw [hd'] at hd; cases hd
theorem Inv.funs (I : Inv X pins σ H s) : s.heap.FunFrames X.base X.outer := by
  have all : ∀ (l : List Env), (∀ b ∈ frs l, b ∈ X.fs) → X.s_0.heap.FunFrames X.base l → s.heap.FunFrames X.base l := by
    intro l
    induction l with
    | nil => intro _ _; trivial
    | cons env r ih =>
      intro hs hl
      obtain ⟨hk, ⟨L, o, hf, hn, ho, hd⟩, hr⟩ := hl
      have hL : L ∈ X.fs := hs L (by unfold frs; rw [List.filterMap_cons, hf]; exact List.mem_cons_self)
      obtain ⟨sl, e⟩ := I.base.slot L o ho (I.ok.frf L hL) hL fun z => I.ok.exfs L z hL
      exact ⟨hk, ⟨L, _, hf, hn, e, hd⟩, ih (fun b hb => hs b (by unfold frs; rw [List.filterMap_cons, hf]; exact List.mem_cons_of_mem _ hb)) hr⟩
  exact all X.outer (fun _ hb => hb) I.ok.funs

theorem Inv.stack (I : Inv X pins σ H s) : s.heap.FunFrames X.base X.stack := by
  rcases I.ok.stk with e | ⟨e, hf⟩
  · rw [e]; exact I.funs
  · rw [e]
    obtain ⟨m, hn, _⟩ := I.loc
    refine .cons (by rw [I.ok.kind]; decide) hf hn ?_ I.funs
    exact Heap.get?_none_of_le (Nat.le_trans I.ok.bsz I.ok.above)
theorem Inv.stkSub (I : Inv X pins σ H s) : ∀ b ∈ frs X.stack, b ∈ X.env.locals :: X.fs := fun b hb => by
  rcases I.ok.stk with e | ⟨e, hf⟩
  · rw [e] at hb; exact List.mem_cons_of_mem _ hb
  · rw [e] at hb
    unfold frs at hb
    rw [List.filterMap_cons, hf] at hb
    exact hb
theorem Inv.stkFree (I : Inv X pins σ H s) : ∀ b ∈ frs X.stack, H b = none := fun b hb => by
  rcases List.mem_cons.mp (I.stkSub b hb) with e | hb
  · rw [e]; exact I.free
  · obtain ⟨_, o, ho, _⟩ := I.ok.funs.mem hb
    exact I.base.free b o ho (I.ok.frf b hb) fun z => I.ok.exfs b z hb

theorem Inv.step {g' : Array GenState} {t' : Nat} {d' : Drawn} {ch : List Addr} (I : Inv X pins σ H s)
    (hch : ∀ b ∈ ch, (b ∈ X.ex ∨ X.s_0.heap.objs.size ≤ b) ∧ b ≠ X.env.locals ∧ (∀ x c, X.env.cells.lookup x = some c → c ≠ b) ∧ ∀ p ∈ X.pn ++ pins, p.1 ≠ b)
    (keep : ∀ b o, b ≠ X.env.locals → b ∉ X.fs → b ∉ ch → s.heap.get? b = some o → H b = none → h'.get? b = some o)
    (slot : ∀ b o, b ≠ X.env.locals → b ∈ X.fs → b ∉ ch → s.heap.get? b = some o → H b = none → ∃ sl, h'.get? b = some { o with slots := sl }) (free : ∀ b o, b ∉ ch → s.heap.get? b = some o → H b = none → H' b = none)
    (there : ∀ b o, b ∉ ch → s.heap.get? b = some o → ∃ o', h'.get? b = some o')
    (tups : ∀ b xs, H b = some (.tup xs) → H' b = some (.tup xs)) (frzs : ∀ b o u, H b = some (.frz o u) → H' b = some (.frz o u)) (tbls : ∀ b ps, H b = some (.tbl ps) → ∃ more, H' b = some (.tbl (ps ++ more)))
    (ns : ∀ m, s.heap.Ns X.env.locals m → h'.Ns X.env.locals m) (hok : HOk X.prog X.w H' h') (hg : AllBare g') :
    Inv X pins σ H' { s with heap := h', gens := g', drawn := d', toks := t' } := by
  have neL : ∀ b o, X.s_0.heap.get? b = some o → b ≠ X.env.locals := fun b o e => Nat.ne_of_lt (Nat.lt_of_lt_of_le (Heap.lt_size e) I.ok.above)
  have neC : ∀ b o, X.s_0.heap.get? b = some o → b ∉ X.ex → b ∉ ch := fun b o e hx hb => by
    rcases (hch b hb).1 with z | z
    · exact hx z
    · exact absurd (Nat.lt_of_lt_of_le (Heap.lt_size e) z) (Nat.lt_irrefl _)
  have cellK : ∀ x c, X.env.cells.lookup x = some c → ∀ v, s.heap.IsCell c v → h'.IsCell c v := fun x c e v ⟨o, ho, hd⟩ => by
    have nch : c ∉ ch := fun z => (hch c z).2.2.1 x c e rfl
    by_cases hc : c ∈ X.fs
    · obtain ⟨sl, q⟩ := slot c o (I.cne x c e) hc nch ho (I.freeC x c e)
      exact ⟨_, q, hd⟩
    · exact ⟨o, keep c o (I.cne x c e) hc nch ho (I.freeC x c e), hd⟩
  refine ⟨I.ok, I.os, hg, ⟨fun b o e n hb hx => ?_, fun b o e n hb hx => ?_, fun b o e n hx => ?_, fun b o e hx => ?_, fun b xs e => tups b xs (I.base.tups b xs e), fun b o xs e => frzs b o xs (I.base.frzs b o xs e), fun b ps e => ?_⟩, ?_, fun x c e => ?_, ?_, fun x c e => ?_, fun p hp => ?_, hok, I.len⟩
  · exact keep b o (neL b o e) hb (neC b o e hx) (I.base.keep b o e n hb hx) (I.base.free b o e n hx)
  · obtain ⟨sl, e1⟩ := I.base.slot b o e n hb hx
    obtain ⟨sl', e2⟩ := slot b _ (neL b o e) hb (neC b o e hx) e1 (I.base.free b o e n hx)
    exact ⟨sl', e2⟩
  · obtain ⟨o', e1⟩ := I.base.there b o e hx
    exact free b o' (neC b o e hx) e1 (I.base.free b o e n hx)
  · obtain ⟨o', e1⟩ := I.base.there b o e hx
    exact there b o' (neC b o e hx) e1
  · obtain ⟨m1, e1⟩ := I.base.tbls b ps e
    obtain ⟨m2, e2⟩ := tbls b _ e1
    exact ⟨m1 ++ m2, by rw [e2, Array.append_assoc]⟩
  · obtain ⟨m, hn, hl⟩ := I.loc
    refine ⟨m, ns m hn, fun i x v e1 e2 e3 => ?_⟩
    obtain ⟨u, r, l⟩ := hl i x v e1 e2 e3
    refine ⟨u, r, ?_⟩
    rcases l with l | ⟨k, c, e, z⟩
    · exact .inl l
    · exact .inr ⟨k, c, e, cellK x c e _ z⟩
  · obtain ⟨v, z⟩ := I.cell x c e
    exact ⟨v, cellK x c e v z⟩
  · obtain ⟨m, ⟨o, _, _, ho, _⟩, _⟩ := I.loc
    exact free _ o (fun z => (hch _ z).2.1 rfl) ho I.free
  · obtain ⟨v, o, ho, hd⟩ := I.cell x c e
    exact free c o (fun z => (hch c z).2.2.1 x c e rfl) ho (I.freeC x c e)
  · obtain ⟨e, n, ne, nf, d⟩ := I.pin p hp
    have nch : p.1 ∉ ch := fun z => (hch p.1 z).2.2.2 p hp rfl
    exact ⟨keep p.1 p.2 ne nf nch e n, free p.1 p.2 nch e n, ne, nf, d⟩
theorem Inv.un {t' : Nat} (I : Inv X pins σ H s) (u : Un X.fs [] H H' s.heap h') (hok : HOk X.prog X.w H' h') : Inv X pins σ H' { s with heap := h', toks := t' } := by
  obtain ⟨m, ⟨o, es, ep, ho, r⟩, _⟩ := id I.loc
  obtain ⟨sl, hL⟩ := u.any ho I.free (by simp)
  exact I.step (g' := s.gens) (d' := s.drawn) (ch := []) (fun _ z => nomatch z) (fun b o _ hb _ e n => u.keep b o e n hb (by simp)) (fun b o _ hb _ e n => u.slot b o e n hb (by simp)) (fun b o _ e n => u.free b o e n (by simp)) (fun b o _ e => u.there b o e (by simp)) u.tups u.frzs u.tbls (fun m' hm => by
    obtain ⟨o', es', ep', ho', r'⟩ := hm
    rw [ho] at ho'; cases ho'
    exact ⟨_, es', ep', hL, r'⟩) hok I.bare
theorem Inv.call {g' : Array GenState} {t' : Nat} {d' : Drawn} {ch : List Addr} (I : Inv X pins σ H s) (u : Un (frs X.stack) ch H H' s.heap h') (hok : HOk X.prog X.w H' h') (hg : AllBare g')
    (hch : ∀ b ∈ ch, (b ∈ X.ex ∨ X.s_0.heap.objs.size ≤ b) ∧ b ≠ X.env.locals ∧ (∀ x c, X.env.cells.lookup x = some c → c ≠ b) ∧ ∀ p ∈ X.pn ++ pins, p.1 ≠ b) :
    Inv X pins σ H' { s with heap := h', gens := g', drawn := d', toks := t' } := by
  obtain ⟨m, ⟨o, es, ep, ho, r⟩, _⟩ := id I.loc
  obtain ⟨sl, hL⟩ := u.any ho I.free fun z => (hch _ z).2.1 rfl
  exact I.step (ch := ch) hch (fun b o hL hb hc e n => u.keep b o e n (fun z => (List.mem_cons.mp (I.stkSub b z)).elim hL hb) hc) (fun b o _ _ hc e n => u.any e n hc) (fun b o hc e n => u.free b o e n hc) (fun b o hc e => u.there b o e hc) u.tups u.frzs u.tbls (fun m' hm => by
    obtain ⟨o', es', ep', ho', r'⟩ := hm
    rw [ho] at ho'; cases ho'
    exact ⟨_, es', ep', hL, r'⟩) hok hg
theorem Inv.turned {t' : Nat} {it : Addr} (I : Inv X pins σ H s) (k : ∀ b o, b ≠ it → s.heap.get? b = some o → h'.get? b = some o) (hn : H it = none) (hL : it ≠ X.env.locals)
    (h1 : it ∈ X.ex ∨ X.s_0.heap.objs.size ≤ it) (h2 : ∀ x c, X.env.cells.lookup x = some c → c ≠ it) (h3 : ∀ p ∈ X.pn ++ pins, p.1 ≠ it) : Inv X pins σ H { s with heap := h', toks := t' } := by
  have nit : ∀ b u, H b = some u → b ≠ it := fun b u e z => by rw [z, hn] at e; cases e
  refine I.step (g' := s.gens) (d' := s.drawn) (ch := [it]) (fun b hb => ?_) (fun b o _ _ hc e _ => k b o (fun z => hc (by simp [z])) e) (fun b o _ _ hc e _ => ⟨o.slots, k b o (fun z => hc (by simp [z])) e⟩) (fun _ _ _ _ n => n)
    (fun b o hc e => ⟨o, k b o (fun z => hc (by simp [z])) e⟩) (fun _ _ e => e) (fun _ _ _ e => e) (fun b ps e => ⟨#[], by rw [e]; simp⟩) (fun m hm => ?_) (fun b u e => ?_) I.bare
  · have e : b = it := by simpa using hb
    subst e
    exact ⟨h1, hL, h2, h3⟩
  · obtain ⟨o, es, ep, ho, r⟩ := hm
    exact ⟨o, es, ep, k _ o (Ne.symm hL) ho, r⟩
  · refine (I.hok b u e).stay (fun c v hc q => k c v ?_ q) (fun _ q => q) fun _ _ q => q
    rcases hc with z | z
    · rw [z]; exact nit b u e
    · exact nit c _ z
theorem Inv.tok (I : Inv X pins σ H s) (t : Nat) : Inv X pins σ H { s with toks := t } := I.un (h' := s.heap) (t' := t) Un.refl I.hok
theorem Inv.kept {t' : Nat} (I : Inv X pins σ H s) (k : ∀ b u, s.heap.get? b = some u → h'.get? b = some u) : Inv X pins σ H { s with heap := h', toks := t' } := I.un (Un.kept k) (I.hok.kept k)
theorem Inv.laid {a : Addr} {o : HO} {t' : Nat} (I : Inv X pins σ H s) (k : ∀ b u, s.heap.get? b = some u → h'.get? b = some u) (hp : s.heap.objs.size ≤ a) (new : ObjOk X.prog X.w (upd H a o) h' a o) :
    Inv X pins σ (upd H a o) { s with heap := h', toks := t' } := I.un (Un.laid k hp (I.hok.fresh hp)) (I.hok.laid k hp new)
theorem Inv.write {x e : Addr} {o : HO} {t' : Nat} (I : Inv X pins σ H s) (mu : Mut (H x)) (he : e = x ∨ H e = some (.own x)) (k : ∀ b u, b ≠ e → s.heap.get? b = some u → h'.get? b = some u) (heo : ∃ u, h'.get? e = some u)
    (new : ObjOk X.prog X.w (upd H x o) h' x o) : Inv X pins σ (upd H x o) { s with heap := h', toks := t' } := I.un (Un.write mu he k heo) (I.hok.write mu he k heo new)
theorem Inv.weak {σ' : List (Option V)} (I : Inv X pins σ H s) (hl : σ'.length = σ.length) (w : ∀ (i : Nat) v, σ'[i]? = some (some v) → σ[i]? = some (some v)) : Inv X pins σ' H s :=
  ⟨I.ok, I.os, I.bare, I.base, let ⟨m, hn, hl'⟩ := I.loc; ⟨m, hn, fun i x v e1 e2 e3 => hl' i x v e1 (w i v e2) e3⟩, I.cell, I.free, I.freeC, I.pin, I.hok, hl.trans I.len⟩
theorem Inv.pins_of {pins' : List (Addr × Obj)} (I : Inv X pins σ H s) (h : ∀ p ∈ pins', s.heap.get? p.1 = some p.2 ∧ H p.1 = none ∧ p.1 ≠ X.env.locals ∧ p.1 ∉ X.fs ∧ ∀ v, p.2.data ≠ .cell v) : Inv X pins' σ H s :=
  ⟨I.ok, I.os, I.bare, I.base, I.loc, I.cell, I.free, I.freeC, fun p hp => (List.mem_append.mp hp).elim (fun z => I.pin p (List.mem_append_left _ z)) (h p), I.hok, I.len⟩

theorem nodup_ix {N : List Str} (hN : N.Nodup) {i j : Nat} {x : Str} (a : N[i]? = some x) (b : N[j]? = some x) : i = j := by
  obtain ⟨h1, e1⟩ := List.getElem?_eq_some_iff.mp a
  obtain ⟨h2, e2⟩ := List.getElem?_eq_some_iff.mp b
  exact (List.getElem_inj hN).mp (e1.trans e2.symm)

theorem store_ok2 {M : Model} {A : Around} {E : Value → Shared → Prop} {i : Nat} {x : Str} {v : V} {u : Value} {Q : Unit → Shared → Prop} (I : Inv X pins σ H s) (hN : X.N.Nodup) (hi : X.N[i]? = some x) (hx : Loc X.env.scope x) (r : RelV v u)
    (h : ∀ s', Inv X pins (σ.set i (some v)) H s' → (∃ a, Heap.SameBut a s.heap s'.heap ∧ (a = X.env.locals ∨ X.env.cells.lookup x = some a)) → Q () s') (hf : X.fn x = true ∨ X.env.scope.names.lookup x = some .local := by first | exact .inl rfl | exact .inr rfl | assumption) : wpAny M A (storeName X.env x u) Q E s := by
  obtain ⟨m, hn, hl⟩ := id I.loc
  have hcls : (X.env.scope.kind == .class || (X.env.scope.kind == .module && X.env.locals != X.env.globals)) = false := by rw [I.ok.kind]; rfl
  have hiσ : i < σ.length := by rw [I.len]; exact (List.getElem?_eq_some_iff.mp hi).1
  have cne := I.cne
  have tracked : ∀ {a : Addr} {h' : Heap}, (∃ o, s.heap.get? a = some o ∧ H a = none) → Heap.SameBut a s.heap h' → HOk X.prog X.w H h' := fun {a h'} ha hs b ob e => by
    obtain ⟨_, _, hfree⟩ := ha
    refine (I.hok b ob e).stay (fun c w' hc q => (hs.2 c ?_).trans q) (fun _ q => q) fun _ _ q => q
    rintro rfl
    rcases hc with rfl | hc
    · rw [hfree] at e; cases e
    · rw [hfree] at hc; cases hc
  rcases hx with hk | hk
  · refine wpAny_storeName_local hk hn (fun h' hn' hs => ?_) hcls
    obtain ⟨oL, _, _, hoL, _⟩ := id hn
    refine h _ ⟨I.ok, I.os, I.bare, ⟨fun b o e n hb hx => ?_, fun b o e n hb hx => ?_, I.base.free, fun b o e hx => ?_, I.base.tups, I.base.frzs, I.base.tbls⟩, ⟨_, hn', fun j y v' e1 e2 e3 => ?_⟩, fun y c e => ?_, I.free, I.freeC, fun p hp => ?_, tracked ⟨oL, hoL, I.free⟩ hs, by simpa using I.len⟩ ⟨_, hs, .inl rfl⟩
    · exact (hs.2 b (Nat.ne_of_lt (Nat.lt_of_lt_of_le (Heap.lt_size e) I.ok.above))).trans (I.base.keep b o e n hb hx)
    · obtain ⟨sl, e1⟩ := I.base.slot b o e n hb hx
      exact ⟨sl, (hs.2 b (Nat.ne_of_lt (Nat.lt_of_lt_of_le (Heap.lt_size e) I.ok.above))).trans e1⟩
    · obtain ⟨o', e1⟩ := I.base.there b o e hx
      exact ⟨o', (hs.2 b (Nat.ne_of_lt (Nat.lt_of_lt_of_le (Heap.lt_size e) I.ok.above))).trans e1⟩
    · by_cases hj : j = i
      · subst hj
        rw [hi] at e1; cases e1
        rw [List.getElem?_set_self hiσ] at e2
        cases e2
        exact ⟨u, r, .inl ⟨hk, by simp⟩⟩
      · rw [List.getElem?_set_ne (Ne.symm hj)] at e2
        obtain ⟨u', r', q⟩ := hl j y v' e1 e2 e3
        refine ⟨u', r', ?_⟩
        rcases q with ⟨k, e⟩ | ⟨k, c, e, z⟩
        · refine .inl ⟨k, ?_⟩
          have : y ≠ x := fun e => hj (nodup_ix hN e1 (e ▸ hi))
          simp [this, e]
        · exact .inr ⟨k, c, e, z.sameBut hs (cne y c e)⟩
    · obtain ⟨w', z⟩ := I.cell y c e
      exact ⟨w', z.sameBut hs (cne y c e)⟩
    · obtain ⟨e, n, ne, nf, d⟩ := I.pin p hp
      exact ⟨(hs.2 p.1 ne).trans e, n, ne, nf, d⟩
  · have hfn : X.fn x = true := by
      rcases hf with z | z
      · exact z
      · rw [z] at hk; cases hk
    obtain ⟨c, hc⟩ := I.ok.has x (.inl hk)
    obtain ⟨w', z⟩ := I.cell x c hc
    refine wpAny_storeName_cell I.ok.kind hk hc z (fun h' hc' hs => ?_)
    obtain ⟨oc, hoc, hocd⟩ := id z
    refine h { s with heap := h' } ⟨I.ok, I.os, I.bare, ⟨fun b o e n hb hx => ?_, fun b o e n hb hx => ?_, I.base.free, fun b o e hx => ?_, I.base.tups, I.base.frzs, I.base.tbls⟩, ⟨m, hn.sameBut hs (Ne.symm (cne x c hc)), fun j y v' e1 e2 e3 => ?_⟩, fun y c' e => ?_, I.free, I.freeC, fun p hp => ?_, tracked ⟨oc, hoc, I.freeC x c hc⟩ hs, by simpa using I.len⟩ ⟨c, hs, .inr hc⟩
    · exact (hs.2 b (Nat.ne_of_lt (Nat.lt_of_lt_of_le (Heap.lt_size e) (I.ok.cab x c hfn hc)))).trans (I.base.keep b o e n hb hx)
    · obtain ⟨sl, e1⟩ := I.base.slot b o e n hb hx
      exact ⟨sl, (hs.2 b (Nat.ne_of_lt (Nat.lt_of_lt_of_le (Heap.lt_size e) (I.ok.cab x c hfn hc)))).trans e1⟩
    · obtain ⟨o', e1⟩ := I.base.there b o e hx
      exact ⟨o', (hs.2 b (Nat.ne_of_lt (Nat.lt_of_lt_of_le (Heap.lt_size e) (I.ok.cab x c hfn hc)))).trans e1⟩
    · by_cases hj : j = i
      · subst hj
        rw [hi] at e1; cases e1
        rw [List.getElem?_set_self hiσ] at e2
        cases e2
        exact ⟨u, r, .inr ⟨.inl hk, c, hc, hc'⟩⟩
      · rw [List.getElem?_set_ne (Ne.symm hj)] at e2
        obtain ⟨u', r', q⟩ := hl j y v' e1 e2 e3
        refine ⟨u', r', ?_⟩
        rcases q with q | ⟨k, c', e, z'⟩
        · exact .inl q
        · refine .inr ⟨k, c', e, z'.sameBut hs ?_⟩
          rintro rfl
          exact hj (nodup_ix hN e1 (I.ok.inj _ _ _ e hc ▸ hi))
    · by_cases hcc : c' = c
      · subst hcc; exact ⟨_, hc'⟩
      · obtain ⟨w2, z2⟩ := I.cell y c' e
        exact ⟨w2, z2.sameBut hs hcc⟩
    · obtain ⟨e, n, ne, nf, d⟩ := I.pin p hp
      refine ⟨(hs.2 p.1 ?_).trans e, n, ne, nf, d⟩
      intro q
      rw [q, hoc] at e
      have q' : oc = p.2 := Option.some.inj e
      exact d w' (by rw [← q']; exact hocd)
theorem store_ok {M : Model} {A : Around} {E : Value → Shared → Prop} {i : Nat} {x : Str} {v : V} {u : Value} {Q : Unit → Shared → Prop} (I : Inv X pins σ H s) (hN : X.N.Nodup) (hi : X.N[i]? = some x) (hx : Loc X.env.scope x) (r : RelV v u)
    (h : ∀ s', Inv X pins (σ.set i (some v)) H s' → Q () s') (hf : X.fn x = true ∨ X.env.scope.names.lookup x = some .local := by first | exact .inl rfl | exact .inr rfl | assumption) : wpAny M A (storeName X.env x u) Q E s :=
  store_ok2 I hN hi hx r (fun s' I' _ => h s' I') hf
theorem Inv.call' {s' : Shared} {ch : List Addr} (I : Inv X pins σ H s) (ho : s'.os = s.os) (u : Un (frs X.stack) ch H H' s.heap s'.heap) (hok : HOk X.prog X.w H' s'.heap) (hg : AllBare s'.gens)
    (hch : ∀ b ∈ ch, (b ∈ X.ex ∨ X.s_0.heap.objs.size ≤ b) ∧ b ≠ X.env.locals ∧ (∀ x c, X.env.cells.lookup x = some c → c ≠ b) ∧ ∀ p ∈ X.pn ++ pins, p.1 ≠ b) : Inv X pins σ H' s' := by
  obtain ⟨h', g', d', t', o'⟩ := s'
  have e : o' = s.os := ho
  subst e
  exact I.call (g' := g') (t' := t') (d' := d') u hok hg hch
end

abbrev XK := Value → Option Addr → Hp → Prop
abbrev St := List (Option V)
abbrev VK := V → Hp → Prop
abbrev TE := St → Hp → VK → Prop
abbrev TT := St → Hp → (Bool → Hp → Prop) → Prop
abbrev TA := St → Hp → (List V → Hp → Prop) → Prop
structure Ends where
  nx : St → Hp → Prop
  rt : VK
  bk : St → Hp → Prop := fun _ _ => False
  ct : St → Hp → Prop := fun _ _ => False
abbrev TS := Ends → St → Hp → Prop

def EP (X : Cx) (pins : List (Addr × Obj)) (σ : St) (Q : VK) (u : Value) (s' : Shared) : Prop := ∃ v H', Inv X pins σ H' s' ∧ RelV v u ∧ Q v H'
def TP (X : Cx) (pins : List (Addr × Obj)) (σ : St) (Q : Bool → Hp → Prop) (b : Bool) (s' : Shared) : Prop := ∃ H', Inv X pins σ H' s' ∧ Q b H'
def AP (X : Cx) (pins : List (Addr × Obj)) (σ : St) (Q : List V → Hp → Prop) (us : List Value) (s' : Shared) : Prop := ∃ vs H', Inv X pins σ H' s' ∧ Vals vs us ∧ Q vs H'
def SP (X : Cx) (pins : List (Addr × Obj)) (D : Ends) (f : Flow) (s' : Shared) : Prop :=
  match f with
  | .next => ∃ σ' H', Inv X pins σ' H' s' ∧ D.nx σ' H'
  | .brk => ∃ σ' H', Inv X pins σ' H' s' ∧ D.bk σ' H'
  | .cont => ∃ σ' H', Inv X pins σ' H' s' ∧ D.ct σ' H'
  | .ret u => ∃ v σ' H', Inv X pins σ' H' s' ∧ RelV v u ∧ D.rt v H'

def PE (X : Cx) (e : Expr) (t : TE) : Prop :=
  ∀ (pins : List (Addr × Obj)) (s : Shared) (σ : St) (H : Hp) (Q : VK), Inv X pins σ H s → t σ H Q → wpAny (model X.prog X.w) X.A (eval e X.env) (EP X pins σ Q) X.xe s
def PT (X : Cx) (e : Expr) (t : TT) : Prop :=
  ∀ (pins : List (Addr × Obj)) (s : Shared) (σ : St) (H : Hp) (Q : Bool → Hp → Prop), Inv X pins σ H s → t σ H Q → wpAny (model X.prog X.w) X.A (isTrue e X.env (eval e X.env)) (TP X pins σ Q) X.xe s
def PW (X : Cx) (e : Expr) (t : TT) : Prop :=
  ∀ (whole : Sem Value) (pins : List (Addr × Obj)) (s : Shared) (σ : St) (H : Hp) (Q : Bool → Hp → Prop), Inv X pins σ H s → t σ H Q → wpAny (model X.prog X.w) X.A (isTrue e X.env whole) (TP X pins σ Q) X.xe s
theorem PW.pt {X : Cx} {e : Expr} {t : TT} (h : PW X e t) : PT X e t := h _
def PA (X : Cx) (es : List Expr) (t : TA) : Prop :=
  ∀ (pos : Pos) (pins : List (Addr × Obj)) (s : Shared) (σ : St) (H : Hp) (Q : List V → Hp → Prop), Inv X pins σ H s → t σ H Q → wpAny (model X.prog X.w) X.A (spliced (backTo pos (starEach es X.env))) (AP X pins σ Q) X.xe s
def PS (X : Cx) (st : Stmt) (t : TS) : Prop :=
  ∀ (pins : List (Addr × Obj)) (s : Shared) (σ : St) (H : Hp) (D : Ends), Inv X pins σ H s → t D σ H → wpAny (model X.prog X.w) X.A (exec st X.env) (SP X pins D) X.xe s
def PSs (X : Cx) (st : List Stmt) (t : TS) : Prop :=
  ∀ (pins : List (Addr × Obj)) (s : Shared) (σ : St) (H : Hp) (D : Ends), Inv X pins σ H s → t D σ H → wpAny (model X.prog X.w) X.A (execs st X.env) (SP X pins D) X.xe s
theorem thn {α : Type} {t : Sem α} {Q Q' : α → Shared → Prop} {M : Model} {A : Around} {E : Value → Shared → Prop} {s : Shared} (h : wpAny M A t Q E s) (hQ : ∀ a s, Q a s → Q' a s) : wpAny M A t Q' E s := wpAny_mono h hQ fun _ _ x => x
end L2

namespace L2
open PySem PySem.Spec PyProof.Rows
section
variable {X : Cx}

theorem bin {a b : Expr} {ta tb : TE} (ha : PE X a ta) (hb : PE X b tb) {pins : List (Addr × Obj)} {s : Shared} {σ : St} {H : Hp} {R : V → V → Hp → Prop} (I : Inv X pins σ H s) (h : ta σ H fun x H1 => tb σ H1 fun y H2 => R x y H2)
    {α : Type} {Q : α → Shared → Prop} {f : Value → Value → Sem α}
    (hf : ∀ v u s2 x y H2, Inv X pins σ H2 s2 → RelV x v → RelV y u → R x y H2 → wpAny (model X.prog X.w) X.A (f v u) Q X.xe s2) :
    wpAny (model X.prog X.w) X.A (eval a X.env) (fun v s₁ => wpAny (model X.prog X.w) X.A (eval b X.env) (fun u s₂ => wpAny (model X.prog X.w) X.A (f v u) Q X.xe s₂) X.xe s₁) X.xe s := by
  refine thn (ha pins s σ H _ I h) fun v s1 ⟨x, H1, I1, r1, q1⟩ => ?_
  refine thn (hb pins s1 σ H1 _ I1 q1) fun u s2 ⟨y, H2, I2, r2, q2⟩ => ?_
  exact hf v u s2 x y H2 I2 r1 r2 q2

def tVar (i : Nat) : TE := fun σ H Q => ∃ v, σ[i]? = some (some v) ∧ Q v H
def tC (v : V) : TE := fun _ H Q => Q v H
theorem pe_var {i : Nat} {x : Str} {pos : Pos} (hN : X.N[i]? = some x) (hv : Vis X.env.scope x) (hd : (x == ("__debug__" : Str)) = false := by decide) (hcd : (x == ("__classdict__" : Str)) = false := by decide) : PE X (.Name x pos) (tVar i) := by
  intro pins s σ H Q I h
  obtain ⟨v, e, h⟩ := h
  obtain ⟨m, hn, hl⟩ := I.loc
  obtain ⟨u, r, l⟩ := hl i x v hN e hv
  have fin : EP X pins σ Q u s := ⟨v, H, I, r, h⟩
  rcases l with ⟨hk, hm⟩ | ⟨hk, c, hc, hcell⟩
  · exact wpAny_Name (wpAny_loadName_local I.ok.kind hk hn hm fin) hd
  · rcases hk with hk | hk
    · exact wpAny_Name (wpAny_loadName_cell I.ok.kind hk hc hcell fin) hd
    · exact wpAny_Name (wpAny_loadName_free I.ok.kind hk hc hcell fin hcd) hd
theorem pe_int {i j pos} : PE X (.Constant (.int i) j pos) (tC (.int i)) := fun _ _ _ H _ I h => wpAny_Constant_int ⟨.int i, H, I.tok _, ⟨_, rfl⟩, h⟩
theorem pe_non {j pos} : PE X (.Constant .none j pos) (tC .non) := fun _ _ _ H _ I h => Constant_none ⟨.non, H, I, rfl, h⟩
def Gl (X : Cx) (x : Str) : Prop := X.env.kindOf x = some .globalImplicit
theorem ld_glob {E : Value → Shared → Prop} {pins : List (Addr × Obj)} {s : Shared} {σ : St} {H : Hp} {x : Str} {u : Value} {pos : Pos} {Q : Value → Shared → Prop} (I : Inv X pins σ H s) (hg : Gl X x) (hm : X.mg x = some u) (h : Q u s)
    (hd : (x == ("__debug__" : Str)) = false := by decide) : wpAny (model X.prog X.w) X.A (eval (.Name x pos) X.env) Q E s :=
  Calls.Name_function_global I.ok.kind hg (Calls.loadGlobal_global (by rw [I.ok.glob]; exact I.mod.glob.keeps I.bk) hm h) hd
theorem ld_blt {E : Value → Shared → Prop} {pins : List (Addr × Obj)} {s : Shared} {σ : St} {H : Hp} {x : Str} {u : Value} {pos : Pos} {Q : Value → Shared → Prop} (I : Inv X pins σ H s) (hg : Gl X x) (hm : X.mg x = none) (hv : bootBuiltins x = some u) (h : Q u s)
    (hn : x ≠ "__name__" := by decide) (hd : (x == ("__debug__" : Str)) = false := by decide) : wpAny (model X.prog X.w) X.A (eval (.Name x pos) X.env) Q E s := by
  obtain ⟨mb, h1, h2⟩ := I.mod.blt
  exact Calls.Name_function_global I.ok.kind hg (Calls.loadGlobal_builtin (by rw [I.ok.glob]; exact I.mod.glob.keeps I.bk) hm (by rw [I.ok.blt]; exact h1.keeps I.bk) ((h2 x hn).trans hv) h) hd
theorem pe_glob {x : Str} {v : V} {u : Value} {pos : Pos} (hg : Gl X x) (hm : X.mg x = some u) (r : RelV v u) (hd : (x == ("__debug__" : Str)) = false := by decide) : PE X (.Name x pos) (tC v) :=
  fun _ _ _ H _ I h => ld_glob I hg hm ⟨v, H, I, r, h⟩ hd
variable {a b : Expr} {ta tb : TE} {pos : Pos}
def PC (X : Cx) (op : CmpOp) (a b : Expr) (t : TE) : Prop :=
  ∀ (pins : List (Addr × Obj)) (s : Shared) (σ : St) (H : Hp) (Q : VK), Inv X pins σ H s → t σ H Q →
    wpAny (model X.prog X.w) X.A (eval a X.env) (fun v s₁ => wpAny (model X.prog X.w) X.A (eval b X.env) (fun u s₂ => wpAny (model X.prog X.w) X.A (compareOp op v u) (EP X pins σ Q) X.xe s₂) X.xe s₁) X.xe s
theorem nobehind (b : Expr) {op : CmpOp} (h : op ≠ .In) (h2 : op ≠ .NotIn) : behindInMarks op b = false := by
  have e1 : (op == CmpOp.In) = false := by cases op <;> first | rfl | exact absurd rfl h
  have e2 : (op == CmpOp.NotIn) = false := by cases op <;> first | rfl | exact absurd rfl h2
  cases b <;> simp [behindInMarks, e1, e2]
def tB (t : TE) : TT := fun σ H Q => t σ H fun x H1 => ∃ c, x = .bl c ∧ Q c H1
theorem pt_cmp {op : CmpOp} {t : TE} (h : PC X op a b t) (h1 : behindInMarks op b = false := by first | exact nobehind _ (by decide) (by decide) | rfl) : PT X (.Compare a [op] [b] pos) (tB t) := by
  intro pins s σ H Q I hw
  refine wpAny_isTrue_Compare1 (thn (h pins s σ H _ I hw) fun v s1 h1 => thn h1 fun u s2 h2 => thn h2 fun c s3 ⟨x, H1, I1, r1, q1⟩ => ?_) h1
  obtain ⟨d, rfl, q⟩ := q1
  cases r1
  exact wpAny_truthy_bool ⟨H1, I1, q⟩
theorem pt_val {e : Expr} {t : TE} (h : PE X e t) (he : ∀ whole, isTrue e X.env whole = (do let v ← whole; standAt e.pos; holding [v] (truthy v)) := by intro _; rfl) : PT X e (tB t) := by
  intro pins s σ H Q I hw
  refine isTrue_plain (thn (h pins s σ H _ I hw) fun v s1 ⟨x, H1, I1, r1, q1⟩ => ?_) (he _)
  obtain ⟨d, rfl, q⟩ := q1
  cases r1
  exact wpAny_truthy_bool ⟨H1, I1, q⟩

variable {tA tB' : TT} {rest : List Expr}
def tAnd (t u : TT) : TT := fun σ H Q => t σ H fun c H1 => if c = true then u σ H1 Q else Q false H1
def tOr (t u : TT) : TT := fun σ H Q => t σ H fun c H1 => if c = true then Q true H1 else u σ H1 Q
def tNot (t : TT) : TT := fun σ H Q => t σ H fun c H1 => Q (!c) H1
theorem pw_and1 (ha : PT X a tA) : PW X (.BoolOp .And [a] pos) tA := by
  intro wh pins s σ H Q I h
  refine isTrue_and (thn (ha pins s σ H Q I h) fun c s1 e => ?_)
  cases c with
  | true => exact isTrue_and_nil e
  | false => exact e
theorem pw_or1 (ha : PT X a tA) : PW X (.BoolOp .Or [a] pos) tA := by
  intro wh pins s σ H Q I h
  refine isTrue_or (thn (ha pins s σ H Q I h) fun c s1 e => ?_)
  cases c with
  | false => exact isTrue_or_nil e
  | true => exact e
theorem pw_and (ha : PT X a tA) (hb : PW X (.BoolOp .And (b :: rest) pos) tB') : PW X (.BoolOp .And (a :: b :: rest) pos) (tAnd tA tB') := by
  intro wh pins s σ H Q I h
  refine isTrue_and (thn (ha pins s σ H _ I h) fun c s1 ⟨H1, I1, q1⟩ => ?_)
  cases c with
  | true => exact hb wh pins s1 σ H1 Q I1 q1
  | false => exact ⟨H1, I1, q1⟩
theorem pw_or (ha : PT X a tA) (hb : PW X (.BoolOp .Or (b :: rest) pos) tB') : PW X (.BoolOp .Or (a :: b :: rest) pos) (tOr tA tB') := by
  intro wh pins s σ H Q I h
  refine isTrue_or (thn (ha pins s σ H _ I h) fun c s1 ⟨H1, I1, q1⟩ => ?_)
  cases c with
  | true => exact ⟨H1, I1, q1⟩
  | false => exact hb wh pins s1 σ H1 Q I1 q1
theorem pt_not (ha : PT X a tA) : PT X (.UnaryOp .Not a pos) (tNot tA) := by
  intro pins s σ H Q I h
  exact isTrue_not (ha pins s σ H (fun c H1 => Q (!c) H1) I h)
def tAndV (ta tb : TE) : TE := fun σ H Q => ta σ H fun x H1 => ∃ c, x = .bl c ∧ if c = true then tb σ H1 Q else Q (.bl false) H1
theorem pe_one {op} {t : TE} (h : PE X a t) : PE X (.BoolOp op [a] pos) t := fun pins s σ H Q I hw => BoolOp_one (h pins s σ H Q I hw)
theorem pe_and (ha : PE X a ta) (hb : PE X (.BoolOp .And (b :: rest) pos) tb) : PE X (.BoolOp .And (a :: b :: rest) pos) (tAndV ta tb) := by
  intro pins s σ H Q I h
  refine BoolOp_and (thn (ha pins s σ H _ I h) fun v s1 ⟨x, H1, I1, r1, q1⟩ => ?_)
  obtain ⟨c, rfl, q1⟩ := q1
  cases r1
  refine wpAny_truthy_bool ?_
  cases c with
  | true => exact hb pins s1 σ H1 Q I1 q1
  | false => exact ⟨.bl false, H1, I1, rfl, q1⟩
def tIf (t : TT) (ta tb : TE) : TE := fun σ H Q => t σ H fun c H1 => if c = true then ta σ H1 Q else tb σ H1 Q
theorem pe_ifExp {c : Expr} (hc : PT X c tA) (ha : PE X a ta) (hb : PE X b tb) : PE X (.IfExp c a b pos) (tIf tA ta tb) := by
  intro pins s σ H Q I h
  refine wpAny_IfExp (thn (hc pins s σ H _ I h) fun d s1 ⟨H1, I1, q1⟩ => ?_)
  cases d with
  | true => exact ha pins s1 σ H1 Q I1 q1
  | false => exact hb pins s1 σ H1 Q I1 q1
end
end L2

namespace L2
open PySem PySem.Spec PyProof.Rows

def SqL (K : PySem.W.Frag) (H : Hp) (a : Addr) (xs : List V) : Prop :=
  Rd H a (.lst xs) ∨
    ∃ (o : Obj) (its : Array Value) (n : Nat), K.lookup a = some o ∧ o.cls = .type "list" ∧ o.dict = none ∧ o.data = .seq its n ∧ its.size ≤ sizeLine ∧ Vals xs its.toList
def SqT (K : PySem.W.Frag) (H : Hp) (a : Addr) (xs : List V) : Prop :=
  Rd H a (.tup xs) ∨
    ∃ (o : Obj) (its : Array Value) (n : Nat), K.lookup a = some o ∧ o.cls = .type "tuple" ∧ o.data = .seq its n ∧ its.size ≤ sizeLine ∧ Vals xs its.toList
def absV : Value → Option V
  | .none => some .non
  | .bool b => some (.bl b)
  | .int i _ => some (.int i)
  | .str x _ => some (.str x)
  | .bytes b _ => some (.byt b)
  | .float b _ => some (.flt b)
  | .ref a => some (.ref a)
  | .type n => some (.ty n)
  | _ => none
theorem RelV.abs {x : V} {u : Value} (r : RelV x u) : absV u = some x := by
  cases x with
  | non => cases r; rfl
  | bl _ => cases r; rfl
  | int _ => obtain ⟨t, rfl⟩ := r; rfl
  | str _ => obtain ⟨t, rfl⟩ := r; rfl
  | byt _ => obtain ⟨t, rfl⟩ := r; rfl
  | flt _ => obtain ⟨t, rfl⟩ := r; rfl
  | ref _ => cases r; rfl
  | ty _ => cases r; rfl
theorem RelV.inj {x y : V} {u : Value} (r : RelV x u) (q : RelV y u) : x = y := Option.some.inj (r.abs.symm.trans q.abs)
theorem Vals.inj : ∀ {xs ys : List V} {us : List Value}, Vals xs us → Vals ys us → xs = ys
  | _, _, _, .nil, .nil => rfl
  | _, _, _, .cons r t, .cons r' t' => by rw [r.inj r', Vals.inj t t']
section
variable {X : Cx} {pins : List (Addr × Obj)} {σ : St} {H : Hp} {s : Shared} {a : Addr} {xs ys : List V}
theorem SqL.of {K : PySem.W.Frag} (h : H a = some (.lst xs)) : SqL K H a xs := .inl (.inl h)
theorem SqT.of {K : PySem.W.Frag} (h : H a = some (.tup xs)) : SqT K H a xs := .inl (.inl h)
theorem Inv.list (I : Inv X pins σ H s) (h : SqL X.K H a xs) : ∃ its : List Value, Vals xs its ∧ PlainL s.heap a its.toArray ∧ xs.length ≤ sizeLine := by
  rcases h with h | ⟨o, its, n, hk, hc, hd, hs, hz, r⟩
  · obtain ⟨z, its, n, r, e⟩ := h.ok I.hok
    exact ⟨its, r, ⟨_, n, e, rfl, rfl, rfl⟩, z⟩
  · refine ⟨its.toList, r, ⟨o, n, I.kIn a o hk, hc, hd, by simpa using hs⟩, ?_⟩
    have e := r.length
    simp only [Array.length_toList] at e
    omega
theorem Inv.tuple (I : Inv X pins σ H s) (h : SqT X.K H a xs) : ∃ its : List Value, Vals xs its ∧ IsTup s.heap a its.toArray ∧ xs.length ≤ sizeLine := by
  rcases h with h | ⟨o, its, n, hk, hc, hs, hz, r⟩
  · obtain ⟨z, its, r, p⟩ := h.ok I.hok
    exact ⟨its, r, p, z⟩
  · refine ⟨its.toList, r, ⟨o, I.kIn a o hk, hc, n, by simpa using hs⟩, ?_⟩
    have e := r.length
    simp only [Array.length_toList] at e
    omega
theorem Inv.list_inj (I : Inv X pins σ H s) (h : SqL X.K H a xs) (h' : SqL X.K H a ys) : xs = ys := by
  obtain ⟨its, r, ⟨o, n, e, _, _, d⟩, _⟩ := I.list h
  obtain ⟨its', r', ⟨o', n', e', _, _, d'⟩, _⟩ := I.list h'
  rw [e] at e'; cases e'
  rw [d] at d'
  injection d' with d1 _
  have : its = its' := by simpa using congrArg Array.toList d1
  subst this
  exact r.inj r'
theorem Inv.tuple_inj (I : Inv X pins σ H s) (h : SqT X.K H a xs) (h' : SqT X.K H a ys) : xs = ys := by
  obtain ⟨its, r, ⟨o, e, _, n, d⟩, _⟩ := I.tuple h
  obtain ⟨its', r', ⟨o', e', _, n', d'⟩, _⟩ := I.tuple h'
  rw [e] at e'; cases e'
  rw [d] at d'
  injection d' with d1 _
  have : its = its' := by simpa using congrArg Array.toList d1
  subst this
  exact r.inj r'
end

abbrev Cx.wish (X : Cx) (E : Value → Shared → Prop) : Cx := { X with xe := E }
abbrev Cx.nox (X : Cx) : Cx := X.wish fun _ _ => False
theorem Cx.Ok.wish {X : Cx} (ok : X.Ok) (E : Value → Shared → Prop) : (X.wish E).Ok :=
  ⟨ok.mod, ok.kind, ok.glob, ok.blt, ok.above, ok.inj, ok.has, ok.cab, ok.hd, ok.frames, ok.stk, ok.exf, ok.bs, ok.bsz, ok.noex, ok.exfs, ok.funs, ok.frf⟩
theorem Cx.Ok.unwish {X : Cx} {E : Value → Shared → Prop} (ok : (X.wish E).Ok) : X.Ok :=
  ⟨ok.mod, ok.kind, ok.glob, ok.blt, ok.above, ok.inj, ok.has, ok.cab, ok.hd, ok.frames, ok.stk, ok.exf, ok.bs, ok.bsz, ok.noex, ok.exfs, ok.funs, ok.frf⟩
section
variable {X : Cx} {pins : List (Addr × Obj)} {σ : St} {H : Hp} {s : Shared} {E : Value → Shared → Prop}
theorem Inv.wish (I : Inv X pins σ H s) (E : Value → Shared → Prop) : Inv (X.wish E) pins σ H s := ⟨I.ok.wish E, I.os, I.bare, I.base, I.loc, I.cell, I.free, I.freeC, I.pin, I.hok, I.len⟩
theorem Inv.unwish (I : Inv (X.wish E) pins σ H s) : Inv X pins σ H s := ⟨I.ok.unwish, I.os, I.bare, I.base, I.loc, I.cell, I.free, I.freeC, I.pin, I.hok, I.len⟩
theorem SP.unwish {D : Ends} {f : Flow} {s' : Shared} (h : SP (X.wish E) pins D f s') : SP X pins D f s' := by
  cases f with
  | next => obtain ⟨σ', H', I, q⟩ := h; exact ⟨σ', H', I.unwish, q⟩
  | brk => obtain ⟨σ', H', I, q⟩ := h; exact ⟨σ', H', I.unwish, q⟩
  | cont => obtain ⟨σ', H', I, q⟩ := h; exact ⟨σ', H', I.unwish, q⟩
  | ret u => obtain ⟨v, σ', H', I, r, q⟩ := h; exact ⟨v, σ', H', I.unwish, r, q⟩
theorem PSs.nox {st : List Stmt} {t : TS} (h : PSs X.nox st t) : PSs X st t := fun pins s σ H D I hw =>
  wpAny_mono (h pins s σ H D (I.wish _) hw) (fun _ _ q => q.unwish) fun _ _ z => False.elim z
end

section
variable {X : Cx} {st : Stmt} {rest : List Stmt} {t u : TS} {e : Expr} {te : TE} {pos : Pos}
def tNext : TS := fun D σ H => D.nx σ H
def tSeq (t u : TS) : TS := fun D σ H => t { D with nx := u D } σ H
theorem pss_nil : PSs X [] tNext := fun _ _ σ H _ I h => wpAny_execs_nil ⟨σ, H, I, h⟩
theorem pss_cons (h1 : PS X st t) (h2 : PSs X rest u) : PSs X (st :: rest) (tSeq t u) := by
  intro pins s σ H D I h
  refine wpAny_execs_cons (thn (h1 pins s σ H { D with nx := u D } I h) fun f s1 q => ?_)
  cases f with
  | next =>
    obtain ⟨σ', H', I', q⟩ := q
    exact h2 pins s1 σ' H' D I' q
  | ret v => exact q
  | brk => exact q
  | cont => exact q
theorem pss_one (h1 : PS X st t) : PSs X [st] t := by
  intro pins s σ H D I h
  refine wpAny_execs_cons (thn (h1 pins s σ H D I h) fun f s1 q => ?_)
  cases f with
  | next => exact wpAny_execs_nil q
  | ret v => exact q
  | brk => exact q
  | cont => exact q
theorem Inv.quiet {pins : List (Addr × Obj)} {σ : St} {H : Hp} {s : Shared} (I : Inv X pins σ H s) : interactive X.env = false := by simp [interactive, I.ok.kind]
def tDrop (te : TE) : TS := fun D σ H => te σ H fun _ H1 => D.nx σ H1
theorem ps_expr (he : PE X e te) (hs : swapsWith e none pos.line X.env = pure false := by rfl) : PS X (.Expr e pos) (tDrop te) := by
  intro pins s σ H D I h
  exact wpAny_Expr_any (thn (he pins s σ H _ I h) fun v s1 ⟨x, H1, I1, r1, q1⟩ => ⟨σ, H1, I1, q1⟩) I.quiet hs
def tRet (te : TE) : TS := fun D σ H => te σ H D.rt
theorem ps_ret (he : PE X e te) : PS X (.Return (some e) pos) (tRet te) := by
  intro pins s σ H D I h
  exact wpAny_Return_some (thn (he pins s σ H _ I h) fun v s1 ⟨x, H1, I1, r1, q1⟩ => ⟨x, σ, H1, I1, r1, q1⟩)
def tRetN : TS := fun D _ H => D.rt .non H
def tIfS (c : TT) (t u : TS) : TS := fun D σ H => c σ H fun b H1 => if b = true then t D σ H1 else u D σ H1
theorem ps_if {c : Expr} {a b : List Stmt} {tc : TT} (hc : PT X c tc) (ha : PSs X a t) (hb : PSs X b u) : PS X (.If c a b pos) (tIfS tc t u) := by
  intro pins s σ H D I h
  refine wpAny_If (thn (hc pins s σ H _ I h) fun d s1 ⟨H1, I1, q1⟩ => ?_)
  cases d with
  | true => exact ha pins s1 σ H1 D I1 q1
  | false => exact hb pins s1 σ H1 D I1 q1
end

abbrev TG := V → St → Hp → (St → Hp → Prop) → Prop
abbrev TGs := List V → St → Hp → (St → Hp → Prop) → Prop
def PG (X : Cx) (target : Expr) (t : TG) : Prop :=
  ∀ (pins : List (Addr × Obj)) (s : Shared) (σ : St) (H : Hp) (v : V) (u : Value) (Q : St → Hp → Prop), Inv X pins σ H s → RelV v u → t v σ H Q →
    wpAny (model X.prog X.w) X.A (assign target X.env u) (fun _ s' => ∃ σ' H', Inv X pins σ' H' s' ∧ Q σ' H') X.xe s
def PGs (X : Cx) (ts : List Expr) (t : TGs) : Prop :=
  ∀ (pins : List (Addr × Obj)) (s : Shared) (σ : St) (H : Hp) (vs : List V) (us : List Value) (Q : St → Hp → Prop), Inv X pins σ H s → Vals vs us → t vs σ H Q →
    wpAny (model X.prog X.w) X.A (assignInOrder ((assignEach ts X.env).map (·.2)) us) (fun _ s' => ∃ σ' H', Inv X pins σ' H' s' ∧ Q σ' H') X.xe s
section
variable {X : Cx} {pos : Pos}
def gName (i : Nat) : TG := fun v σ H Q => Q (σ.set i (some v)) H
theorem pg_name {i : Nat} {x : Str} (hN : X.N.Nodup) (hi : X.N[i]? = some x) (hx : Loc X.env.scope x) (hf : X.fn x = true ∨ X.env.scope.names.lookup x = some .local := by first | exact .inl rfl | exact .inr rfl | assumption) : PG X (.Name x pos) (gName i) := by
  intro pins s σ H v u Q I r h
  exact wpAny_assign_Name (store_ok I hN hi hx r (fun s' I' => ⟨_, H, I', h⟩) hf)
def gNil : TGs := fun vs σ H Q => vs = [] ∧ Q σ H
def gCons (t : TG) (u : TGs) : TGs := fun vs σ H Q => ∃ v r, vs = v :: r ∧ t v σ H fun σ' H' => u r σ' H' Q
theorem pgs_nil : PGs X [] gNil := by
  intro pins s σ H vs us Q I r h
  obtain ⟨e, h⟩ := h
  subst e
  cases r
  exact assignInOrder_nil ⟨σ, H, I, h⟩
theorem pgs_cons {e : Expr} {es : List Expr} {t : TG} {u : TGs} (h1 : PG X e t) (h2 : PGs X es u)
    (hs : (assignEach (e :: es) X.env).map (·.2) = assign e X.env :: (assignEach es X.env).map (·.2) := by rfl) : PGs X (e :: es) (gCons t u) := by
  intro pins s σ H vs us Q I r h
  obtain ⟨v, vr, e1, h⟩ := h
  subst e1
  cases r with
  | cons r rr =>
    rw [hs]
    refine assignInOrder_cons (thn (h1 pins s σ H _ _ _ I r h) fun _ s1 ⟨σ1, H1, I1, q1⟩ => ?_)
    exact h2 pins s1 σ1 H1 _ _ Q I1 rr q1
def gTup (K : PySem.W.Frag) (n : Nat) (t : TGs) : TG := fun v σ H Q => ∃ a xs, v = .ref a ∧ SqT K H a xs ∧ xs.length = n ∧ t xs σ H Q
theorem pg_tup {es : List Expr} {k : Nat} {t : TGs} {n : Nat} (hc : X.calm = true) (h : PGs X es t)
    (hn : (assignEach es X.env).length = n := by rfl) (hst : (assignEach es X.env).findIdx? (·.1) = none := by rfl) : PG X (.Tuple es k pos) (gTup X.K n t) := by
  intro pins s σ H v u Q I r hw
  obtain ⟨a, xs, e1, hq, hl, hw⟩ := hw
  subst e1
  cases r
  obtain ⟨its, rv, ht, hz⟩ := I.tuple hq
  refine assign_Tuple_tuple (I.ok.hd hc) ht (by simp [hn, ← hl, rv.length]) hst fun h' hx => ?_
  have I1 : Inv X pins σ H { s with heap := h' } := I.kept (t' := s.toks) fun b o e => hx b o (Nat.ne_of_lt (Heap.lt_size e)) e
  exact h pins _ σ H xs _ Q I1 (by simpa using rv) hw
def tAsg (te : TE) (g : TG) : TS := fun D σ H => te σ H fun x H1 => g x σ H1 D.nx
theorem ps_set {i : Nat} {x : Str} {e : Expr} {te : TE} {pos' : Pos} (hN : X.N.Nodup) (hi : X.N[i]? = some x) (hx : Loc X.env.scope x) (he : PE X e te) (hs : swapsWith e (some (.Name x pos')) pos.line X.env = pure false := by rfl) (hf : X.fn x = true ∨ X.env.scope.names.lookup x = some .local := by first | exact .inl rfl | exact .inr rfl | assumption) :
    PS X (.Assign [.Name x pos'] e pos) (tAsg te (gName i)) := by
  intro pins s σ H D I h
  refine wpAny_Assign_Name (thn (he pins s σ H _ I h) fun v s1 ⟨y, H1, I1, r1, q1⟩ => ?_) hs
  exact store_ok I1 hN hi hx r1 (fun s2 I2 => ⟨_, H1, I2, q1⟩) hf
end

section
variable {X : Cx} {pos : Pos}
def tWhile (c : TT) (tb : TS) : TS := fun D σ H => ∃ W : Nat → St → Hp → Prop, (∃ m, W m σ H) ∧ ∀ m σ H, W m σ H →
  c σ H fun b H1 => if b = true then ∃ N : St → Hp → Prop, (∀ σ' H', N σ' H' → ∃ m', m' < m ∧ W m' σ' H') ∧ tb { D with nx := N, ct := N, bk := D.nx } σ H1 else D.nx σ H1
theorem ps_while {c : Expr} {body : List Stmt} {tc : TT} {tb : TS} (hp : PassesOwn (model X.prog X.w) X.A X.env X.xe) (hc : PT X c tc) (hb : PSs X body tb) : PS X (.While c body [] pos) (tWhile tc tb) := by
  intro pins s σ H D I h
  obtain ⟨W, ⟨m0, w0⟩, turn⟩ := h
  refine wpAny_While (codeAny_whileLoop (fun n s' => ∃ σ' H', Inv X pins σ' H' s' ∧ W n σ' H') ?_ m0 ⟨σ, H, I, w0⟩)
  rintro n s1 ⟨σ1, H1, I1, w1⟩
  refine wpAny_passesOwn hp (thn (hc pins s1 σ1 H1 _ I1 (turn n σ1 H1 w1)) fun b s2 ⟨H2, I2, q2⟩ => ?_)
  cases b with
  | true =>
    obtain ⟨N, hN, q2⟩ := q2
    rw [if_pos rfl]
    refine wpAny_passesOwn hp (thn (hb pins s2 σ1 H2 _ I2 q2) fun f s3 q3 => ?_)
    cases f with
    | next =>
      obtain ⟨σ3, H3, I3, n3⟩ := q3
      obtain ⟨m', hm, w3⟩ := hN σ3 H3 n3
      exact ⟨m', hm, σ3, H3, I3, w3⟩
    | cont =>
      obtain ⟨σ3, H3, I3, n3⟩ := q3
      obtain ⟨m', hm, w3⟩ := hN σ3 H3 n3
      exact ⟨m', hm, σ3, H3, I3, w3⟩
    | brk => exact q3
    | ret v => exact q3
  | false =>
    rw [if_neg Bool.false_ne_true]
    exact wpAny_execs_nil ⟨σ1, H2, I2, q2⟩
end

structure It where
  go : Nat → Hp → Prop
  yld : Nat → Hp → V → Hp → Prop
  stop : Nat → Hp → Prop
def FpOk (X : Cx) (pins : List (Addr × Obj)) (H : Hp) (b : Addr) : Prop :=
  H b = none ∧ b ≠ X.env.locals ∧ b ∉ X.fs ∧ (b ∈ X.ex ∨ X.s_0.heap.objs.size ≤ b) ∧ (∀ x c, X.env.cells.lookup x = some c → c ≠ b) ∧ ∀ p ∈ X.pn ++ pins, p.1 ≠ b
theorem Inv.fpOk {X : Cx} {pins : List (Addr × Obj)} {σ : St} {H H' : Hp} {s : Shared} {b : Addr} (I : Inv X pins σ H s) (hb : s.heap.objs.size ≤ b) (hn : H' b = none) : FpOk X pins H' b := by
  refine ⟨hn, Nat.ne_of_gt (Nat.lt_of_lt_of_le I.lt hb), I.nofs hb, .inr (Nat.le_trans I.sz hb), fun x c e z => ?_, fun p hp z => ?_⟩
  · obtain ⟨v, q⟩ := I.cell x c e
    exact absurd (Nat.lt_of_lt_of_le q.lt (by rw [z]; exact hb)) (Nat.lt_irrefl _)
  · exact absurd (Nat.lt_of_lt_of_le (Heap.lt_size (I.pin p hp).1) (by rw [z]; exact hb)) (Nat.lt_irrefl _)
structure Turn (P : Program) (w : World) (K : PySem.W.Frag) (tg : Expr) (J : It) (fp : List Addr) (it : Addr) (tn : Nat → Heap → Prop) : Prop where
  mem : it ∈ fp
  obj : ∀ i h, tn i h → ∀ b ∈ fp, ∃ o, h.get? b = some o ∧ ∀ v, o.data ≠ .cell v
  keep : ∀ i h h', tn i h → (∀ b ∈ fp, ∀ o, h.get? b = some o → h'.get? b = some o) → tn i h'
  item : ∀ (X : Cx), X.prog = P → X.w = w → X.K = K → X.calm = true → ∀ (i : Nat) (pins : List (Addr × Obj)) (s : Shared) (σ : St) (H : Hp) (E : Value → Shared → Prop), Inv X pins σ H s → (∀ b ∈ fp, FpOk X pins H b) → tn i s.heap → J.go i H →
    wpAny (model P w) X.A (pyNext (.ref it)) (fun r s1 => ∃ u, r = some u ∧
      wpAny (model P w) X.A (letOwnedTupleGo tg (.ref it) u) (fun _ s2 => ∃ x H', Inv X pins σ H' s2 ∧ RelV x u ∧ J.yld i H x H' ∧ tn (i + 1) s2.heap ∧ ∀ b ∈ fp, H' b = none) E s1) E s
  done : ∀ (X : Cx), X.prog = P → X.w = w → X.K = K → X.calm = true → ∀ (i : Nat) (pins : List (Addr × Obj)) (s : Shared) (σ : St) (H : Hp) (E : Value → Shared → Prop), Inv X pins σ H s → (∀ b ∈ fp, FpOk X pins H b) → tn i s.heap → J.stop i H →
    wpAny (model P w) X.A (pyNext (.ref it)) (fun r s1 => r = none ∧ Inv X pins σ H s1) E s
  self : ∀ (A : Around) (i : Nat) (s : Shared) (Q : Value → Shared → Prop) (E : Value → Shared → Prop), tn i s.heap → Q (.ref it) s → wpAny (model P w) A (pyIter (.ref it)) Q E s
abbrev TI := St → Hp → (It → Hp → Prop) → Prop
def PIE (X : Cx) (pins : List (Addr × Obj)) (σ : St) (tg : Expr) (R : It → Hp → Prop) (itv : Value) (s2 : Shared) : Prop :=
  ∃ (it : Addr) (fp : List Addr) (tn : Nat → Heap → Prop) (J : It) (H' : Hp), itv = .ref it ∧ Inv X pins σ H' s2 ∧ Turn X.prog X.w X.K tg J fp it tn ∧ tn 0 s2.heap ∧ (∀ b ∈ fp, FpOk X pins H' b) ∧ R J H'
def PI (X : Cx) (tg iter : Expr) (wi : TI) : Prop :=
  ∀ (pins : List (Addr × Obj)) (s : Shared) (σ : St) (H : Hp) (R : It → Hp → Prop), Inv X pins σ H s → wi σ H R →
    wpAny (model X.prog X.w) X.A (eval iter X.env) (fun v s1 => wpAny (model X.prog X.w) X.A (pyIter v) (PIE X pins σ tg R) X.xe s1) X.xe s

theorem go_of {M : Model} {A : Around} {E : Value → Shared → Prop} {s : Shared} {tg : Expr} {it : Addr} {u : Value} {o : Obj} {n : String} {vs : Array Value} {Q : Unit → Shared → Prop} (ho : s.heap.get? it = some o) (hc : o.cls = .type n) (hd : o.data = .fields vs)
    (hn : ["enumerate", "zip", "dict_itemiterator", "dict_reverseitemiterator", "odict_iterator", "itertools.zip_longest", "itertools.pairwise"].contains n = false) (hQ : Q () s) : wpAny M A (letOwnedTupleGo tg (.ref it) u) Q E s := by
  unfold letOwnedTupleGo
  cases tg <;> first
    | exact wpAny_pure hQ
    | (cases u <;> first
        | exact wpAny_pure hQ
        | (refine wpAny_bind (wpAny_load ho ?_)
           rw [hc, hd]
           show wpAny M A (if (["enumerate", "zip", "dict_itemiterator", "dict_reverseitemiterator", "odict_iterator", "itertools.zip_longest", "itertools.pairwise"].contains n && vs[0]? == some (rawInt _)) = true then _ else _) Q E s
           rw [if_neg (by intro h; rw [hn, Bool.false_and] at h; cases h)]
           exact wpAny_pure hQ))

def Itl (K : PySem.W.Frag) (a : Addr) : It :=
  ⟨fun i H => ∃ xs x, SqL K H a xs ∧ xs[i]? = some x, fun i H x H' => H' = H ∧ ∀ xs, SqL K H a xs → xs[i]? = some x, fun i H => ∃ xs, SqL K H a xs ∧ xs.length ≤ i⟩
def Itt (K : PySem.W.Frag) (a : Addr) : It :=
  ⟨fun i H => ∃ xs x, SqT K H a xs ∧ xs[i]? = some x, fun i H x H' => H' = H ∧ ∀ xs, SqT K H a xs → xs[i]? = some x, fun i H => ∃ xs, SqT K H a xs ∧ xs.length ≤ i⟩
def Itr (lo : Int) (n : Nat) : It := ⟨fun i _ => i < n, fun i H x H' => H' = H ∧ x = .int (lo + i), fun i _ => n ≤ i⟩
theorem turn_list {P : Program} {w : World} {K : PySem.W.Frag} {tg : Expr} (a it : Addr) : Turn P w K tg (Itl K a) [it] it (fun i h => h.IsListIter it a i) where
  mem := by simp
  obj := fun i h st b hb => by
    have e : b = it := by simpa using hb
    subst e
    obtain ⟨o, e, c, d⟩ := st
    exact ⟨o, e, fun v z => by rw [d] at z; cases z⟩
  keep := fun i h h' st k => st.at fun o e => k it (by simp) o e
  item := by
    intro X hP hw hK hc i pins s σ H E I hf st hg
    subst hP hw hK
    obtain ⟨xs, x, hq, hx⟩ := hg
    obtain ⟨its, rv, p, hz⟩ := I.list hq
    obtain ⟨u, hu, ru⟩ := rv.get hx
    obtain ⟨f0, f1, f2, f3, f4, f5⟩ := hf it (by simp)
    refine wpAny_pyNext_list_item st p.isList (x := u) (by simpa using hu) fun h' st' sb => ?_
    have I1 : Inv X pins σ H { s with heap := h' } := I.turned (t' := s.toks) (fun b o hb e => (sb.2 b hb).trans e) f0 f1 f3 f4 f5
    obtain ⟨o, e, c, d⟩ := id st'
    exact ⟨u, rfl, go_of (s := { s with heap := h' }) e c d (by decide) ⟨x, H, I1, ru, ⟨rfl, fun ys hy => by rw [I.list_inj hy hq]; exact hx⟩, st', fun b hb => (hf b hb).1⟩⟩
  done := by
    intro X hP hw hK hc i pins s σ H E I hf st hg
    subst hP hw hK
    obtain ⟨xs, hq, hx⟩ := hg
    obtain ⟨its, rv, p, hz⟩ := I.list hq
    obtain ⟨f0, f1, f2, f3, f4, f5⟩ := hf it (by simp)
    have hl := rv.length
    exact wpAny_pyNext_list_end (I.ok.hd hc) st p.isList (by simp; omega) fun h' eb => ⟨rfl, I.turned (t' := s.toks) (fun b o hb e => eb b o hb e) f0 f1 f3 f4 f5⟩
  self := fun _ _ _ _ _ st h => wpAny_pyIter_listiter st h
theorem turn_tuple {P : Program} {w : World} {K : PySem.W.Frag} {tg : Expr} (a it : Addr) : Turn P w K tg (Itt K a) [it] it (fun i h => h.IsTupleIter it a i) where
  mem := by simp
  obj := fun i h st b hb => by
    have e : b = it := by simpa using hb
    subst e
    obtain ⟨o, e, c, d⟩ := st
    exact ⟨o, e, fun v z => by rw [d] at z; cases z⟩
  keep := fun i h h' st k => st.at fun o e => k it (by simp) o e
  item := by
    intro X hP hw hK hc i pins s σ H E I hf st hg
    subst hP hw hK
    obtain ⟨xs, x, hq, hx⟩ := hg
    obtain ⟨its, rv, p, hz⟩ := I.tuple hq
    obtain ⟨u, hu, ru⟩ := rv.get hx
    obtain ⟨f0, f1, f2, f3, f4, f5⟩ := hf it (by simp)
    refine wpAny_pyNext_tuple_item st (show s.heap.IsTuple a its.toArray from p) (x := u) (by simpa using hu) fun h' st' sb => ?_
    have I1 : Inv X pins σ H { s with heap := h' } := I.turned (t' := s.toks) (fun b o hb e => (sb.2 b hb).trans e) f0 f1 f3 f4 f5
    obtain ⟨o, e, c, d⟩ := id st'
    exact ⟨u, rfl, go_of (s := { s with heap := h' }) e c d (by decide) ⟨x, H, I1, ru, ⟨rfl, fun ys hy => by rw [I.tuple_inj hy hq]; exact hx⟩, st', fun b hb => (hf b hb).1⟩⟩
  done := by
    intro X hP hw hK hc i pins s σ H E I hf st hg
    subst hP hw hK
    obtain ⟨xs, hq, hx⟩ := hg
    obtain ⟨its, rv, p, hz⟩ := I.tuple hq
    obtain ⟨f0, f1, f2, f3, f4, f5⟩ := hf it (by simp)
    have hl := rv.length
    exact wpAny_pyNext_tuple_end (I.ok.hd hc) st (show s.heap.IsTuple a its.toArray from p) (by simp; omega) fun h' eb => ⟨rfl, I.turned (t' := s.toks) (fun b o hb e => eb b o hb e) f0 f1 f3 f4 f5⟩
  self := fun _ _ _ _ _ st h => wpAny_pyIter_tupleiter st h
theorem turn_range {P : Program} {w : World} {K : PySem.W.Frag} {tg : Expr} (it : Addr) (lo : Int) (n : Nat) : Turn P w K tg (Itr lo n) [it] it (fun i h => IsRangeIter h it (lo + (i : Nat) * 1) ((n : Int) - (i : Nat)) 1) where
  mem := by simp
  obj := fun i h st b hb => by
    have e : b = it := by simpa using hb
    subst e
    exact ⟨_, st, fun v z => by
      have z' : Data.fields _ = Data.cell v := z
      cases z'⟩
  keep := fun i h h' st k => k it (by simp) _ st
  item := by
    intro X hP hw hK hc i pins s σ H E I hf st hg
    subst hP hw hK
    obtain ⟨f0, f1, f2, f3, f4, f5⟩ := hf it (by simp)
    have W := Walks.range (prog := X.prog) (w := X.w) (I.ok.hd hc) it lo 1 n
    refine W.item i s _ _ hg st fun v h' tk hv st' kk => ?_
    obtain ⟨t, rfl⟩ := hv
    have I1 : Inv X pins σ H { s with heap := h', toks := tk } := I.turned (fun b o hb e => kk b o (by simpa using hb) e) f0 f1 f3 f4 f5
    refine ⟨_, rfl, go_of (s := { s with heap := h', toks := tk }) (n := "range_iterator") st' rfl rfl (by decide) ⟨.int (lo + i), H, I1, ⟨t, ?_⟩, ⟨rfl, rfl⟩, st', fun b hb => (hf b hb).1⟩⟩
    rw [Int.mul_one]
  done := by
    intro X hP hw hK hc i pins s σ H E I hf st hg
    subst hP hw hK
    obtain ⟨f0, f1, f2, f3, f4, f5⟩ := hf it (by simp)
    exact wpAny_pyNext_range_end (I.ok.hd hc) st (by have : n ≤ i := hg; omega) fun h' eb => ⟨rfl, I.turned (t' := s.toks) (fun b o hb e => eb b o hb e) f0 f1 f3 f4 f5⟩
  self := fun _ _ _ _ _ st h => wpAny_pyIter_rangeiter st h
end L2

namespace L2
open PySem PySem.Spec PyProof.Rows
section
variable {X : Cx} {tg : Expr}
def iList (K : PySem.W.Frag) (tl : TE) : TI := fun σ H R => tl σ H fun x H1 => ∃ a, x = .ref a ∧ (∃ xs, SqL K H1 a xs) ∧ R (Itl K a) H1
def iTup (K : PySem.W.Frag) (tl : TE) : TI := fun σ H R => tl σ H fun x H1 => ∃ a, x = .ref a ∧ (∃ xs, SqT K H1 a xs) ∧ R (Itt K a) H1
theorem pi_list {l : Expr} {tl : TE} (hl : PE X l tl) : PI X tg l (iList X.K tl) := by
  intro pins s σ H R I h
  refine thn (hl pins s σ H _ I h) fun v s1 ⟨x, H1, I1, r1, q1⟩ => ?_
  obtain ⟨a, e, ⟨xs, hq⟩, q⟩ := q1
  subst e
  cases r1
  obtain ⟨its, rv, p, hz⟩ := I1.list hq
  refine wpAny_pyIter_list p.isList ?_
  refine ⟨s1.heap.objs.size, [s1.heap.objs.size], _, _, H1, rfl, I1.kept (t' := s1.toks) fun b o e => Heap.get?_push_of_some _ e, turn_list a _, ⟨_, Heap.get?_push_size _ rfl, rfl, rfl⟩, fun b hb => ?_, q⟩
  have e : b = s1.heap.objs.size := by simpa using hb
  subst e
  exact I1.fpOk (Nat.le_refl _) (I1.hok.fresh (Nat.le_refl _))
theorem pi_tup {l : Expr} {tl : TE} (hl : PE X l tl) : PI X tg l (iTup X.K tl) := by
  intro pins s σ H R I h
  refine thn (hl pins s σ H _ I h) fun v s1 ⟨x, H1, I1, r1, q1⟩ => ?_
  obtain ⟨a, e, ⟨xs, hq⟩, q⟩ := q1
  subst e
  cases r1
  obtain ⟨its, rv, p, hz⟩ := I1.tuple hq
  refine wpAny_pyIter_tuple (show s1.heap.IsTuple a its.toArray from p) ?_
  refine ⟨s1.heap.objs.size, [s1.heap.objs.size], _, _, H1, rfl, I1.kept (t' := s1.toks) fun b o e => Heap.get?_push_of_some _ e, turn_tuple a _, ⟨_, Heap.get?_push_size _ rfl, rfl, rfl⟩, fun b hb => ?_, q⟩
  have e : b = s1.heap.objs.size := by simpa using hb
  subst e
  exact I1.fpOk (Nat.le_refl _) (I1.hok.fresh (Nat.le_refl _))
theorem range_it {pins : List (Addr × Obj)} {σ : St} {H : Hp} {s : Shared} {R : It → Hp → Prop} {E : Value → Shared → Prop} {lo hi : Int} {t u v : Tok} {tk : Nat} (I : Inv X pins σ H s) (h1 : -(2 ^ 62) ≤ lo) (h2 : lo < 2 ^ 62) (h3 : -(2 ^ 62) ≤ hi) (h4 : hi < 2 ^ 62)
    (q : R (Itr lo (hi - lo).toNat) H) : wpAny (model X.prog X.w) X.A (pyIter (.ref s.heap.objs.size)) (PIE X pins σ tg R) E { s with heap := s.heap.push { cls := .type "range", data := .fields #[.int lo t, .int hi u, .int 1 v] }, toks := tk } := by
  refine wpAny_pyIter_range (IsRange.new ..) (small_one h1 h2 h3 h4) ?_
  have I1 : Inv X pins σ H { s with heap := s.heap.push { cls := .type "range", data := .fields #[.int lo t, .int hi u, .int 1 v] }, toks := tk } := I.kept fun b o e => Heap.get?_push_of_some _ e
  refine ⟨(s.heap.push { cls := .type "range", data := .fields #[.int lo t, .int hi u, .int 1 v] }).objs.size, [(s.heap.push { cls := .type "range", data := .fields #[.int lo t, .int hi u, .int 1 v] }).objs.size], _, _, H, rfl,
    I1.kept (t' := tk) fun b o e => Heap.get?_push_of_some _ e, turn_range _ lo (hi - lo).toNat, ?_, fun b hb => ?_, q⟩
  · have e1 : lo + ((0 : Nat) : Int) * 1 = lo := by simp
    have e2 : (((hi - lo).toNat : Nat) : Int) - ((0 : Nat) : Int) = Builtin.Range.rangeSize lo hi 1 := by rw [rangeSize_one]; split <;> omega
    show IsRangeIter _ _ (lo + ((0 : Nat) : Int) * 1) ((((hi - lo).toNat : Nat) : Int) - ((0 : Nat) : Int)) 1
    rw [e1, e2]
    exact Heap.get?_push_size _ rfl
  · have e : b = (s.heap.push { cls := .type "range", data := .fields #[.int lo t, .int hi u, .int 1 v] }).objs.size := by simpa using hb
    subst e
    exact I1.fpOk (Nat.le_refl _) (I1.hok.fresh (Nat.le_refl _))
def iRng2 (ta : TA) : TI := fun σ H R => ta σ H fun vs H1 => ∃ i j : Int, vs = [.int i, .int j] ∧ (-(2 ^ 62) ≤ i ∧ i < 2 ^ 62 ∧ -(2 ^ 62) ≤ j ∧ j < 2 ^ 62) ∧ R (Itr i (j - i).toNat) H1
theorem pi_range2 {a b : Expr} {ta : TA} {p pos : Pos} (hg : Gl X "range") (hm : X.mg "range" = none) (ha : PA X [a, b] ta) (hs : starEach [a, b] X.env = [(false, eval a X.env), (false, eval b X.env)] := by rfl) (hs2 : starEach [b] X.env = [(false, eval b X.env)] := by rfl) :
    PI X tg (.Call (.Name "range" p) [a, b] [] pos) (iRng2 ta) := by
  intro pins s σ H R I h
  refine Call_ (ld_blt I hg hm boot_range (PyProof.Rows.callWith_type1 (thn (ha pos pins s σ H _ I h) fun us s1 ⟨vs, H1, I1, r1, q1⟩ => ?_) (by rw [hs, hs2]) (by rw [hs2]; rfl)))
  obtain ⟨i, j, e, ⟨q1, q2, q3, q4⟩, q⟩ := q1
  subst e
  cases r1 with
  | cons r rr =>
    cases rr with
    | cons r' rr =>
      cases rr
      obtain ⟨t, rfl⟩ := r
      obtain ⟨t', rfl⟩ := r'
      exact call_range_2 (range_it I1 q1 q2 q3 q4 q)

def tFor (wi : TI) (g : TG) (tb : TS) : TS := fun D σ H => wi σ H fun J H1 => ∃ W : Nat → Nat → St → Hp → Prop, (∃ m, W 0 m σ H1) ∧ ∀ i m σ H, W i m σ H →
  (J.stop i H ∧ D.nx σ H) ∨ (J.go i H ∧ ∃ N : St → Hp → Prop, (∀ σ' H', N σ' H' → ∃ m', m' < m ∧ W (i + 1) m' σ' H') ∧ ∀ x H', J.yld i H x H' → g x σ H' fun σ2 H2 => tb { D with nx := N, ct := N, bk := D.nx } σ2 H2)
def pinsAt (fp : List Addr) (h : Heap) : List (Addr × Obj) := fp.filterMap fun b => (h.get? b).map fun o => (b, o)
theorem mem_pinsAt {fp : List Addr} {h : Heap} {b : Addr} {o : Obj} (hb : b ∈ fp) (e : h.get? b = some o) : (b, o) ∈ pinsAt fp h := List.mem_filterMap.mpr ⟨b, hb, by rw [e]; rfl⟩
theorem of_pinsAt {fp : List Addr} {h : Heap} {p : Addr × Obj} (hp : p ∈ pinsAt fp h) : p.1 ∈ fp ∧ h.get? p.1 = some p.2 := by
  obtain ⟨b, hb, e⟩ := List.mem_filterMap.mp hp
  cases q : h.get? b with
  | none => rw [q] at e; cases e
  | some o =>
    rw [q] at e
    have e' : (b, o) = p := Option.some.inj e
    subst e'
    exact ⟨hb, q⟩
theorem Inv.pinned {pins : List (Addr × Obj)} {σ : St} {H : Hp} {s : Shared} {fp : List Addr} (I : Inv X pins σ H s) (hf : ∀ b ∈ fp, FpOk X pins H b) (ho : ∀ b ∈ fp, ∃ o, s.heap.get? b = some o ∧ ∀ v, o.data ≠ .cell v) : Inv X (pins ++ pinsAt fp s.heap) σ H s :=
  I.pins_of fun p hp => (List.mem_append.mp hp).elim (fun z => I.pin p (List.mem_append_right _ z)) fun z => by
    obtain ⟨hb, e⟩ := of_pinsAt z
    obtain ⟨f0, f1, f2, _⟩ := hf p.1 hb
    obtain ⟨o, e', d⟩ := ho p.1 hb
    rw [e] at e'; cases e'
    exact ⟨e, f0, f1, f2, d⟩
theorem Inv.unpinned {pins pl : List (Addr × Obj)} {σ : St} {H : Hp} {s : Shared} (I : Inv X (pins ++ pl) σ H s) : Inv X pins σ H s := I.pins_of fun p hp => I.pin p (List.mem_append_right _ (List.mem_append_left _ hp))
theorem ps_for {iter : Expr} {body : List Stmt} {wi : TI} {g : TG} {tb : TS} {pos : Pos} (hp : PassesOwn (model X.prog X.w) X.A X.env X.xe) (hc : X.calm = true) (hi : PI X tg iter wi) (hg : PG X tg g) (hb : PSs X body tb)
    (hs : ∀ x, foldedSetIterable iter X.env x = pure x := by intro _; rfl) : PS X (.For tg iter body [] pos) (tFor wi g tb) := by
  intro pins s σ H D I h
  refine wpAny_For (thn (hi pins s σ H _ I h) fun v s1 h1 => thn h1 fun itv s2 h2 => ?_) hs
  obtain ⟨it, fp, tn, J, H2, e, I2, T, st2, f2, W, ⟨m0, w0⟩, turn⟩ := h2
  subst e
  -- what stays true of the iterator's objects through the loop
  have stat : ∀ {H' : Hp}, (∀ b ∈ fp, H' b = none) → ∀ b ∈ fp, FpOk X pins H' b := fun hn b hb => ⟨hn b hb, (f2 b hb).2⟩
  refine codeAny_forLoop_any (fun n s' => ∃ i σ' H', Inv X pins σ' H' s' ∧ tn i s'.heap ∧ (∀ b ∈ fp, H' b = none) ∧ W i n σ' H') ?_ m0 ⟨0, σ, H2, I2, st2, fun b hb => (f2 b hb).1, w0⟩
  rintro n s3 ⟨i, σ3, H3, I3, st3, fr3, w3⟩
  rcases turn i n σ3 H3 w3 with ⟨stop, qn⟩ | ⟨go, N, hN, step⟩
  · refine wpAny_passesOwn hp (thn (T.done X rfl rfl rfl hc i pins s3 σ3 H3 X.xe I3 (stat fr3) st3 stop) fun r s4 ⟨hr, I4⟩ => ?_)
    subst hr
    exact wpAny_execs_nil ⟨σ3, H3, I4, qn⟩
  · refine wpAny_passesOwn hp (thn (T.item X rfl rfl rfl hc i pins s3 σ3 H3 X.xe I3 (stat fr3) st3 go) fun r s4 ⟨u, hr, h4⟩ => ?_)
    subst hr
    refine wpAny_passesOwn hp (thn h4 fun _ s5 ⟨x, H5, I5, r5, y5, st5, fr5⟩ => ?_)
    have I5' := I5.pinned (stat fr5) (T.obj _ _ st5)
    refine wpAny_passesOwn hp (thn (hg _ s5 σ3 H5 x u _ I5' r5 (step x H5 y5)) fun _ s6 ⟨σ6, H6, I6, q6⟩ => ?_)
    refine wpAny_passesOwn hp (thn (hb _ s6 σ6 H6 _ I6 q6) fun f s7 q7 => ?_)
    have again : ∀ {σ7 : St} {H7 : Hp}, Inv X (pins ++ pinsAt fp s5.heap) σ7 H7 s7 → N σ7 H7 → ∃ m, m < n ∧ ∃ i σ' H', Inv X pins σ' H' s7 ∧ tn i s7.heap ∧ (∀ b ∈ fp, H' b = none) ∧ W i m σ' H' := fun {σ7 H7} I7 n7 => by
      obtain ⟨m', hm, w7⟩ := hN σ7 H7 n7
      refine ⟨m', hm, i + 1, σ7, H7, I7.unpinned, T.keep _ _ _ st5 fun b hb o e => (I7.pin (b, o) (List.mem_append_right _ (List.mem_append_right _ (mem_pinsAt hb e)))).1, fun b hb => ?_, w7⟩
      obtain ⟨o, e, d⟩ := T.obj _ _ st5 b hb
      exact (I7.pin (b, o) (List.mem_append_right _ (List.mem_append_right _ (mem_pinsAt hb e)))).2.1
    cases f with
    | next => obtain ⟨σ7, H7, I7, n7⟩ := q7; exact again I7 n7
    | cont => obtain ⟨σ7, H7, I7, n7⟩ := q7; exact again I7 n7
    | brk => obtain ⟨σ7, H7, I7, q7⟩ := q7; exact ⟨σ7, H7, I7.unpinned, q7⟩
    | ret v => obtain ⟨x7, σ7, H7, I7, r7, q7⟩ := q7; exact ⟨x7, σ7, H7, I7.unpinned, r7, q7⟩
end

theorem for_list {K : PySem.W.Frag} {a : Addr} {xs : List V} {g : TG} {tb : TS} {D : Ends} {σ : St} {H : Hp} (Pv : Nat → St → Hp → Prop) (h0 : Pv 0 σ H) (hl : ∀ i σ H, i ≤ xs.length → Pv i σ H → SqL K H a xs)
    (hs : ∀ i x σ H, xs[i]? = some x → Pv i σ H → g x σ H fun σ2 H2 => tb { D with nx := Pv (i + 1), ct := Pv (i + 1), bk := D.nx } σ2 H2) (hd : ∀ σ H, Pv xs.length σ H → D.nx σ H) :
    ∃ W : Nat → Nat → St → Hp → Prop, (∃ m, W 0 m σ H) ∧ ∀ i m σ H, W i m σ H →
      ((Itl K a).stop i H ∧ D.nx σ H) ∨ ((Itl K a).go i H ∧ ∃ N : St → Hp → Prop, (∀ σ' H', N σ' H' → ∃ m', m' < m ∧ W (i + 1) m' σ' H') ∧ ∀ x H', (Itl K a).yld i H x H' → g x σ H' fun σ2 H2 => tb { D with nx := N, ct := N, bk := D.nx } σ2 H2) := by
  refine ⟨fun i m σ H => m = xs.length - i ∧ i ≤ xs.length ∧ Pv i σ H, ⟨xs.length, by simp, Nat.zero_le _, h0⟩, ?_⟩
  rintro i m σ H ⟨rfl, hi, p⟩
  have q := hl i σ H hi p
  by_cases hlt : i < xs.length
  · refine .inr ⟨⟨xs, xs[i], q, by simp [hlt]⟩, Pv (i + 1), fun σ' H' p' => ⟨xs.length - (i + 1), by omega, rfl, hlt, p'⟩, fun x H' y => ?_⟩
    obtain ⟨e, y⟩ := y
    subst e
    exact hs i x σ _ (y xs q) p
  · have e : i = xs.length := by omega
    subst e
    exact .inl ⟨⟨xs, q, Nat.le_refl _⟩, hd σ H p⟩
theorem for_range {lo : Int} {n : Nat} {g : TG} {tb : TS} {D : Ends} {σ : St} {H : Hp} (Pv : Nat → St → Hp → Prop) (h0 : Pv 0 σ H)
    (hs : ∀ i σ H, i < n → Pv i σ H → g (.int (lo + i)) σ H fun σ2 H2 => tb { D with nx := Pv (i + 1), ct := Pv (i + 1), bk := D.nx } σ2 H2) (hd : ∀ σ H, Pv n σ H → D.nx σ H) :
    ∃ W : Nat → Nat → St → Hp → Prop, (∃ m, W 0 m σ H) ∧ ∀ i m σ H, W i m σ H →
      ((Itr lo n).stop i H ∧ D.nx σ H) ∨ ((Itr lo n).go i H ∧ ∃ N : St → Hp → Prop, (∀ σ' H', N σ' H' → ∃ m', m' < m ∧ W (i + 1) m' σ' H') ∧ ∀ x H', (Itr lo n).yld i H x H' → g x σ H' fun σ2 H2 => tb { D with nx := N, ct := N, bk := D.nx } σ2 H2) := by
  refine ⟨fun i m σ H => m = n - i ∧ i ≤ n ∧ Pv i σ H, ⟨n, by simp, Nat.zero_le _, h0⟩, ?_⟩
  rintro i m σ H ⟨rfl, hi, p⟩
  by_cases hlt : i < n
  · refine .inr ⟨hlt, Pv (i + 1), fun σ' H' p' => ⟨n - (i + 1), by omega, rfl, hlt, p'⟩, fun x H' y => ?_⟩
    obtain ⟨e, y⟩ := y
    subst e y
    exact hs i σ _ hlt p
  · have e : i = n := by omega
    subst e
    exact .inl ⟨Nat.le_refl _, hd σ H p⟩
end L2

namespace L2
open PySem PySem.Spec PyProof.Rows

abbrev R2 := V → V → Hp → VK → Prop
def OpR (X : Cx) (f : Value → Value → Sem Value) (r : R2) : Prop :=
  ∀ (pins : List (Addr × Obj)) (s : Shared) (σ : St) (H : Hp) (x y : V) (v u : Value) (Q : VK), Inv X pins σ H s → RelV x v → RelV y u → r x y H Q →
    wpAny (model X.prog X.w) X.A (f v u) (EP X pins σ Q) X.xe s
def UnR (X : Cx) (f : Value → Sem Value) (r : V → Hp → VK → Prop) : Prop :=
  ∀ (pins : List (Addr × Obj)) (s : Shared) (σ : St) (H : Hp) (x : V) (v : Value) (Q : VK), Inv X pins σ H s → RelV x v → r x H Q →
    wpAny (model X.prog X.w) X.A (f v) (EP X pins σ Q) X.xe s
def CallR (X : Cx) (f : Value) (r : List V → Hp → VK → Prop) : Prop :=
  ∀ (pins : List (Addr × Obj)) (s : Shared) (σ : St) (H : Hp) (xs : List V) (us : List Value) (Q : VK), Inv X pins σ H s → Vals xs us → r xs H Q →
    wpAny (model X.prog X.w) X.A (call f us) (EP X pins σ Q) X.xe s
def TruR (X : Cx) (r : V → Hp → (Bool → Hp → Prop) → Prop) : Prop :=
  ∀ (pins : List (Addr × Obj)) (s : Shared) (σ : St) (H : Hp) (x : V) (v : Value) (Q : Bool → Hp → Prop), Inv X pins σ H s → RelV x v → r x H Q →
    wpAny (model X.prog X.w) X.A (truthy v) (TP X pins σ Q) X.xe s

def tOp (r : R2) (ta tb : TE) : TE := fun σ H Q => ta σ H fun x H1 => tb σ H1 fun y H2 => r x y H2 Q
def tUn (r : V → Hp → VK → Prop) (ta : TE) : TE := fun σ H Q => ta σ H fun x H1 => r x H1 Q
def rI (C : Int → Int → Prop) (g : Int → Int → V) : R2 := fun x y H Q => ∃ i j, x = .int i ∧ y = .int j ∧ C i j ∧ Q (g i j) H
def rI0 (g : Int → Int → V) : R2 := fun x y H Q => ∃ i j, x = .int i ∧ y = .int j ∧ Q (g i j) H
def rU (g : Int → V) : V → Hp → VK → Prop := fun x H Q => ∃ i, x = .int i ∧ Q (g i) H

section
variable {X : Cx} {a b c : Expr} {ta tb tc : TE} {pos : Pos}

theorem binT (ha : PE X a ta) (hb : PE X b tb) {pins : List (Addr × Obj)} {s : Shared} {σ : St} {H : Hp} {R : V → V → Hp → Prop} (I : Inv X pins σ H s)
    (h : ta σ H fun x H1 => tb σ H1 fun y H2 => R x y H2) {Q : Value → Shared → Prop} {f : Value → Value → Sem Value}
    (hf : ∀ v u s2 x y H2, Inv X pins σ H2 s2 → RelV x v → RelV y u → R x y H2 → wpAny (model X.prog X.w) X.A (f v u) Q X.xe s2) :
    wpAny (model X.prog X.w) X.A (eval a X.env) (fun v s₁ => wpAny (model X.prog X.w) X.A (eval b X.env) (fun u s₂ => wpAny (model X.prog X.w) X.A (f v u) Q X.xe s₂) X.xe s₁) X.xe s := by
  refine thn (ha pins s σ H _ I h) fun v s1 ⟨x, H1, I1, r1, q1⟩ => ?_
  refine thn (hb pins s1 σ H1 _ I1 q1) fun u s2 ⟨y, H2, I2, r2, q2⟩ => ?_
  exact hf v u s2 x y H2 I2 r1 r2 q2

theorem pe_op {op : Operator} {r : R2} (ho : OpR X (binaryOp op) r) (ha : PE X a ta) (hb : PE X b tb) : PE X (.BinOp a op b pos) (tOp r ta tb) := by
  intro pins s σ H Q I h
  exact wpAny_BinOp (binT ha hb I h fun v u s2 x y H2 I2 rx ry q => ho pins s2 σ H2 x y v u Q I2 rx ry q)
theorem pe_un {op : UnaryOp} {r : V → Hp → VK → Prop} (ho : UnR X (unaryOp op) r) (ha : PE X a ta) : PE X (.UnaryOp op a pos) (tUn r ta) := by
  intro pins s σ H Q I h
  exact UnaryOp_ (thn (ha pins s σ H _ I h) fun v s1 ⟨x, H1, I1, r1, q1⟩ => ho pins s1 σ H1 x v Q I1 r1 q1)
theorem opI {f : Value → Value → Sem Value} {C : Int → Int → Prop} {g : Int → Int → Int}
    (rule : ∀ (i j : Int) (t u : Tok) (s : Shared) (Q : Value → Shared → Prop) (E : Value → Shared → Prop), C i j → Q (.int (g i j) s.toks) { s with toks := s.toks + 1 } → wpAny (model X.prog X.w) X.A (f (.int i t) (.int j u)) Q E s) :
    OpR X f (rI C fun i j => .int (g i j)) := by
  intro pins s σ H x y v u Q I rx ry h
  obtain ⟨i, j, rfl, rfl, hc, q⟩ := h
  obtain ⟨t, rfl⟩ := rx
  obtain ⟨t', rfl⟩ := ry
  exact rule i j t t' s _ _ hc ⟨.int (g i j), H, I.tok _, ⟨_, rfl⟩, q⟩
theorem opI0 {f : Value → Value → Sem Value} {g : Int → Int → Int}
    (rule : ∀ (i j : Int) (t u : Tok) (s : Shared) (Q : Value → Shared → Prop) (E : Value → Shared → Prop), Q (.int (g i j) s.toks) { s with toks := s.toks + 1 } → wpAny (model X.prog X.w) X.A (f (.int i t) (.int j u)) Q E s) :
    OpR X f (rI0 fun i j => .int (g i j)) := by
  intro pins s σ H x y v u Q I rx ry h
  obtain ⟨i, j, rfl, rfl, q⟩ := h
  obtain ⟨t, rfl⟩ := rx
  obtain ⟨t', rfl⟩ := ry
  exact rule i j t t' s _ _ ⟨.int (g i j), H, I.tok _, ⟨_, rfl⟩, q⟩
theorem opB0 {f : Value → Value → Sem Value} {g : Int → Int → Bool}
    (rule : ∀ (i j : Int) (t u : Tok) (s : Shared) (Q : Value → Shared → Prop) (E : Value → Shared → Prop), Q (.bool (g i j)) s → wpAny (model X.prog X.w) X.A (f (.int i t) (.int j u)) Q E s) :
    OpR X f (rI0 fun i j => .bl (g i j)) := by
  intro pins s σ H x y v u Q I rx ry h
  obtain ⟨i, j, rfl, rfl, q⟩ := h
  obtain ⟨t, rfl⟩ := rx
  obtain ⟨t', rfl⟩ := ry
  exact rule i j t t' s _ _ ⟨.bl (g i j), H, I, rfl, q⟩

def CMul (i j : Int) : Prop := (-(2 ^ 64) < i ∧ i < 2 ^ 64) ∨ (-(2 ^ 64) < j ∧ j < 2 ^ 64)
theorem CMul.ok {i j : Int} (h : CMul i j) : IntMulOk i j := by
  rcases h with ⟨h1, h2⟩ | ⟨h1, h2⟩
  · exact .of_left (intBits_le_64 h1 h2)
  · exact .of_right (intBits_le_64 h1 h2)
theorem op_add : OpR X (binaryOp .Add) (rI0 fun i j => .int (i + j)) := opI0 fun _ _ _ _ _ _ _ q => add_int q
theorem op_sub : OpR X (binaryOp .Sub) (rI0 fun i j => .int (i - j)) := opI0 fun _ _ _ _ _ _ _ q => sub_int q
theorem op_mul : OpR X (binaryOp .Mult) (rI CMul fun i j => .int (i * j)) := opI fun _ _ _ _ _ _ _ hc q => mul_int q hc.ok
theorem unI {f : Value → Sem Value} {g : Int → Int}
    (rule : ∀ (i : Int) (t : Tok) (s : Shared) (Q : Value → Shared → Prop) (E : Value → Shared → Prop), Q (.int (g i) s.toks) { s with toks := s.toks + 1 } → wpAny (model X.prog X.w) X.A (f (.int i t)) Q E s) :
    UnR X f (rU fun i => .int (g i)) := by
  intro pins s σ H x v Q I rx h
  obtain ⟨i, rfl, q⟩ := h
  obtain ⟨t, rfl⟩ := rx
  exact rule i t s _ _ ⟨.int (g i), H, I.tok _, ⟨_, rfl⟩, q⟩
theorem un_neg : UnR X (unaryOp .USub) (rU fun i => .int (-i)) := unI fun _ _ _ _ _ q => neg_int q
end

def scal : V → V → Bool
  | .non, .non => true | .non, .int _ => true | .int _, .non => true | .non, .bl _ => true | .bl _, .non => true | .non, .str _ => true | .str _, .non => true
  | .int _, .int _ => true | .bl _, .bl _ => true | .str _, .str _ => true | .byt _, .byt _ => true
  | .int _, .str _ => true | .str _, .int _ => true | .bl _, .str _ => true | .str _, .bl _ => true
  | _, _ => false
def rEq : R2 := fun x y H Q => scal x y = true ∧ Q (.bl (decide (x = y))) H
def rNe : R2 := fun x y H Q => scal x y = true ∧ Q (.bl (!decide (x = y))) H

theorem dec_int {i j : Int} : decide (V.int i = V.int j) = (i == j) := by
  rw [Bool.eq_iff_iff]
  simp
theorem dec_bl {i j : Bool} : decide (V.bl i = V.bl j) = (i == j) := by
  rw [Bool.eq_iff_iff]
  simp
theorem dec_str {i j : Str} : decide (V.str i = V.str j) = (i == j) := by
  rw [Bool.eq_iff_iff]
  simp
theorem dec_byt {i j : Array UInt8} : decide (V.byt i = V.byt j) = (i.toList == j.toList) := by
  rw [Bool.eq_iff_iff]
  cases i
  cases j
  simp

section
variable {X : Cx} {a b c : Expr} {ta tb tc : TE} {pos : Pos}
theorem fin_bl {pins : List (Addr × Obj)} {σ : St} {H : Hp} {s : Shared} {Q : VK} {k k' : Bool} (I : Inv X pins σ H s) (q : Q (.bl k) H) (e : k = k') : EP X pins σ Q (.bool k') s := by
  subst e
  exact ⟨.bl k, H, I, rfl, q⟩
theorem op_eq : OpR X (compareOp .Eq) rEq := by
  intro pins s σ H x y v u Q I rx ry h
  obtain ⟨hs, q⟩ := h
  cases x with
  | non =>
    cases rx
    cases y with
    | non => cases ry; exact PySem.EqNone.eq_none_none (fin_bl I q (by simp))
    | bl j => cases ry; exact PySem.EqNone.eq_none_bool (fin_bl I q (by simp))
    | int j => obtain ⟨t', rfl⟩ := ry; exact PySem.EqNone.eq_none_int (fin_bl I q (by simp))
    | str j => obtain ⟨t', rfl⟩ := ry; exact PySem.EqNone.eq_none_str (fin_bl I q (by simp))
    | _ => exact absurd (show false = true from hs) Bool.false_ne_true
  | bl i =>
    cases rx
    cases y with
    | non => cases ry; exact PySem.EqNone.eq_bool_none (fin_bl I q (by simp))
    | bl j => cases ry; exact eq_bool (fin_bl I q dec_bl)
    | str j => obtain ⟨t', rfl⟩ := ry; exact PySem.EqMixed.eq_bool_str (fin_bl I q (by simp))
    | _ => exact absurd (show false = true from hs) Bool.false_ne_true
  | int i =>
    obtain ⟨t, rfl⟩ := rx
    cases y with
    | non => cases ry; exact PySem.EqNone.eq_int_none (fin_bl I q (by simp))
    | int j => obtain ⟨t', rfl⟩ := ry; exact eq_int (fin_bl I q dec_int)
    | str j => obtain ⟨t', rfl⟩ := ry; exact PySem.EqMixed.eq_int_str (fin_bl I q (by simp))
    | _ => exact absurd (show false = true from hs) Bool.false_ne_true
  | str i =>
    obtain ⟨t, rfl⟩ := rx
    cases y with
    | non => cases ry; exact PySem.EqNone.eq_str_none (fin_bl I q (by simp))
    | bl j => cases ry; exact PySem.EqMixed.eq_str_bool (fin_bl I q (by simp))
    | int j => obtain ⟨t', rfl⟩ := ry; exact PySem.EqMixed.eq_str_int (fin_bl I q (by simp))
    | str j => obtain ⟨t', rfl⟩ := ry; exact eq_str (fin_bl I q dec_str)
    | _ => exact absurd (show false = true from hs) Bool.false_ne_true
  | byt i =>
    obtain ⟨t, rfl⟩ := rx
    cases y with
    | byt j => obtain ⟨t', rfl⟩ := ry; exact PySem.W.eq_bytes (fin_bl I q dec_byt)
    | _ => exact absurd (show false = true from hs) Bool.false_ne_true
  | _ => cases y <;> exact absurd (show false = true from hs) Bool.false_ne_true
theorem op_ne : OpR X (compareOp .NotEq) rNe := by
  intro pins s σ H x y v u Q I rx ry h
  obtain ⟨hs, q⟩ := h
  cases x with
  | non =>
    cases rx
    cases y with
    | non => cases ry; exact PySem.EqNone.ne_none_none (fin_bl I q (by simp))
    | bl j => cases ry; exact PySem.EqNone.ne_none_bool (fin_bl I q (by simp))
    | int j => obtain ⟨t', rfl⟩ := ry; exact PySem.EqNone.ne_none_int (fin_bl I q (by simp))
    | str j => obtain ⟨t', rfl⟩ := ry; exact PySem.EqNone.ne_none_str (fin_bl I q (by simp))
    | _ => exact absurd (show false = true from hs) Bool.false_ne_true
  | bl i =>
    cases rx
    cases y with
    | non => cases ry; exact PySem.EqNone.ne_bool_none (fin_bl I q (by simp))
    | bl j => cases ry; exact ne_bool (fin_bl I q (congrArg not dec_bl))
    | str j => obtain ⟨t', rfl⟩ := ry; exact PySem.EqMixed.ne_bool_str (fin_bl I q (by simp))
    | _ => exact absurd (show false = true from hs) Bool.false_ne_true
  | int i =>
    obtain ⟨t, rfl⟩ := rx
    cases y with
    | non => cases ry; exact PySem.EqNone.ne_int_none (fin_bl I q (by simp))
    | int j => obtain ⟨t', rfl⟩ := ry; exact ne_int (fin_bl I q (congrArg not dec_int))
    | str j => obtain ⟨t', rfl⟩ := ry; exact PySem.EqMixed.ne_int_str (fin_bl I q (by simp))
    | _ => exact absurd (show false = true from hs) Bool.false_ne_true
  | str i =>
    obtain ⟨t, rfl⟩ := rx
    cases y with
    | non => cases ry; exact PySem.EqNone.ne_str_none (fin_bl I q (by simp))
    | bl j => cases ry; exact PySem.EqMixed.ne_str_bool (fin_bl I q (by simp))
    | int j => obtain ⟨t', rfl⟩ := ry; exact PySem.EqMixed.ne_str_int (fin_bl I q (by simp))
    | str j => obtain ⟨t', rfl⟩ := ry; exact ne_str (fin_bl I q (congrArg not dec_str))
    | _ => exact absurd (show false = true from hs) Bool.false_ne_true
  | byt i =>
    obtain ⟨t, rfl⟩ := rx
    cases y with
    | byt j => obtain ⟨t', rfl⟩ := ry; exact PySem.W.ne_bytes (fin_bl I q (congrArg not dec_byt))
    | _ => exact absurd (show false = true from hs) Bool.false_ne_true
  | _ => cases y <;> exact absurd (show false = true from hs) Bool.false_ne_true

theorem op_lt : OpR X (compareOp .Lt) (rI0 fun i j => .bl (decide (i < j))) := opB0 fun _ _ _ _ _ _ _ q => lt_int q
theorem op_le : OpR X (compareOp .LtE) (rI0 fun i j => .bl (decide (i ≤ j))) := opB0 fun _ _ _ _ _ _ _ q => le_int q
theorem op_gt : OpR X (compareOp .Gt) (rI0 fun i j => .bl (decide (j < i))) := opB0 fun _ _ _ _ _ _ _ q => gt_int q
theorem op_ge : OpR X (compareOp .GtE) (rI0 fun i j => .bl (decide (j ≤ i))) := opB0 fun _ _ _ _ _ _ _ q => ge_int q
theorem op_isN : OpR X (compareOp .Is) (fun x y H Q => y = .non ∧ Q (.bl (decide (x = .non))) H) := by
  intro pins s σ H x y v u Q I rx ry h
  obtain ⟨rfl, q⟩ := h
  cases ry
  refine is_none_gen (fin_bl I q ?_)
  cases x <;> first
    | (cases rx; rfl)
    | (obtain ⟨t, rfl⟩ := rx; rfl)
theorem op_notN : OpR X (compareOp .IsNot) (fun x y H Q => y = .non ∧ Q (.bl (!decide (x = .non))) H) := by
  intro pins s σ H x y v u Q I rx ry h
  obtain ⟨rfl, q⟩ := h
  cases ry
  refine isnot_none_gen (fin_bl I q ?_)
  cases x <;> first
    | (cases rx; rfl)
    | (obtain ⟨t, rfl⟩ := rx; rfl)

theorem nomark (b : Expr) {op : CmpOp} (h : op ≠ .In := by decide) (h2 : op ≠ .NotIn := by decide) : behindInMarks op b = false := by
  have e1 : (op == CmpOp.In) = false := by cases op <;> first | rfl | exact absurd rfl h
  have e2 : (op == CmpOp.NotIn) = false := by cases op <;> first | rfl | exact absurd rfl h2
  cases b <;> simp [behindInMarks, e1, e2]
theorem pe_cmpR {op : CmpOp} {r : R2} (ho : OpR X (compareOp op) r) (ha : PE X a ta) (hb : PE X b tb) (hm : behindInMarks op b = false) : PE X (.Compare a [op] [b] pos) (tOp r ta tb) := by
  intro pins s σ H Q I h
  exact wpAny_Compare1 (binT ha hb I h fun v u s2 x y H2 I2 rx ry q => ho pins s2 σ H2 x y v u Q I2 rx ry q) hm
def tTest (t : TE) : TT := fun σ H Q => t σ H fun x H' => ∃ k, x = .bl k ∧ Q k H'
theorem pt_cmpR {op : CmpOp} {r : R2} (ho : OpR X (compareOp op) r) (ha : PE X a ta) (hb : PE X b tb) (hm : behindInMarks op b = false) : PT X (.Compare a [op] [b] pos) (tTest (tOp r ta tb)) := by
  intro pins s σ H Q I h
  refine wpAny_isTrue_Compare1 (thn (ha pins s σ H _ I h) fun v s1 ⟨x, H1, I1, r1, q1⟩ => thn (hb pins s1 σ H1 _ I1 q1) fun u s2 ⟨y, H2, I2, r2, q2⟩ =>
    thn (ho pins s2 σ H2 x y v u _ I2 r1 r2 q2) fun c s3 ⟨z, H3, I3, r3, k, e, q3⟩ => ?_) hm
  subst e
  cases r3
  exact wpAny_truthy_bool ⟨H3, I3, q3⟩
def tChain (r r' : R2) (ta tb tc : TE) : TE := fun σ H Q => ta σ H fun x H1 => tb σ H1 fun y H2 => r x y H2 fun z H3 => ∃ k, z = .bl k ∧
  (if k = true then tc σ H3 fun w' H4 => r' y w' H4 Q else Q (.bl false) H3)
theorem pe_chain {op op' : CmpOp} {r r' : R2} (ho : OpR X (compareOp op) r) (ho' : OpR X (compareOp op') r') (ha : PE X a ta) (hb : PE X b tb) (hc : PE X c tc)
    (hm : lastMarks [op, op'] [b, c] = false := by with_unfolding_all rfl) : PE X (.Compare a [op, op'] [b, c] pos) (tChain r r' ta tb tc) := by
  intro pins s σ H Q I h
  refine Compare_chain (thn (ha pins s σ H _ I h) fun v s1 ⟨x, H1, I1, r1, q1⟩ => chain_link (thn (hb pins s1 σ H1 _ I1 q1) fun u s2 ⟨y, H2, I2, r2, q2⟩ =>
    thn (ho pins s2 σ H2 x y v u _ I2 r1 r2 q2) fun d s3 ⟨z, H3, I3, r3, k, e, q3⟩ => ?_)) hm
  subst e
  cases r3
  refine wpAny_truthy_bool ?_
  cases k with
  | false => exact ite_ff ⟨.bl false, H3, I3, rfl, q3⟩
  | true => exact ite_tt (chain_last (thn (hc pins s3 σ H3 _ I3 q3) fun w' s4 ⟨z', H4, I4, r4, q4⟩ => ho' pins s4 σ H4 y z' u w' Q I4 r2 r4 q4))
theorem pt_chain {op op' : CmpOp} {r r' : R2} (ho : OpR X (compareOp op) r) (ho' : OpR X (compareOp op') r') (ha : PE X a ta) (hb : PE X b tb) (hc : PE X c tc)
    (hm : lastMarks [op, op'] [b, c] = false := by with_unfolding_all rfl) : PT X (.Compare a [op, op'] [b, c] pos) (tTest (tChain r r' ta tb tc)) := by
  intro pins s σ H Q I h
  refine isTrue_chain (thn (ha pins s σ H _ I h) fun v s1 ⟨x, H1, I1, r1, q1⟩ => test_link (thn (hb pins s1 σ H1 _ I1 q1) fun u s2 ⟨y, H2, I2, r2, q2⟩ =>
    thn (ho pins s2 σ H2 x y v u _ I2 r1 r2 q2) fun d s3 ⟨z, H3, I3, r3, k, e, q3⟩ => ?_)) hm
  subst e
  cases r3
  refine wpAny_truthy_bool ?_
  cases k with
  | false =>
    obtain ⟨k', e', q'⟩ := q3
    cases e'
    exact ite_ff ⟨H3, I3, q'⟩
  | true =>
    refine ite_tt (test_last (thn (hc pins s3 σ H3 _ I3 q3) fun w' s4 ⟨z', H4, I4, r4, q4⟩ => thn (ho' pins s4 σ H4 y z' u w' _ I4 r2 r4 q4) fun d' s5 ⟨z2, H5, I5, r5, k2, e2, q5⟩ => ?_))
    subst e2
    cases r5
    exact wpAny_truthy_bool ⟨H5, I5, q5⟩

def TruV (K : PySem.W.Frag) (x : V) (H : Hp) (k : Bool) : Prop :=
  match x with
  | .non => k = false
  | .bl b => k = b
  | .int i => k = (i != 0)
  | .str y => y.length ≤ sizeLine ∧ k = ((y.length : Int) != 0)
  | .byt y => y.size ≤ sizeLine ∧ k = ((y.size : Int) != 0)
  | .ref p => (∃ xs, SqL K H p xs ∧ k = !xs.isEmpty) ∨ (∃ xs, SqT K H p xs ∧ k = !xs.isEmpty) ∨ ∃ kvs, H p = some (.dK kvs) ∧ k = !kvs.isEmpty
  | _ => False
theorem isEmpty_kv {κ : Type} {kvs : List (κ × V)} {vs : List (κ × Value)} (r : KV kvs vs) : (!vs.isEmpty) = !kvs.isEmpty := by
  cases r <;> rfl
theorem isEmpty_of {xs : List V} {its : List Value} (r : Vals xs its) : (!its.toArray.isEmpty) = !xs.isEmpty := by
  cases r <;> simp
theorem line63 : (sizeLine : Nat) < 2 ^ 63 := by rw [sizeLine_eq]; decide
theorem tru_ok : TruR X (fun x H Q => ∃ k, TruV X.K x H k ∧ Q k H) := by
  intro pins s σ H x v Q I rx h
  obtain ⟨k, e, q⟩ := h
  have hl := line63
  have hs : sizeLine = 16777216 := sizeLine_eq
  cases x with
  | non =>
    cases rx
    have e' : k = false := e
    subst e'
    exact truthy_none ⟨H, I, q⟩
  | bl b =>
    cases rx
    have e' : k = b := e
    subst e'
    exact wpAny_truthy_bool ⟨H, I, q⟩
  | int i =>
    obtain ⟨t, rfl⟩ := rx
    have e' : k = (i != 0) := e
    subst e'
    exact PySem.P.truthy_int ⟨H, I, q⟩
  | str y =>
    obtain ⟨t, rfl⟩ := rx
    obtain ⟨hy, e'⟩ : y.length ≤ sizeLine ∧ k = ((y.length : Int) != 0) := e
    subst e'
    exact PySem.P.truthy_str (by omega) ⟨H, I.tok _, q⟩
  | byt y =>
    obtain ⟨t, rfl⟩ := rx
    obtain ⟨hy, e'⟩ : y.size ≤ sizeLine ∧ k = ((y.size : Int) != 0) := e
    subst e'
    exact PySem.W.truthy_bytes (by omega) ⟨H, I.tok _, q⟩
  | ref p =>
    cases rx
    have e' : (∃ xs, SqL X.K H p xs ∧ k = !xs.isEmpty) ∨ (∃ xs, SqT X.K H p xs ∧ k = !xs.isEmpty) ∨ ∃ kvs, H p = some (.dK kvs) ∧ k = !kvs.isEmpty := e
    rcases e' with ⟨xs, hx, e'⟩ | ⟨xs, hx, e'⟩ | ⟨kvs, hx, e'⟩
    · subst e'
      obtain ⟨its, r, pl, hz⟩ := I.list hx
      have hlen := r.length
      exact wpAny_truthy_list pl.isList (by simp only [List.size_toArray]; omega) ⟨H, I.tok _, by rw [isEmpty_of r]; exact q⟩
    · subst e'
      obtain ⟨its, r, pl, hz⟩ := I.tuple hx
      have hlen := r.length
      exact truthy_tuple pl (by simp only [List.size_toArray]; omega) ⟨H, I.tok _, by rw [isEmpty_of r]; exact q⟩
    · subst e'
      obtain ⟨hz, hS, vs, r, m⟩ : kvs.length ≤ sizeLine ∧ (p == sysModules) = false ∧ ∃ vs, KV kvs vs ∧ s.heap.DictOf (mixKind X.prog X.w) p vs := I.hok p _ hx
      have hlen : kvs.length = vs.length := Paired.length r
      exact wpAny_truthy_dict hS m (by omega) ⟨H, I.tok _, by rw [isEmpty_kv r]; exact q⟩
  | _ => exact (show False from e).elim
theorem vals1 {x : V} {us : List Value} (r : Vals [x] us) : ∃ u, us = [u] ∧ RelV x u := by
  cases r with
  | cons r1 r2 => cases r2; exact ⟨_, rfl, r1⟩
def LenV (K : PySem.W.Frag) (x : V) (H : Hp) (n : Nat) : Prop :=
  match x with
  | .str y => y.length ≤ sizeLine ∧ n = y.length
  | .byt y => y.size ≤ sizeLine ∧ n = y.size
  | .ref p => (∃ xs, SqL K H p xs ∧ n = xs.length) ∨ ∃ xs, SqT K H p xs ∧ n = xs.length
  | _ => False
theorem call_len : CallR X (.builtin "len") (fun xs H Q => ∃ x n, xs = [x] ∧ LenV X.K x H n ∧ Q (.int n) H) := by
  intro pins s σ H xs us Q I r h
  obtain ⟨x, n, rfl, e, q⟩ := h
  obtain ⟨u, rfl, rx⟩ := vals1 r
  have hl := line63
  have hs : sizeLine = 16777216 := sizeLine_eq
  cases x with
  | str y =>
    obtain ⟨t, rfl⟩ := rx
    obtain ⟨hy, e'⟩ : y.length ≤ sizeLine ∧ n = y.length := e
    subst e'
    exact len_str (by omega) ⟨.int _, H, I.tok _, ⟨_, rfl⟩, q⟩
  | byt y =>
    obtain ⟨t, rfl⟩ := rx
    obtain ⟨hy, e'⟩ : y.size ≤ sizeLine ∧ n = y.size := e
    subst e'
    exact PySem.W.len_bytes (by omega) ⟨.int _, H, I.tok _, ⟨_, rfl⟩, q⟩
  | ref p =>
    cases rx
    have e' : (∃ xs, SqL X.K H p xs ∧ n = xs.length) ∨ ∃ xs, SqT X.K H p xs ∧ n = xs.length := e
    rcases e' with ⟨xs, hx, e'⟩ | ⟨xs, hx, e'⟩
    · subst e'
      obtain ⟨its, r', pl, hz⟩ := I.list hx
      have hlen := r'.length
      exact Calls.call_len_list pl.isList (by simp only [List.size_toArray]; omega) ⟨.int xs.length, H, I.tok _, ⟨_, by simp only [List.size_toArray]; rw [hlen]⟩, q⟩
    · subst e'
      obtain ⟨its, r', pl, hz⟩ := I.tuple hx
      have hlen := r'.length
      exact len_tuple pl (by simp only [List.size_toArray]; omega) ⟨.int xs.length, H, I.tok _, ⟨_, by simp only [List.size_toArray]; rw [hlen]⟩, q⟩
  | _ => exact (show False from e).elim
end
end L2

namespace L2
open PySem PySem.Spec PyProof.Rows

structure ObjM (h : Heap) (x dx C : Addr) (mA : Str → Option Value) : Prop where
  obj : h.get? x = some (PySem.W.instObj C dx)
  ns : h.Ns1 dx mA
  ne : dx ≠ x

theorem lookIn_ns {h : Heap} {dx : Addr} {mA : Str → Option Value} (n : h.Ns1 dx mA) : ∃ od, h.get? dx = some od ∧ ∀ name, PySem.W.lookIn name od = some (mA name) := by
  obtain ⟨o, es, ep, ho, hd, hk, _, hm⟩ := n
  refine ⟨o, ho, fun name => ?_⟩
  have e := hm name
  unfold nsFind findBy at e
  rw [← Array.find?_toList] at e
  unfold PySem.W.lookIn
  rw [hd]
  dsimp only
  split
  · rename_i y q
    rw [q] at e
    exact congrArg some e
  · rename_i q
    rw [q] at e
    have a : es.toList.any (·.refKey) = false := by
      rw [List.any_eq_false]
      intro y hy
      obtain ⟨z, t, hkey⟩ := hk y (Array.mem_toList_iff.mp hy)
      simp [DictEntry.refKey, hkey]
    have a' : ¬ es.toList.any (·.refKey) = true := by rw [a]; exact Bool.false_ne_true
    rw [if_neg a']
    exact congrArg some e

theorem ObjM.look {h : Heap} {x dx C : Addr} {mA : Str → Option Value} (I : ObjM h x dx C mA) : ∃ od, PySem.W.InstAt h x (PySem.W.instObj C dx) C (some od) ∧ ∀ name, PySem.W.lookIn name od = some (mA name) :=
  let ⟨od, ho, hl⟩ := lookIn_ns I.ns
  ⟨od, ⟨I.obj, rfl, rfl, ho⟩, hl⟩

section
variable {prog : Program} {w : World} {A : Around} {E : Value → Shared → Prop} {s : Shared} {K : PySem.W.Frag} {x dx C f : Addr} {mA : Str → Option Value} {name : Str} {v : Value}

theorem get_map {expr : Bool} {Q : Value → Shared → Prop} (X : K.In s.heap) (I : ObjM s.heap x dx C mA) (hg : PySem.W.plainGet K C name = true) (hh : PySem.W.hasDictIn K C = true)
    (ha : PySem.W.findIn K (.ref C) name = some none) (hv : mA name = some v) (hv' : PySem.W.handedIn v = true) (h : Q v { s with toks := s.toks + 1 }) :
    wpAny (model prog w) A (getAttr (.ref x) name expr) Q E s := by
  obtain ⟨od, J, hl⟩ := I.look
  exact PySem.W.get_value X J (PySem.W.plainGet_of hg).1 (PySem.W.findObj_own hh ha rfl (by rw [hl, hv])) hv' h

theorem set_map {ns : List Str} {Q : Unit → Shared → Prop} (X : K.In s.heap) (I : ObjM s.heap x dx C mA)
    (hs : PySem.W.findIn K (.ref C) "__setattr__" = some (some (.builtin "object.__setattr__"))) (hp : PySem.W.plainOver K C = true) (ht : PySem.W.takerIn K C name = some none) (hh : PySem.W.hasDictIn K C = true)
    (hw : PySem.Within mA ns) (hsz : ns.length ≤ sizeLine)
    (h : ∀ h', ObjM h' x dx C (fun y => if y = name then some v else mA y) → Heap.SameBut dx s.heap h' → Q () { s with heap := h', toks := s.toks + 2 }) :
    wpAny (model prog w) A (setAttr (.ref x) name v) Q E s := by
  obtain ⟨od, J, hl⟩ := I.look
  refine PySem.W.set_plain X J hs (PySem.W.osa_open (s := { s with toks := s.toks + 1 }) (r := none) X J hp ht fun b => ?_)
  obtain ⟨cd, hc, hd'⟩ := PySem.W.any_some hh
  have hx : s.heap.get? x = some ⟨.ref C, some dx, .plain, #[]⟩ := I.obj
  refine wpAny_bind (wpAny_pure (wpAny_bind (wpAny_bind (wpAny_loadPart hx (wpAny_bind (PySem.W.Looks.here (s := { s with toks := s.toks + 1 }) (PySem.W.looks_clsIn X hc) ?_))))))
  rw [hd']
  refine wpAny_pure (a := some dx) (wpAny_bind (wpAny_pure (wpAny_bind ?_)))
  refine wpAny_nsSet1 (s := { s with toks := s.toks + 1 }) I.ns fun h' hn2 hs2 => ?_
  obtain ⟨oD, esD, epD, hoD, hdD, hcD⟩ := hn2.count (PySem.Within.cons name v hw)
  refine wpAny_bind (wpAny_lookBehind hoD (by rw [hdD]; exact pastItsLine_dict (Nat.le_trans hcD (by rw [List.length_cons]; omega))) ?_)
  exact wpAny_pure (h _ ⟨(hs2.2 _ (Ne.symm I.ne)).trans I.obj, hn2, I.ne⟩ hs2)

theorem make_map {R : Result → Shared → Prop} {vs : List Value} {kw : List (Str × Value)} (X : K.In s.heap) (hm : PySem.W.makesIn K C = true)
    (hi : PySem.W.findIn K (.ref C) "__init__" = some (some (.ref f))) (hf : PySem.W.typeIn K (.ref f) = some (.type "function"))
    (h : codeAny (model prog w) (A.under (.builtin "type.__call__" ⟨.ref C :: vs, kw⟩)) (.call (.ref f) ⟨.ref (s.heap.objs.size + 1) :: vs, kw⟩) (PySem.W.InitBack (s.heap.objs.size + 1) R)
      { s with heap := (s.heap.push PySem.W.emptyDict).push (PySem.W.instObj C s.heap.objs.size) }) :
    codeAny (model prog w) A (.call (.ref C) ⟨vs, kw⟩) R s := by
  obtain ⟨hh, g, d, t, os⟩ := s
  exact PySem.W.make_core (PySem.W.makes_of X hm) (PySem.W.looks_findIn X hi) (fun self => PySem.W.bind_fn X self hf) (.inl rfl) h
end

def putF (f : Str) (v : V) : List (Str × V) → List (Str × V)
  | [] => [(f, v)]
  | (g, x) :: r => if g = f then (g, v) :: r else (g, x) :: putF f v r
theorem lookup_putF (f g : Str) (v : V) : ∀ fs : List (Str × V), (putF f v fs).lookup g = if g = f then some v else fs.lookup g
  | [] => by
    show List.lookup g [(f, v)] = _
    by_cases h : g = f
    · have hb : (g == f) = true := beq_iff_eq.mpr h
      simp only [List.lookup, hb, if_pos h]
    · have hb : (g == f) = false := beq_eq_false_iff_ne.mpr h
      simp only [List.lookup, hb, if_neg h]
  | (k, x) :: r => by
    have ih := lookup_putF f g v r
    rw [show putF f v ((k, x) :: r) = (if k = f then (k, v) :: r else (k, x) :: putF f v r) from rfl]
    by_cases hk : k = f
    · rw [if_pos hk]
      by_cases h : g = k
      · have hb : (g == k) = true := beq_iff_eq.mpr h
        simp only [List.lookup, hb, if_pos (h.trans hk)]
      · have hb : (g == k) = false := beq_eq_false_iff_ne.mpr h
        simp only [List.lookup, hb, if_neg (fun e : g = f => h (e.trans hk.symm))]
    · rw [if_neg hk]
      by_cases h : g = k
      · have hb : (g == k) = true := beq_iff_eq.mpr h
        simp only [List.lookup, hb, if_neg (fun e : g = f => hk (h.symm.trans e))]
      · have hb : (g == k) = false := beq_eq_false_iff_ne.mpr h
        simp only [List.lookup, hb]
        exact ih
theorem keys_putF (f : Str) (v : V) : ∀ fs : List (Str × V), f ∈ (putF f v fs).map (·.1) ∧ ∀ g, g ∈ fs.map (·.1) → g ∈ (putF f v fs).map (·.1)
  | [] => ⟨by simp [putF], fun g h => by simp at h⟩
  | (k, x) :: r => by
    obtain ⟨i1, i2⟩ := keys_putF f v r
    rw [show putF f v ((k, x) :: r) = (if k = f then (k, v) :: r else (k, x) :: putF f v r) from rfl]
    by_cases hk : k = f
    · rw [if_pos hk]
      subst hk
      exact ⟨by simp, fun g h => by simpa using h⟩
    · rw [if_neg hk]
      refine ⟨?_, fun g h => ?_⟩
      · rw [List.map_cons]
        exact List.mem_cons_of_mem _ i1
      · rw [List.map_cons] at h ⊢
        rcases List.mem_cons.mp h with e | e
        · exact List.mem_cons.mpr (.inl e)
        · exact List.mem_cons_of_mem _ (i2 g e)
theorem length_putF (f : Str) (v : V) : ∀ fs : List (Str × V), (putF f v fs).length ≤ fs.length + 1
  | [] => by simp [putF]
  | (k, x) :: r => by
    have ih := length_putF f v r
    rw [show putF f v ((k, x) :: r) = (if k = f then (k, v) :: r else (k, x) :: putF f v r) from rfl]
    by_cases hk : k = f
    · rw [if_pos hk, List.length_cons, List.length_cons]; omega
    · rw [if_neg hk, List.length_cons, List.length_cons]; omega

theorem RelO.some_of {v : V} {o : Option Value} (r : RelO (some v) o) : ∃ u, o = some u ∧ RelV v u := by
  cases o with
  | none => exact (show False from r).elim
  | some u => exact ⟨u, rfl, r⟩
theorem handed_of {v : V} {u : Value} (r : RelV v u) : PySem.W.handedIn u = true := by
  cases v with
  | non => cases (show u = Value.none from r); rfl
  | bl b => cases (show u = Value.bool b from r); rfl
  | int i => obtain ⟨t, e⟩ := (show ∃ t, u = Value.int i t from r); cases e; rfl
  | str x => obtain ⟨t, e⟩ := (show ∃ t, u = Value.str x t from r); cases e; rfl
  | byt b => obtain ⟨t, e⟩ := (show ∃ t, u = Value.bytes b t from r); cases e; rfl
  | flt b => obtain ⟨t, e⟩ := (show ∃ t, u = Value.float b t from r); cases e; rfl
  | ref a => cases (show u = Value.ref a from r); rfl
  | ty n => cases (show u = Value.type n from r); rfl

section
variable {P : Program} {w : World} {H H' : Hp} {h h' : Heap} {a C dx : Addr} {fs fs' : List (Str × V)}
theorem ins_get (hok : HOk P w H h) (e : H a = some (.ins C dx fs)) : ∃ mA, ObjM h a dx C mA ∧ (∀ f, RelO (fs.lookup f) (mA f)) ∧ PySem.Within mA (fs.map (·.1)) ∧ fs.length ≤ 1000 ∧ H dx = some (.own a) := by
  obtain ⟨d, z, ne, ob, mA, n, r, q⟩ := (show ObjOk P w H h a (.ins C dx fs) from hok a _ e)
  exact ⟨mA, ⟨ob, n, ne⟩, r, q, z, d⟩
end

structure Cls (K : PySem.W.Frag) (C : Addr) : Prop where
  pg : PySem.W.plainGet K C Str.empty = true
  hd : PySem.W.hasDictIn K C = true
  po : PySem.W.plainOver K C = true
  sa : PySem.W.findIn K (.ref C) "__setattr__" = some (some (.builtin "object.__setattr__"))
theorem Cls.get {K : PySem.W.Frag} {C : Addr} (c : Cls K C) (f : Str) : PySem.W.plainGet K C f = true := c.pg
def NoAttr (K : PySem.W.Frag) (C : Addr) (f : Str) : Prop := PySem.W.findIn K (.ref C) f = some none
theorem NoAttr.taker {K : PySem.W.Frag} {C : Addr} {f : Str} (n : NoAttr K C f) : PySem.W.takerIn K C f = some none := by
  unfold PySem.W.takerIn
  rw [show PySem.W.findIn K (.ref C) f = some none from n]
  rfl
section
variable {X : Cx} {pins : List (Addr × Obj)} {σ : St} {H : Hp} {s : Shared} {a C dx : Addr} {fs : List (Str × V)} {f : Str} {v : V} {A : Around} {E : Value → Shared → Prop}

theorem getattr_ok {b : Bool} {Q : Value → Shared → Prop} (I : Inv X pins σ H s) (e : H a = some (.ins C dx fs)) (c : Cls X.K C) (n : NoAttr X.K C f) (l : fs.lookup f = some v)
    (h : ∀ u s', Inv X pins σ H s' → RelV v u → Q u s') : wpAny (model X.prog X.w) A (getAttr (.ref a) f b) Q E s := by
  obtain ⟨mA, O, r, _, _, _⟩ := ins_get I.hok e
  obtain ⟨u, hu, ru⟩ := RelO.some_of (v := v) (o := mA f) (by rw [← l]; exact r f)
  exact get_map I.kIn O (c.get f) c.hd n hu (handed_of ru) (h u _ (I.tok _) ru)

theorem setattr_ok {y : V} {u : Value} {Q : Unit → Shared → Prop} (I : Inv X pins σ H s) (e : H a = some (.ins C dx fs)) (c : Cls X.K C) (n : NoAttr X.K C f) (hl : fs.length < 1000) (ry : RelV y u)
    (h : ∀ s', Inv X pins σ (upd H a (.ins C dx (putF f y fs))) s' → Q () s') : wpAny (model X.prog X.w) A (setAttr (.ref a) f u) Q E s := by
  obtain ⟨mA, O, r, wi, _, ho⟩ := ins_get I.hok e
  have hz : (fs.map (·.1)).length ≤ sizeLine := by rw [List.length_map, sizeLine_eq]; omega
  refine set_map I.kIn O c.sa c.po n.taker c.hd wi hz fun h' O' sb => h _ ?_
  have hd : ∃ o, h'.get? dx = some o := let ⟨o, _, _, e', _⟩ := O'.ns; ⟨o, e'⟩
  refine I.write (x := a) (e := dx) (by rw [e]; exact True.intro) (.inr ho) (fun b q hb z => (sb.2 b hb).trans z) hd ?_
  refine ⟨by rw [upd_ne O.ne]; exact ho, ?_, O.ne, O'.obj, _, O'.ns, fun g => ?_, fun g hg => ?_⟩
  · have := length_putF f y fs; omega
  · show RelO ((putF f y fs).lookup g) (if g = f then some u else mA g)
    rw [lookup_putF]
    by_cases q : g = f
    · rw [if_pos q, if_pos q]; exact ry
    · rw [if_neg q, if_neg q]; exact r g
  · by_cases q : g = f
    · rw [q]; exact (keys_putF f y fs).1
    · refine (keys_putF f y fs).2 g (wi g fun z => hg ?_)
      show (if g = f then some u else mA g) = none
      rw [if_neg q]; exact z

theorem Inv.made (I : Inv X pins σ H s) : Inv X pins σ (upd (upd H s.heap.objs.size (.own (s.heap.objs.size + 1))) (s.heap.objs.size + 1) (.ins C s.heap.objs.size []))
    { s with heap := (s.heap.push PySem.W.emptyDict).push (PySem.W.instObj C s.heap.objs.size) } := by
  have e1 : (s.heap.push PySem.W.emptyDict).get? s.heap.objs.size = some PySem.W.emptyDict := Heap.get?_push_size s.heap rfl
  have e2 : ((s.heap.push PySem.W.emptyDict).push (PySem.W.instObj C s.heap.objs.size)).get? (s.heap.objs.size + 1) = some (PySem.W.instObj C s.heap.objs.size) := by
    have := Heap.get?_push_size (s.heap.push PySem.W.emptyDict) (o := PySem.W.instObj C s.heap.objs.size) rfl
    rwa [Heap.size_push] at this
  have e3 : (s.heap.push PySem.W.emptyDict).Ns s.heap.objs.size (fun _ => none) := ⟨PySem.W.emptyDict, #[], _, e1, rfl, (fun e he => absurd he (by simp)), fun _ => rfl⟩
  have I1 := I.laid (a := s.heap.objs.size) (o := .own (s.heap.objs.size + 1)) (h' := s.heap.push PySem.W.emptyDict) (t' := s.toks) (fun b u q => Heap.get?_push_of_some _ q) (Nat.le_refl _) ⟨_, e1⟩
  refine I1.laid (a := s.heap.objs.size + 1) (o := .ins C s.heap.objs.size []) (t' := s.toks) (fun b u q => Heap.get?_push_of_some _ q) (Nat.le_of_eq (Heap.size_push _ _)) ?_
  have ne : s.heap.objs.size ≠ s.heap.objs.size + 1 := Nat.ne_of_lt (Nat.lt_succ_self _)
  refine ⟨by rw [upd_ne ne, upd_same], Nat.zero_le _, ne, e2, fun _ => none, (Heap.Ns1.of_empty e3).at fun o q => Heap.get?_push_of_some _ q, fun _ => True.intro, fun y hy => absurd rfl hy⟩

theorem attr_of {prog : Program} {w : World} {env : Env} {e : Expr} {f : Str} {pos : Pos} {s : Shared} {Q : Value → Shared → Prop} (hb : attributeBase e f env (eval e env) = eval e env)
    (h : wpAny (model prog w) A (eval e env) (fun o s₁ => wpAny (model prog w) A (getAttr o f true) Q E s₁) E s) : wpAny (model prog w) A (eval (.Attribute e f pos) env) Q E s :=
  Attribute_any_ h (by rw [arm_eval_Attribute, hb])
end

def tFld (K : PySem.W.Frag) (ta : TE) (f : Str) : TE := fun σ H Q => ta σ H fun x H1 => ∃ a C dx fs v, x = .ref a ∧ H1 a = some (.ins C dx fs) ∧ Cls K C ∧ NoAttr K C f ∧ fs.lookup f = some v ∧ Q v H1
def sFld (K : PySem.W.Frag) (ta tv : TE) (f : Str) : TS := fun D σ H => tv σ H fun y H1 => ta σ H1 fun x H2 => ∃ a C dx fs, x = .ref a ∧ H2 a = some (.ins C dx fs) ∧ Cls K C ∧ NoAttr K C f ∧ fs.length < 1000 ∧
  D.nx σ (upd H2 a (.ins C dx (putF f y fs)))
section
variable {X : Cx} {o e value : Expr} {f : Str} {pos pos' tpos : Pos} {ta tv : TE}
theorem pe_fld (he : PE X e ta) (hb : attributeBase e f X.env (eval e X.env) = eval e X.env) : PE X (.Attribute e f pos) (tFld X.K ta f) := by
  intro pins s σ H Q I h
  refine attr_of hb (thn (he pins s σ H _ I h) fun u s1 ⟨x, H1, I1, rx, a, C, dx, fs, v, ex, ea, c, n, l, q⟩ => ?_)
  subst ex
  obtain rfl : u = Value.ref a := rx
  exact getattr_ok I1 ea c n l fun u' s2 I2 ru => ⟨v, H1, I2, ru, q⟩
theorem ps_fld (ha : PE X o ta) (hv : PE X value tv) (hs : swapsWith value (some (.Attribute o f pos')) pos.line X.env = pure false) : PS X (.Assign [.Attribute o f pos'] value pos) (sFld X.K ta tv f) := by
  intro pins s σ H D I h
  refine plainObj_wpAny_Assign_Attribute (thn (hv pins s σ H _ I h) fun u s1 ⟨y, H1, I1, ry, q⟩ => thn (ha pins s1 σ H1 _ I1 q) fun ov s2 ⟨x, H2, I2, rx, a, C, dx, fs, ex, ea, c, n, l, q2⟩ => ?_) hs
  subst ex
  obtain rfl : ov = Value.ref a := rx
  exact setattr_ok I2 ea c n l ry fun s3 I3 => ⟨σ, _, I3, q2⟩
end

section
variable {X : Cx} {pins : List (Addr × Obj)} {σ : St} {H : Hp} {s : Shared} {A : Around} {E : Value → Shared → Prop} {Q : Value → Shared → Prop} {c : Value} {b : Bool}
end
end L2

namespace L2
open PySem PySem.Spec PyProof.Rows

structure Room (k : Nat) (A : Around) : Prop where
  hd : A.handled = none
  dp : A.depth + 3 * k + 5 < recursionLimit
  un : A.units + 16 * k + 200 < cLine
theorem Room.mono {j k : Nat} {A : Around} (r : Room k A) (h : j ≤ k) : Room j A := ⟨r.hd, by have := r.dp; omega, by have := r.un; omega⟩
theorem Room.deeper {k : Nat} {A : Around} (r : Room (k + 1) A) (env : Env) : Room k (A.deeper env) :=
  ⟨r.hd, by have := r.dp; show A.depth + 1 + 3 * k + 5 < _; omega, by have := r.un; show A.units + 3 + 16 * k + 200 < _; omega⟩
theorem make_depth {A : Around} {C : Addr} {us : List Value} {kw : List (Str × Value)} : (A.under (.builtin "type.__call__" ⟨.ref C :: us, kw⟩)).depth = A.depth + 1 := by
  first | rfl | simp [Around.under, Code.weight, Code.isCreation, Code.isGuard, Code.isCaller, Code.frames, Code.isFrame, guardIds]
theorem make_units {A : Around} {C : Addr} {us : List Value} {kw : List (Str × Value)} : (A.under (.builtin "type.__call__" ⟨.ref C :: us, kw⟩)).units = A.units + 1 := by
  first | rfl | simp [Around.under, Code.cUnits, Code.frames, Code.isFrame]
theorem Room.make {k : Nat} {A : Around} (r : Room (k + 1) A) (C : Addr) (us : List Value) (kw : List (Str × Value)) : Room k (A.under (.builtin "type.__call__" ⟨.ref C :: us, kw⟩)) :=
  ⟨r.hd, by have := r.dp; rw [make_depth]; omega, by have := r.un; rw [make_units]; omega⟩
theorem Room.depth {k : Nat} {A : Around} (r : Room k A) : A.depth < recursionLimit := by have := r.dp; omega
theorem Room.units {k : Nat} {A : Around} (r : Room k A) : A.units + 64 < cLine := by have := r.un; omega
theorem Room.units0 {k : Nat} {A : Around} (r : Room k A) : A.units < cLine := by have := r.un; omega

def tNil : TA := fun _ H Q => Q [] H
def tCons (ta : TE) (tr : TA) : TA := fun σ H Q => ta σ H fun x H1 => tr σ H1 fun xs H2 => Q (x :: xs) H2
section
variable {X : Cx} {e : Expr} {es : List Expr} {te : TE} {t : TA} {pos : Pos}
theorem pa_nil : PA X [] tNil := fun _ _ _ _ H Q I h => Calls.spliced_nil ⟨[], H, I, .nil, h⟩
theorem pa_cons (ha : PE X e te) (hr : PA X es t) (hs : starEach (e :: es) X.env = (false, eval e X.env) :: starEach es X.env := by rfl) : PA X (e :: es) (tCons te t) := by
  intro pos pins s σ H Q I h
  rw [hs]
  show wpAny _ _ (spliced ((false, eval e X.env) :: backTo pos (starEach es X.env))) _ _ s
  refine Calls.spliced_cons (thn (ha pins s σ H _ I h) fun u s1 ⟨x, H1, I1, r1, q1⟩ => ?_)
  exact thn (hr pos pins s1 σ H1 _ I1 q1) fun us s2 ⟨xs, H2, I2, r2, q2⟩ => ⟨x :: xs, H2, I2, .cons r1 r2, q2⟩

def tTup (t : TA) : TE := fun σ H Q => t σ H fun xs H1 => xs.length ≤ sizeLine ∧ ∀ p, H1 p = none → Q (.ref p) (upd H1 p (.tup xs))
def tLst (t : TA) : TE := fun σ H Q => t σ H fun xs H1 => xs.length ≤ sizeLine ∧ ∀ p, H1 p = none → Q (.ref p) (upd H1 p (.lst xs))
theorem pe_tup {x1} (h : PA X es t) : PE X (.Tuple es x1 pos) (tTup t) := by
  intro pins s σ H Q I hq
  refine wpAny_Tuple_spliced (thn (h pos pins s σ H _ I hq) fun us s1 ⟨xs, H1, I1, r, z, q⟩ => ⟨by rw [← r.length]; exact z, ?_⟩)
  have hf : H1 s1.heap.objs.size = none := I1.hok.fresh (Nat.le_refl _)
  refine ⟨.ref s1.heap.objs.size, upd H1 s1.heap.objs.size (.tup xs), I1.laid (t' := s1.toks) (fun b u e => Heap.get?_push_of_some _ e) (Nat.le_refl _) ?_, rfl, q _ hf⟩
  exact ⟨z, us, r, ⟨_, Heap.get?_push_size _ rfl, rfl, _, rfl⟩⟩
theorem pe_lst (h : PA X es t) : PE X (.List es pos) (tLst t) := by
  intro pins s σ H Q I hq
  refine wpAny_List_spliced (thn (h pos pins s σ H _ I hq) fun us s1 ⟨xs, H1, I1, r, z, q⟩ => ⟨by rw [← r.length]; exact z, ?_⟩)
  have hf : H1 s1.heap.objs.size = none := I1.hok.fresh (Nat.le_refl _)
  refine ⟨.ref s1.heap.objs.size, upd H1 s1.heap.objs.size (.lst xs), I1.laid (t' := s1.toks) (fun b u e => Heap.get?_push_of_some _ e) (Nat.le_refl _) ?_, rfl, q _ hf⟩
  exact ⟨z, us, 0, r, Heap.get?_push_size _ rfl⟩
end

abbrev Sp := List V → Hp → VK → XK → Prop
abbrev CXT := List Env → Hp → Shared → XK → Value → Shared → Prop

structure Env0 (P : Program) (w : World) (K : PySem.W.Frag) (mg : Str → Option Value) (base : Heap) (A : Around) (outer : List Env) (s : Shared) (H : Hp) : Prop where
  frames : A.frames = some outer
  mod : Mod K mg base
  bs : ∀ b o, base.get? b = some o → s.heap.get? b = some o ∧ H b = none
  bsz : base.objs.size ≤ s.heap.objs.size
  funs : s.heap.FunFrames base outer
  frf : ∀ b ∈ frs outer, H b = none
  hok : HOk P w H s.heap
  bare : AllBare s.gens
def CE (outer : List Env) (P : Program) (w : World) (H : Hp) (s : Shared) (Q : VK) (u : Value) (s' : Shared) : Prop :=
  ∃ v H', s'.os = s.os ∧ AllBare s'.gens ∧ Un (frs outer) [] H H' s.heap s'.heap ∧ HOk P w H' s'.heap ∧ RelV v u ∧ Q v H'
def CR (CX : CXT) (outer : List Env) (P : Program) (w : World) (H : Hp) (s : Shared) (Q : VK) (E : XK) (r : Result) (s' : Shared) : Prop :=
  match r with
  | .ok (.ret u) => CE outer P w H s Q u s'
  | .ok _ => False
  | .error e => CX outer H s E e s'
structure FnOk (P : Program) (w : World) (K : PySem.W.Frag) (mg : Str → Option Value) (base : Heap) (CX : CXT) (k : Nat) (f : Addr) (fd : FuncData) (ps : List Str) (sp : Sp) : Prop where
  len : ∀ vs H Q E, sp vs H Q E → vs.length = ps.length
  run : ∀ (A : Around) (outer : List Env) (s : Shared) (H : Hp) (args : Args) (us : List Value) (vs : List V) (Q : VK) (E : XK), Room k A → Env0 P w K mg base A outer s H → BindsTo s fd args (ps.zip us) → Vals vs us → sp vs H Q E →
    codeAny (model P w) A (.call (.ref f) args) (CR CX outer P w H s Q E) s
theorem Env0.make {P : Program} {w : World} {K : PySem.W.Frag} {mg : Str → Option Value} {base : Heap} {A : Around} {outer : List Env} {s : Shared} {H : Hp} (e : Env0 P w K mg base A outer s H) (C : Addr) (us : List Value) (kw : List (Str × Value)) :
    Env0 P w K mg base (A.under (.builtin "type.__call__" ⟨.ref C :: us, kw⟩)) outer s H := ⟨by first | exact e.frames | (simpa [Around.under, Code.envs, Code.isFrame, pushEnvs] using e.frames), e.mod, e.bs, e.bsz, e.funs, e.frf, e.hok, e.bare⟩
section
variable {X : Cx} {pins : List (Addr × Obj)} {σ : St} {H : Hp} {s s' : Shared}
theorem Inv.env0 (I : Inv X pins σ H s) : Env0 X.prog X.w X.K X.mg X.base X.A X.stack s H :=
  ⟨I.ok.frames, I.ok.mod, I.bs, Nat.le_trans I.ok.bsz I.sz, I.stack, I.stkFree, I.hok, I.bare⟩
theorem Inv.after {Q : VK} {u : Value} (I : Inv X pins σ H s) (h : CE X.stack X.prog X.w H s Q u s') : EP X pins σ Q u s' := by
  obtain ⟨v, H', os, bare, un, hok, r, q⟩ := h
  obtain ⟨hh, g, d, t, os'⟩ := s'
  obtain rfl : os' = s.os := os
  exact ⟨v, H', I.call (h' := hh) (g' := g) (d' := d) (t' := t) (ch := []) un hok bare (fun b z => absurd z (by simp)), r, q⟩
end

def tCall (sp : Sp) (dvs : List V) (E : XK) (t : TA) : TE := fun σ H Q => t σ H fun vs H1 => sp (vs ++ dvs) H1 Q E
def tMake (C : Addr) (sp : Sp) (dvs : List V) (E : XK) (t : TA) : TE := fun σ H Q => t σ H fun vs H1 => ∀ x dx, H1 x = none → H1 dx = none → dx ≠ x →
  sp (.ref x :: (vs ++ dvs)) (upd (upd H1 dx (.own x)) x (.ins C dx [])) (fun v H2 => v = .non ∧ Q (.ref x) H2) E

def Binds (K : PySem.W.Frag) (fd : FuncData) (ps : List Str) (ds : List Value) : Prop :=
  ∀ (s : Shared) (us : List Value), K.In s.heap → (us ++ ds).length = ps.length → BindsTo s fd ⟨us, []⟩ (ps.zip (us ++ ds))
theorem Binds.all {K : PySem.W.Frag} {fd : FuncData} {ps : List Str} (h : ∀ us : List Value, us.length = ps.length → bindArgs fd ⟨us, []⟩ = pure (ps.zip us)) : Binds K fd ps [] := fun s us _ hl => by
  rw [List.append_nil] at hl ⊢
  exact .of_eq (h us hl)

def Passes (CX : CXT) (X : Cx) (E : XK) : Prop := ∀ (pins : List (Addr × Obj)) (σ : St) (H : Hp) (s : Shared) (e : Value) (s' : Shared), Inv X pins σ H s → CX X.stack H s E e s' → X.xe e s'

section
variable {X : Cx} {CX : CXT} {k : Nat} {f C : Addr} {fd : FuncData} {ps : List Str} {sp : Sp} {dvs : List V} {ds : List Value} {E : XK} {x m : Str} {p pos apos : Pos} {e o : Expr} {es : List Expr} {ta : TE} {t : TA}

theorem run_fn {pins : List (Addr × Obj)} {σ : St} {H : Hp} {s : Shared} {Q : VK} {us : List Value} {vs : List V} (F : FnOk X.prog X.w X.K X.mg X.base CX k f fd ps sp) (hr : Room k X.A) (hb : Binds X.K fd ps ds) (hd : Vals dvs ds) (hx : Passes CX X E)
    (I : Inv X pins σ H s) (r : Vals vs us) (h : sp (vs ++ dvs) H Q E) : wpAny (model X.prog X.w) X.A (call (.ref f) us) (EP X pins σ Q) X.xe s := by
  have r2 : Vals (vs ++ dvs) (us ++ ds) := r.append hd
  have hl : (us ++ ds).length = ps.length := by rw [← r2.length]; exact F.len _ _ _ _ h
  refine wpAny_call (codeAny_mono (F.run X.A X.stack s H ⟨us, []⟩ (us ++ ds) (vs ++ dvs) Q E hr I.env0 (hb s us I.kIn hl) r2 h) fun r s' hq => ?_)
  cases r with
  | error e => exact hx pins σ H s e s' I hq
  | ok fl =>
    cases fl with
    | ret u => exact I.after hq
    | next => exact False.elim hq
    | brk => exact False.elim hq
    | cont => exact False.elim hq

theorem pe_call (F : FnOk X.prog X.w X.K X.mg X.base CX k f fd ps sp) (hr : Room k X.A) (hg : Gl X x) (hm : X.mg x = some (.ref f)) (hk : PySem.W.keepIn X.K (.ref f) = true) (hb : Binds X.K fd ps ds) (hd : Vals dvs ds) (hx : Passes CX X E)
    (ha : PA X (e :: es) t) (hdb : (x == ("__debug__" : Str)) = false := by decide) (he : starEach (e :: es) X.env = (false, eval e X.env) :: starEach es X.env := by rfl) (hpl : (backTo pos (starEach es X.env)).any (·.1) = false := by rfl) :
    PE X (.Call (.Name x p) (e :: es) [] pos) (tCall sp dvs E t) := by
  intro pins s σ H Q I h
  refine wpAny_Call_Name_kw (ld_glob I hg hm ?_ hdb)
  refine PySem.W.callWith_K (h₀ := X.base) I.ok.mod.kin hk (thn (ha pos pins s σ H _ I h) fun us s1 ⟨vs, H1, I1, r, q⟩ => ⟨I1.kIn, ?_⟩) he hpl
  exact run_fn F hr hb hd hx I1 r q
structure Mk (K : PySem.W.Frag) (C f : Addr) : Prop where
  makes : PySem.W.makesIn K C = true
  init : PySem.W.findIn K (.ref C) "__init__" = some (some (.ref f))
  fn : PySem.W.isFn K (.ref f) = true
  kp : PySem.W.keepIn K (.ref C) = true

theorem run_make {pins : List (Addr × Obj)} {σ : St} {H : Hp} {s : Shared} {Q : VK} {us : List Value} {vs : List V} (M : Mk X.K C f) (F : FnOk X.prog X.w X.K X.mg X.base CX k f fd ps sp) (hr : Room (k + 1) X.A) (hb : Binds X.K fd ps ds) (hd : Vals dvs ds)
    (hx : Passes CX X E) (I : Inv X pins σ H s) (r : Vals vs us)
    (h : ∀ x dx, H x = none → H dx = none → dx ≠ x → sp (.ref x :: (vs ++ dvs)) (upd (upd H dx (.own x)) x (.ins C dx [])) (fun v H2 => v = .non ∧ Q (.ref x) H2) E) :
    wpAny (model X.prog X.w) X.A (call (.ref C) us) (EP X pins σ Q) X.xe s := by
  have hq := h (s.heap.objs.size + 1) s.heap.objs.size (I.hok.fresh (Nat.le_succ _)) (I.hok.fresh (Nat.le_refl _)) (Nat.ne_of_lt (Nat.lt_succ_self _))
  have I2 := Inv.made (C := C) I
  have r2 : Vals (V.ref (s.heap.objs.size + 1) :: (vs ++ dvs)) (Value.ref (s.heap.objs.size + 1) :: (us ++ ds)) := .cons rfl (r.append hd)
  have hl : (Value.ref (s.heap.objs.size + 1) :: us ++ ds).length = ps.length := by
    have e := r2.length
    rw [F.len _ _ _ _ hq] at e
    exact e.symm
  refine wpAny_call (make_map (f := f) I.kIn M.makes M.init (beq_iff_eq.mp M.fn) (codeAny_mono (F.run _ X.stack _ _ ⟨Value.ref (s.heap.objs.size + 1) :: us, []⟩ (Value.ref (s.heap.objs.size + 1) :: (us ++ ds)) _ _ E (hr.make C us [])
    (I2.env0.make C us []) (hb _ (Value.ref (s.heap.objs.size + 1) :: us) I2.kIn hl) r2 hq) fun r s' hq' => ?_))
  cases r with
  | error e => exact hx pins σ _ _ e s' I2 hq'
  | ok fl =>
    cases fl with
    | ret u =>
      obtain ⟨v, H', I3, rv, ev, q3⟩ := I2.after hq'
      subst ev
      exact ⟨rv, ⟨V.ref (s.heap.objs.size + 1), H', I3, rfl, q3⟩⟩
    | next => exact False.elim hq'
    | brk => exact False.elim hq'
    | cont => exact False.elim hq'
theorem pe_make (M : Mk X.K C f) (F : FnOk X.prog X.w X.K X.mg X.base CX k f fd ps sp) (hr : Room (k + 1) X.A) (hg : Gl X x) (hm : X.mg x = some (.ref C)) (hb : Binds X.K fd ps ds) (hd : Vals dvs ds) (hx : Passes CX X E)
    (ha : PA X (e :: es) t) (hdb : (x == ("__debug__" : Str)) = false := by decide) (he : starEach (e :: es) X.env = (false, eval e X.env) :: starEach es X.env := by rfl) (hpl : (backTo pos (starEach es X.env)).any (·.1) = false := by rfl) :
    PE X (.Call (.Name x p) (e :: es) [] pos) (tMake C sp dvs E t) := by
  intro pins s σ H Q I h
  refine wpAny_Call_Name_kw (ld_glob I hg hm ?_ hdb)
  refine PySem.W.callWith_K (h₀ := X.base) I.ok.mod.kin M.kp (thn (ha pos pins s σ H _ I h) fun us s1 ⟨vs, H1, I1, r, q⟩ => ⟨I1.kIn, ?_⟩) he hpl
  exact run_make M F hr hb hd hx I1 r q
end

section
variable {X : Cx} {CX : CXT} {k : Nat} {f C : Addr} {fd : FuncData} {ps ks : List Str} {sp : Sp} {E : XK} {x m : Str} {p pos apos kpos : Pos} {e o : Expr} {es : List Expr} {kws : List Keyword} {te ta : TE} {t tk : TA} {nm : Option Str}
variable {g : List Value → List Value → List Value} {gV : List V → List V → List V}
end

structure FnScope (N P : List Str) (sc : Scope) : Prop where
  kind : sc.kind = .function
  co : sc.isCoroutine = false
  gen : sc.isGenerator = false
  nd : N.Nodup
  pre : N.take P.length = P
  par : ∀ x ∈ P, sc.names.lookup x = some .local ∨ sc.names.lookup x = some .cell
  nofree : ∀ y ∈ sc.names, y.2 ≠ .free

theorem bindL_out {kindOf : Str → Option NameKind} {x : Str} : ∀ {binds : List (Str × Value)} {m : Str → Option Value}, (∀ v, (x, v) ∉ binds) → bindL kindOf binds m x = m x
  | [], _, _ => rfl
  | (n, v) :: r, m, h => by
    unfold bindL
    rw [bindL_out fun w hw => h w (List.mem_cons_of_mem _ hw)]
    split
    · have : x ≠ n := by rintro rfl; exact h v List.mem_cons_self
      simp [this]
    · rfl
theorem bindC_out {kindOf : Str → Option NameKind} {x : Str} : ∀ {binds : List (Str × Value)} {m : Str → Option Value}, (∀ v, (x, v) ∉ binds) → bindC kindOf binds m x = m x
  | [], _, _ => rfl
  | (n, v) :: r, m, h => by
    unfold bindC
    rw [bindC_out fun w hw => h w (List.mem_cons_of_mem _ hw)]
    split
    · rfl
    · have : x ≠ n := by rintro rfl; exact h v List.mem_cons_self
      simp [this]
theorem bindL_get {kindOf : Str → Option NameKind} {x : Str} {v : Value} : ∀ {P : List Str} {vs : List Value} {i : Nat} {m : Str → Option Value}, P.Nodup → P[i]? = some x → vs[i]? = some v → kindOf x = some .local →
    bindL kindOf (P.zip vs) m x = some v
  | [], _, _, _, _, h, _, _ => by simp at h
  | _ :: _, [], _, _, _, _, h, _ => by simp at h
  | p :: P, w :: vs, 0, m, nd, h1, h2, hk => by
    simp at h1 h2; subst h1; subst h2
    show bindL kindOf ((p, w) :: P.zip vs) m p = _
    unfold bindL
    rw [bindL_out fun v hv => (List.nodup_cons.mp nd).1 (List.of_mem_zip hv).1, if_pos hk]
    simp
  | p :: P, w :: vs, i + 1, m, nd, h1, h2, hk => by
    show bindL kindOf ((p, w) :: P.zip vs) m x = _
    unfold bindL
    exact bindL_get (i := i) (List.nodup_cons.mp nd).2 (by simpa using h1) (by simpa using h2) hk
theorem bindC_get {kindOf : Str → Option NameKind} {x : Str} {v : Value} : ∀ {P : List Str} {vs : List Value} {i : Nat} {m : Str → Option Value}, P.Nodup → P[i]? = some x → vs[i]? = some v → kindOf x ≠ some .local →
    bindC kindOf (P.zip vs) m x = some v
  | [], _, _, _, _, h, _, _ => by simp at h
  | _ :: _, [], _, _, _, _, h, _ => by simp at h
  | p :: P, w :: vs, 0, m, nd, h1, h2, hk => by
    simp at h1 h2; subst h1; subst h2
    show bindC kindOf ((p, w) :: P.zip vs) m p = _
    unfold bindC
    rw [bindC_out fun v hv => (List.nodup_cons.mp nd).1 (List.of_mem_zip hv).1, if_neg hk]
    simp
  | p :: P, w :: vs, i + 1, m, nd, h1, h2, hk => by
    show bindC kindOf ((p, w) :: P.zip vs) m x = _
    unfold bindC
    exact bindC_get (i := i) (List.nodup_cons.mp nd).2 (by simpa using h1) (by simpa using h2) hk

def start (N : List Str) (vs : List V) : St := vs.map some ++ List.replicate (N.length - vs.length) none

def cxOf (CX : CXT) (P : Program) (w : World) (K : PySem.W.Frag) (mg : Str → Option Value) (base : Heap) (N : List Str) (qual : Str) (scope : Scope) (f : Addr) (cd : Value) (A : Around) (outer : List Env) (s : Shared) (H : Hp) (E : XK) : Cx where
  prog := P
  w := w
  K := K
  mg := mg
  base := base
  A := A.deeper (envOfC qual scope s.heap.objs.size f cd)
  N := N
  s_0 := s
  H_0 := H
  env := envOfC qual scope s.heap.objs.size f cd
  outer := outer
  stack := envOfC qual scope s.heap.objs.size f cd :: outer
  ex := []
  calm := true
  fn := fun _ => true
  pn := []
  xe := fun e s' => wpAny (model P w) (A.deeper (envOfC qual scope s.heap.objs.size f cd)) (leaving (envOfC qual scope s.heap.objs.size f cd) e) (fun _ s'' => CX outer H s E e s'') (fun e' s'' => CX outer H s E e' s'') s'

theorem cell_has {sc : Scope} {n : Nat} {x : Str} (h : sc.names.lookup x = some .cell) : ∃ c, (cellsFrom n sc.names []).lookup x = some c := by
  have q := PySem.W.cellsFrom_some sc.names n [] (.inl h)
  exact Option.isSome_iff_exists.mp q

theorem inv_start {CX : CXT} {P : Program} {w : World} {K : PySem.W.Frag} {mg : Str → Option Value} {base : Heap} {N ps : List Str} {qual : Str} {scope : Scope} {f : Addr} {cd : Value} {A : Around} {outer : List Env} {s s1 : Shared} {H : Hp} {E : XK} {us : List Value} {vs : List V}
    (S : FnScope N ps scope) (hd : A.handled = none) (e0 : Env0 P w K mg base A outer s H) (hl : vs.length = ps.length) (r : Vals vs us)
    (x : InCallC s s.heap.objs.size (bindL (envOfC qual scope s.heap.objs.size f cd).kindOf (ps.zip us) fun _ => none) (cellsFrom (s.heap.objs.size + 1) scope.names []) (bindC (envOfC qual scope s.heap.objs.size f cd).kindOf (ps.zip us) fun _ => none) s1) :
    Inv (cxOf CX P w K mg base N qual scope f cd A outer s H E) [] (start N vs) H s1 := by
  have hpl : ps.length ≤ N.length := by have := congrArg List.length S.pre; rw [List.length_take] at this; omega
  obtain ⟨h1, tk, rfl, hk⟩ := x.done
  have noA : ∀ b : Addr, b ∉ (cxOf CX P w K mg base N qual scope f cd A outer s H E).ex := fun b z => absurd (show b ∈ ([] : List Addr) from z) (by simp)
  refine ⟨⟨e0.mod, S.kind, rfl, rfl, Nat.le_refl _, fun y z c h1 h2 => ?_, fun y hy => ?_, fun y c _ h => ?_, fun _ => hd, Around.frames_deeper e0.frames, .inr ⟨rfl, rfl⟩, fun b z => absurd z (noA b), e0.bs, e0.bsz, fun b _ _ => noA b, fun b z => absurd z (noA b), e0.funs, e0.frf⟩,
    rfl, e0.bare, Un.kept hk, ⟨_, x.toInCall.ns, fun i y v h1 h2 h3 => ?_⟩, fun y c h => ⟨_, x.cell y c h⟩, e0.hok.fresh (Nat.le_refl _), fun y c h => ?_, fun p hp => absurd (show p ∈ ([] : List (Addr × Obj)) from hp) (by simp), e0.hok.kept hk, ?_⟩
  · exact name_of_addr x.apart (PySem.mem_of_lookup h1) (PySem.mem_of_lookup h2)
  · have hy : scope.names.lookup y = some .cell ∨ scope.names.lookup y = some .free := hy
    rcases hy with hy | hy
    · exact cell_has hy
    · exact absurd rfl (S.nofree _ (PySem.mem_of_lookup hy))
  · exact Nat.le_of_lt (x.above y c (PySem.mem_of_lookup h))
  · have hi : i < vs.length := by
      unfold start at h2
      by_cases hi : i < vs.length
      · exact hi
      · rw [List.getElem?_append_right (by simpa using hi)] at h2
        rw [List.getElem?_replicate] at h2
        split at h2 <;> cases h2
    have ha : vs[i]? = some v := by
      unfold start at h2
      rw [List.getElem?_append_left (by simpa using hi), List.getElem?_map] at h2
      cases e : vs[i]? with
      | none => rw [e] at h2; cases h2
      | some a => rw [e] at h2; cases h2; rfl
    obtain ⟨u, hu, rv⟩ := r.get ha
    have hp : ps[i]? = some y := by
      rw [← S.pre, List.getElem?_take_of_lt (by omega)]; exact h1
    have ndP : ps.Nodup := by rw [← S.pre]; exact S.nd.sublist (List.take_sublist _ _)
    refine ⟨u, rv, ?_⟩
    rcases S.par y (List.mem_of_getElem? hp) with k | k
    · exact .inl ⟨k, bindL_get ndP hp hu k⟩
    · obtain ⟨c, e⟩ := cell_has (n := s.heap.objs.size + 1) k
      refine .inr ⟨.inl k, c, e, ?_⟩
      have q := x.cell y c e
      rw [bindC_get ndP hp hu (by show scope.names.lookup y ≠ _; rw [k]; decide)] at q
      exact q
  · exact e0.hok.fresh (Nat.le_of_lt (x.above y c (PySem.mem_of_lookup h)))
  · unfold start
    show _ = N.length
    rw [List.length_append, List.length_map, List.length_replicate]
    omega

theorem fn_of {CX : CXT} {P : Program} {w : World} {K : PySem.W.Frag} {mg : Str → Option Value} {base : Heap} {k : Nat} {f : Addr} {name qual : Str} {params : Arguments} {body : List Stmt} {scope : Scope} {dV kV doc pm cdv ct oc : Value} {an od : Option Addr}
    {osl : Array (Option Value)} {N ps : List Str} {sp : Sp} (lk : K.lookup f = some ⟨oc, od, .func (PySem.W.fnOf name qual params body scope dV kV doc pm an cdv ct), osl⟩) (hcd : PySem.W.codeIn K cdv qual = true) (S : FnScope N ps scope)
    (len : ∀ vs H Q E, sp vs H Q E → vs.length = ps.length)
    (hbody : ∀ (A : Around) (outer : List Env) (s : Shared) (H : Hp) (vs : List V) (Q : VK) (E : XK), Room k (A.deeper (envOfC qual scope s.heap.objs.size f cdv)) → sp vs H Q E →
      ∃ t, PSs (cxOf CX P w K mg base N qual scope f cdv A outer s H E) body t ∧ t { nx := fun _ H' => Q .non H', rt := Q } (start N vs) H) :
    FnOk P w K mg base CX (k + 1) f (PySem.W.fnOf name qual params body scope dV kV doc pm an cdv ct) ps sp := by
  refine ⟨len, fun A outer s H args us vs Q E hr e0 hb r hsp => ?_⟩
  have hl := len _ _ _ _ hsp
  have KX : K.In s.heap := e0.mod.kin.keeps fun b o e => (e0.bs b o e).1
  have lim : s.heap.NoLimit := e0.mod.nolimit.keeps fun b o e => (e0.bs b o e).1
  have hkind : ∀ y ∈ ps.zip us, scope.names.lookup y.1 = some .local ∨ (scope.names.lookup y.1 = some .cell ∧ ((cellsFrom (s.heap.objs.size + 1) scope.names []).lookup y.1).isSome = true) := fun ⟨n, v⟩ hy => by
    rcases S.par n (List.of_mem_zip hy).1 with q | q
    · exact .inl q
    · exact .inr ⟨q, PySem.W.cellsFrom_some _ _ _ (.inl q)⟩
  refine codeAny_call_function hr.depth (KX _ _ lk) rfl S.co S.gen rfl (PySem.W.codeRec_of KX hcd) (hb _ _ _ _ ?_)
  refine wpAny_newFunctionEnv_cells S.kind hkind fun env he s1 x => ?_
  subst he
  refine ⟨lim.keeps x.toInCall.keep, codeAny_func ?_⟩
  obtain ⟨t, ht, hq⟩ := hbody A outer s H vs Q E (hr.deeper _) hsp
  have I : Inv (cxOf CX P w K mg base N qual scope f cdv A outer s H E) [] (start N vs) H s1 := inv_start S hr.hd e0 hl r x
  refine wpAny_mono (ht [] s1 (start N vs) H _ I hq) (fun fl s' hs => ?_) fun e s' hs => hs
  have fin : ∀ {σ' : St} {H' : Hp} {v : V} {u : Value}, Inv (cxOf CX P w K mg base N qual scope f cdv A outer s H E) [] σ' H' s' → RelV v u → Q v H' → CE outer P w H s Q u s' :=
    fun {σ' H' v u} J rv q => ⟨v, H', J.os, J.bare, J.base, J.hok, rv, q⟩
  cases fl with
  | ret u =>
    obtain ⟨v, σ', H', J, rv, q⟩ := hs
    exact fin J rv q
  | next =>
    obtain ⟨σ', H', J, q⟩ := hs
    exact fin (v := V.non) (u := Value.none) J rfl q
  | brk =>
    obtain ⟨_, _, _, q⟩ := hs
    exact False.elim q
  | cont =>
    obtain ⟨_, _, _, q⟩ := hs
    exact False.elim q
end L2

namespace L2
open PySem PySem.Spec PyProof.Rows
section
variable {X : Cx} {x : Str} {p pos : Pos} {e : Expr} {es : List Expr} {t : TA} {id T : String} {r : List V → Hp → VK → Prop}

def tCB (r : List V → Hp → VK → Prop) (t : TA) : TE := fun σ H Q => t σ H fun vs H1 => r vs H1 Q
theorem pe_callB (hc : CallR X (.builtin id) r) (hg : Gl X x) (hm : X.mg x = none) (hv : bootBuiltins x = some (.builtin id)) (ha : PA X (e :: es) t) (hn : x ≠ "__name__" := by decide) (hdb : (x == ("__debug__" : Str)) = false := by decide)
    (he : starEach (e :: es) X.env = (false, eval e X.env) :: starEach es X.env := by rfl) (hpl : (backTo pos (starEach es X.env)).any (·.1) = false := by rfl) : PE X (.Call (.Name x p) (e :: es) [] pos) (tCB r t) := by
  intro pins s σ H Q I h
  refine wpAny_Call_Name_kw (ld_blt I hg hm hv ?_ hn hdb)
  exact PyProof.Rows.callWith_builtin1 (thn (ha pos pins s σ H _ I h) fun us s1 ⟨vs, H1, I1, r1, q1⟩ => hc pins s1 σ H1 vs us Q I1 r1 q1) he hpl
theorem pe_callTy (hc : CallR X (.type T) r) (hg : Gl X x) (hm : X.mg x = none) (hv : bootBuiltins x = some (.type T)) (ha : PA X (e :: es) t) (hn : x ≠ "__name__" := by decide) (hdb : (x == ("__debug__" : Str)) = false := by decide)
    (he : starEach (e :: es) X.env = (false, eval e X.env) :: starEach es X.env := by rfl) (hpl : (backTo pos (starEach es X.env)).any (·.1) = false := by rfl) : PE X (.Call (.Name x p) (e :: es) [] pos) (tCB r t) := by
  intro pins s σ H Q I h
  refine wpAny_Call_Name_kw (ld_blt I hg hm hv ?_ hn hdb)
  exact PyProof.Rows.callWith_type1 (thn (ha pos pins s σ H _ I h) fun us s1 ⟨vs, H1, I1, r1, q1⟩ => hc pins s1 σ H1 vs us Q I1 r1 q1) he hpl
end
end L2

namespace HT
open PySem PyProof.Rows

theorem eqAt_int (A : Around) (s : Shared) (a : Int) (t : Tok) (c : Int) (u : Tok) : ∃ e, SeqAt.EqAt A s (.int a t) (.int c u) e ∧ (e = true ↔ a = c) :=
  ⟨(a == c), SeqAt.EqAt.int_int a t c u, by simp⟩
section
open PySem.SeqAt
open PySem.AutoSeq1 (wpAny_loadPart')
open PySem.MeetsSeq PySem.MeetsSeq2 PySem.MeetsSeq3

end

section
variable {prog : Program} {w : World} {A : Around} {E : Value → Shared → Prop} {s : Shared}

def sIx (n d : Nat) : Option Int → Nat
  | none => d
  | some v => if v < 0 then (v + (n : Int)).toNat else min v.toNat n
theorem sIx_none (n d : Nat) : sIx n d none = d := rfl
theorem sIx_nat (n d k : Nat) : sIx n d (some (k : Int)) = min k n := by
  show (if (k : Int) < 0 then ((k : Int) + (n : Int)).toNat else min (k : Int).toNat n) = min k n
  rw [if_neg (by omega), Int.toNat_natCast]
end
end HT

namespace L2
open PySem PySem.Spec PyProof.Rows

abbrev TO := St → Hp → (Option Int → Hp → Prop) → Prop
def PO (X : Cx) (e : Option Expr) (t : TO) : Prop :=
  ∀ (pins : List (Addr × Obj)) (s : Shared) (σ : St) (H : Hp) (Q : Option Int → Hp → Prop), Inv X pins σ H s → t σ H Q →
    wpAny (model X.prog X.w) X.A (evalPart e X.env) (fun u s' => ∃ o H', Inv X pins σ H' s' ∧ IsPart u o ∧ Q o H') X.xe s
def tNoPart : TO := fun _ H Q => Q none H
def tPart (t : TE) : TO := fun σ H Q => t σ H fun x H1 => ∃ i, x = .int i ∧ Q (some i) H1

theorem intsAre_of {ns : List Int} : ∀ {us : List Value}, Vals (ns.map V.int) us → IntsAre us ns := by
  induction ns with
  | nil => intro us r; rw [List.map_nil] at r; cases r; exact .nil
  | cons n ns ih =>
    intro us r
    rw [List.map_cons] at r
    cases r with
    | cons r1 r2 =>
      obtain ⟨t, e⟩ := r1
      subst e
      exact .cons n t (ih r2)

section
variable {X : Cx} {e : Expr} {te : TE} {lo hi : Option Expr} {tl th : TO} {pos p2 : Pos}

theorem po_none : PO X none tNoPart := by
  intro pins s σ H Q I h
  rw [evalPart_none]
  exact wpAny_pure ⟨none, H, I, .none, h⟩
theorem po_some (h : PE X e te) : PO X (some e) (tPart te) := by
  intro pins s σ H Q I hw
  rw [evalPart_some]
  refine thn (h pins s σ H _ I hw) fun u s1 ⟨x, H1, I1, r1, q1⟩ => ?_
  obtain ⟨i, rfl, q⟩ := q1
  obtain ⟨t, rfl⟩ := r1
  exact ⟨some i, H1, I1, .int i t, q⟩

def SlR (X : Cx) (r : V → Option Int → Option Int → Hp → VK → Prop) : Prop :=
  ∀ (pins : List (Addr × Obj)) (s : Shared) (σ : St) (H : Hp) (x : V) (v vl vu : Value) (lo hi : Option Int) (sl : Addr) (Q : VK), Inv X pins σ H s → RelV x v → s.heap.IsSliceOf sl vl vu .none → IsPart vl lo → IsPart vu hi → r x lo hi H Q →
    ∃ T id, typeLookup (.type T) "__getitem__" = pure (some (.builtin id)) ∧ s.TypeIs v T ∧ wpAny (model X.prog X.w) X.A (getItem v (.ref sl)) (EP X pins σ Q) X.xe s
def tSl (r : V → Option Int → Option Int → Hp → VK → Prop) (te : TE) (tl th : TO) : TE := fun σ H Q => te σ H fun x H1 => tl σ H1 fun l H2 => th σ H2 fun u H3 => r x l u H3 Q
theorem pe_slice {r : V → Option Int → Option Int → Hp → VK → Prop} (hr : SlR X r) (he : PE X e te) (hl : PO X lo tl) (hu : PO X hi th) : PE X (.Subscript e (.Slice lo hi none p2) pos) (tSl r te tl th) := by
  intro pins s σ H Q I h
  refine Subscript_ (thn (he pins s σ H _ I h) fun v s1 ⟨x, H1, I1, r1, q1⟩ => ?_)
  refine wpAny_Slice (thn (hl pins s1 σ H1 _ I1 q1) fun vl s2 ⟨l, H2, I2, pl, q2⟩ => thn (hu pins s2 σ H2 _ I2 q2) fun vu s3 ⟨u, H3, I3, pu, q3⟩ => ?_)
  rw [evalPart_none]
  refine wpAny_pure ?_
  have I4 : Inv X pins σ H3 { s3 with heap := s3.heap.push { cls := .type "slice", data := .fields #[vl, vu, .none] } } := I3.kept (t' := s3.toks) fun b ob q => Heap.get?_push_of_some _ q
  obtain ⟨T, id, hT, ht, hg⟩ := hr pins { s3 with heap := s3.heap.push { cls := .type "slice", data := .fields #[vl, vu, .none] } } σ H3 x v vl vu l u s3.heap.objs.size Q I4 r1 (Heap.IsSliceOf.new ..) pl pu q3
  show wpAny (model X.prog X.w) X.A (subscriptTail e (.Slice lo hi none p2) v (.ref s3.heap.objs.size)) (EP X pins σ Q) X.xe { s3 with heap := s3.heap.push { cls := .type "slice", data := .fields #[vl, vu, .none] } }
  exact tail_any (ops := [.ref s3.heap.objs.size, v]) ht hT hg (by with_unfolding_all rfl)

def cutV (xs : List V) (lo hi : Option Int) : List V := (xs.drop (HT.sIx xs.length 0 lo)).take (HT.sIx xs.length xs.length hi - HT.sIx xs.length 0 lo)
theorem cutV_length (xs : List V) (lo hi : Option Int) : (cutV xs lo hi).length ≤ xs.length := by
  unfold cutV
  rw [List.length_take, List.length_drop]
  omega
end
end L2

namespace L2
open PySem PySem.Spec PyProof.Rows

def ixN (n : Nat) (i : Int) : Option Nat := if 0 ≤ i then (if i < n then some i.toNat else none) else if -(n : Int) ≤ i then some (i + n).toNat else none
def atI {α : Type} (xs : List α) (i : Int) : Option α := (ixN xs.length i).bind fun j => xs[j]?
theorem ixN_seq {n : Nat} {i : Int} {j : Nat} (h : ixN n i = some j) : seqIndex? i n = some j ∧ j < n ∧ -(n : Int) ≤ i ∧ i < n := by
  unfold ixN at h
  by_cases h0 : 0 ≤ i
  · rw [if_pos h0] at h
    by_cases h1 : i < n
    · rw [if_pos h1] at h
      have e : i.toNat = j := Option.some.inj h
      exact ⟨by rw [seqIndex_of h0 h1, e], by omega, by omega, h1⟩
    · rw [if_neg h1] at h; cases h
  · rw [if_neg h0] at h
    by_cases h1 : -(n : Int) ≤ i
    · rw [if_pos h1] at h
      have e : (i + n).toNat = j := Option.some.inj h
      exact ⟨by rw [seqIndex_neg (by omega) h1, e], by omega, h1, by omega⟩
    · rw [if_neg h1] at h; cases h
theorem atI_get {α : Type} {xs : List α} {i : Int} {v : α} (h : atI xs i = some v) : ∃ j, seqIndex? i xs.length = some j ∧ xs[j]? = some v ∧ j < xs.length ∧ -(xs.length : Int) ≤ i ∧ i < xs.length := by
  unfold atI at h
  cases e : ixN xs.length i with
  | none => rw [e] at h; cases h
  | some j =>
    rw [e] at h
    obtain ⟨h1, h2, h3, h4⟩ := ixN_seq e
    exact ⟨j, h1, h, h2, h3, h4⟩
theorem atI_nat {α : Type} {xs : List α} {j : Nat} {v : α} (h : xs[j]? = some v) : atI xs (j : Int) = some v := by
  have hj : j < xs.length := (List.getElem?_eq_some_iff.mp h).1
  have e : ixN xs.length (j : Int) = some j := by
    unfold ixN
    rw [if_pos (by omega), if_pos (by omega)]; simp
  unfold atI; rw [e]; exact h
theorem atI_last {α : Type} (xs : List α) (v : α) : atI (xs ++ [v]) (-1) = some v := by
  have hl : (xs ++ [v]).length = xs.length + 1 := by simp
  have e : ixN (xs ++ [v]).length (-1) = some xs.length := by
    unfold ixN
    rw [hl, if_neg (by decide), if_pos (by omega)]
    congr 1
    omega
  unfold atI
  rw [e]
  show (xs ++ [v])[xs.length]? = some v
  simp

def PlainIx (b : Expr) : Prop := ∀ o i, subscripted b false o i = operate [o, i] (getItem o i)
def IxR (X : Cx) (r : R2) : Prop :=
  ∀ (value slice : Expr) (pins : List (Addr × Obj)) (s : Shared) (σ : St) (H : Hp) (x y : V) (v u : Value) (Q : VK), Inv X pins σ H s → RelV x v → RelV y u → r x y H Q →
    subscripted slice false v u = operate [v, u] (getItem v u) → wpAny (model X.prog X.w) X.A (subscriptTail value slice v u) (EP X pins σ Q) X.xe s
def MtR (X : Cx) (id : String) (r : V → List V → Hp → VK → Prop) : Prop :=
  ∀ (pins : List (Addr × Obj)) (s : Shared) (σ : St) (H : Hp) (x : V) (xs : List V) (v : Value) (us : List Value) (Q : VK), Inv X pins σ H s → RelV x v → Vals xs us → r x xs H Q →
    wpAny (model X.prog X.w) X.A (call (.builtin id) (v :: us)) (EP X pins σ Q) X.xe s
section
variable {X : Cx} {a b : Expr} {ta tb : TE} {pos : Pos}
theorem pe_ix {r : R2} (hr : IxR X r) (ha : PE X a ta) (hb : PE X b tb) (hs : PlainIx b) : PE X (.Subscript a b pos) (tOp r ta tb) := by
  intro pins s σ H Q I h
  exact Subscript_ (binT ha hb I h fun v u s2 x y H2 I2 rx ry q => hr a b pins s2 σ H2 x y v u Q I2 rx ry q (hs _ _))

def rIxL (K : PySem.W.Frag) : R2 := fun x y H Q => ∃ p xs i v, x = .ref p ∧ y = .int i ∧ SqL K H p xs ∧ atI xs i = some v ∧ Q v H
def rIxT (K : PySem.W.Frag) : R2 := fun x y H Q => ∃ p xs i v, x = .ref p ∧ y = .int i ∧ SqT K H p xs ∧ atI xs i = some v ∧ Q v H
theorem ix_list : IxR X (rIxL X.K) := by
  intro value slice pins s σ H x y v u Q I rx ry h hs
  obtain ⟨p, xs, i, z, rfl, rfl, hq, he, q⟩ := h
  cases rx
  obtain ⟨t, rfl⟩ := ry
  obtain ⟨its, r, pl, hz⟩ := I.list hq
  obtain ⟨j, h1, h2, h3, h4, h5⟩ := atI_get he
  obtain ⟨w, ew, rw'⟩ := r.get h2
  have hl := r.length
  have hn := line63
  have fin : EP X pins σ Q w s := ⟨z, H, I, rw', q⟩
  by_cases h0 : 0 ≤ i
  · have hj : i.toNat = j := by
      rw [seqIndex_of h0 h5] at h1
      exact Option.some.inj h1
    exact item_listR pl.isList h0 (by omega) (by rw [hj]; simpa using ew) fin hs
  · have hj : (i + (its.toArray.size : Int)).toNat = j := by
      rw [seqIndex_neg (by omega) h4] at h1
      rw [List.size_toArray, ← hl]
      exact Option.some.inj h1
    exact subscriptTail_builtinR (x := w) pl.isList.typeIs slot_list_getitem.lookup
      (wpAny_getItem_list_neg (Q := fun r s' => r = w ∧ EP X pins σ Q r s') pl.isList (by omega) (by rw [List.size_toArray] <;> omega) (by omega) (by rw [hj]; simpa using ew) ⟨rfl, fin⟩) hs
theorem ix_tup : IxR X (rIxT X.K) := by
  intro value slice pins s σ H x y v u Q I rx ry h hs
  obtain ⟨p, xs, i, z, rfl, rfl, hq, he, q⟩ := h
  cases rx
  obtain ⟨t, rfl⟩ := ry
  obtain ⟨its, r, pl, hz⟩ := I.tuple hq
  obtain ⟨j, h1, h2, h3, h4, h5⟩ := atI_get he
  obtain ⟨w, ew, rw'⟩ := r.get h2
  have hl := r.length
  have hn := line63
  have fin : EP X pins σ Q w s := ⟨z, H, I, rw', q⟩
  exact subscriptTail_builtinR (x := w) pl.typeIs slot_tuple_getitem.lookup
    (getItem_tuple (j := j) (Q := fun r s' => r = w ∧ EP X pins σ Q r s') pl (by omega) (by omega) (by rw [List.size_toArray, ← hl]; exact h1) (by simpa using ew) ⟨rfl, fin⟩) hs
theorem slice_bounds (lo hi : Option Int) (n : Nat) : (sliceBounds lo hi none n).1 = ((HT.sIx n 0 lo : Nat) : Int) ∧ (sliceBounds lo hi none n).2.1 = ((HT.sIx n n hi : Nat) : Int) ∧ (sliceBounds lo hi none n).2.2 = 1 := by
  refine ⟨?_, ?_, rfl⟩
  · cases lo with
    | none => simp [sliceBounds, HT.sIx]
    | some i =>
      simp only [sliceBounds, HT.sIx, Option.getD_none, show (1 : Int) > 0 by decide, if_true]
      by_cases h : i < 0
      · simp only [h, if_true] <;> omega
      · simp only [h, if_false] <;> omega
  · cases hi with
    | none => simp [sliceBounds, HT.sIx]
    | some i =>
      simp only [sliceBounds, HT.sIx, Option.getD_none, show (1 : Int) > 0 by decide, if_true]
      by_cases h : i < 0
      · simp only [h, if_true] <;> omega
      · simp only [h, if_false] <;> omega
theorem slicePick_cut (its : List Value) (lo hi : Option Int) : slicePick its.toArray lo hi none = ((its.drop (HT.sIx its.length 0 lo)).take (HT.sIx its.length its.length hi - HT.sIx its.length 0 lo)).toArray := by
  obtain ⟨h1, h2, h3⟩ := slice_bounds lo hi its.toArray.size
  unfold slicePick
  rw [h1, h2, h3]
  simp only [sliceRange_one, pick_run, List.size_toArray] <;> rfl
def rSlL (K : PySem.W.Frag) : V → Option Int → Option Int → Hp → VK → Prop := fun x lo hi H Q => ∃ a xs, x = .ref a ∧ SqL K H a xs ∧ ∀ p, H p = none → Q (.ref p) (upd H p (.lst (cutV xs lo hi)))
theorem sl_list : SlR X (rSlL X.K) := by
  intro pins s σ H x v vl vu lo hi sl Q I rx hs pl pu h
  obtain ⟨a, xs, rfl, hx, q⟩ := h
  cases rx
  obtain ⟨its, r, ht, hz⟩ := I.list hx
  have hlen := r.length
  refine ⟨"list", _, slot_list_getitem.lookup, ht.isList.typeIs, ?_⟩
  refine wpAny_getItem_list_slice ht.isList hs pl pu .none (by simp) ?_ (by rw [List.size_toArray] <;> omega)
  rw [slicePick_cut, ← hlen]
  refine ⟨.ref s.heap.objs.size, _, I.laid (t' := s.toks) (o := .lst (cutV xs lo hi)) (fun b ob q => Heap.get?_push_of_some _ q) (Nat.le_refl _) ?_, rfl, q _ (I.hok.fresh (Nat.le_refl _))⟩
  exact ⟨Nat.le_trans (cutV_length xs lo hi) hz, _, 0, (r.drop (HT.sIx xs.length 0 lo)).take (HT.sIx xs.length xs.length hi - HT.sIx xs.length 0 lo), Heap.get?_push_size _ rfl⟩

def flatV : V → Bool
  | .non => true
  | .bl _ => true
  | .int _ => true
  | .str _ => true
  | _ => false
def eqV : V → V → Bool
  | .non, .non => true
  | .bl a, .bl b => a == b
  | .bl a, .int b => (if a then 1 else 0) == b
  | .int a, .bl b => a == (if b then 1 else 0)
  | .int a, .int b => a == b
  | .str a, .str b => a == b
  | _, _ => false
theorem eqAt_V {A : Around} {s : Shared} {y x : V} {u v : Value} (ry : RelV y u) (rx : RelV x v) (fy : flatV y = true) (fx : flatV x = true) : SeqAt.EqAt A s u v (eqV y x) := by
  cases y with
  | non =>
    cases ry
    cases x with
    | non => cases rx; exact SeqAt.EqAt.same _
    | bl b => cases rx; exact SeqAt.EqAt.none_bool b
    | int b => obtain ⟨t, rfl⟩ := rx; exact SeqAt.EqAt.none_int b t
    | str b => obtain ⟨t, rfl⟩ := rx; exact SeqAt.EqAt.none_str b t
    | _ => exact absurd (show false = true from fx) Bool.false_ne_true
  | bl a =>
    cases ry
    cases x with
    | non => cases rx; exact SeqAt.EqAt.bool_none a
    | bl b => cases rx; exact SeqAt.EqAt.bool_bool a b
    | int b => obtain ⟨t, rfl⟩ := rx; exact SeqAt.EqAt.bool_int a b t
    | str b => obtain ⟨t, rfl⟩ := rx; exact SeqAt.EqAt.bool_str a b t
    | _ => exact absurd (show false = true from fx) Bool.false_ne_true
  | int a =>
    obtain ⟨t', rfl⟩ := ry
    cases x with
    | non => cases rx; exact SeqAt.EqAt.int_none a t'
    | bl b => cases rx; exact SeqAt.EqAt.int_bool a t' b
    | int b => obtain ⟨t, rfl⟩ := rx; exact SeqAt.EqAt.int_int a t' b t
    | str b => obtain ⟨t, rfl⟩ := rx; exact SeqAt.EqAt.int_str a t' b t
    | _ => exact absurd (show false = true from fx) Bool.false_ne_true
  | str a =>
    obtain ⟨t', rfl⟩ := ry
    cases x with
    | non => cases rx; exact SeqAt.EqAt.str_none a t'
    | bl b => cases rx; exact SeqAt.EqAt.str_bool a t' b
    | int b => obtain ⟨t, rfl⟩ := rx; exact SeqAt.EqAt.str_int a t' b t
    | str b => obtain ⟨t, rfl⟩ := rx; exact SeqAt.EqAt.str_str a t' b t
    | _ => exact absurd (show false = true from fx) Bool.false_ne_true
  | _ => exact absurd (show false = true from fy) Bool.false_ne_true
def eqU (x : V) (u : Value) : Bool := match u with
  | .none => eqV .non x
  | .bool b => eqV (.bl b) x
  | .int i _ => eqV (.int i) x
  | .str z _ => eqV (.str z) x
  | _ => false
theorem eqU_of {x y : V} {u : Value} (r : RelV y u) (f : flatV y = true) : eqU x u = eqV y x := by
  cases y with
  | non => cases r; rfl
  | bl b => cases r; rfl
  | int i => obtain ⟨t, rfl⟩ := r; rfl
  | str z => obtain ⟨t, rfl⟩ := r; rfl
  | _ => exact absurd (show false = true from f) Bool.false_ne_true
theorem any_eqU {x : V} : ∀ {xs : List V} {us : List Value}, Vals xs us → xs.all flatV = true → us.any (eqU x) = xs.any fun y => eqV y x
  | _, _, .nil, _ => rfl
  | y :: xs, u :: us, .cons r t, f => by
    rw [List.all_cons, Bool.and_eq_true] at f
    rw [List.any_cons, List.any_cons, eqU_of r f.1, any_eqU t f.2]
theorem mem_eqAt {A : Around} {s : Shared} {x : V} {v : Value} (rx : RelV x v) (fx : flatV x = true) : ∀ {xs : List V} {us : List Value}, Vals xs us → xs.all flatV = true → ∀ u ∈ us, SeqAt.EqAt A s u v (eqU x u)
  | _, _, .nil, _ => fun u hu => by cases hu
  | y :: xs, u :: us, .cons r t, f => fun u' hu => by
    rw [List.all_cons, Bool.and_eq_true] at f
    rcases List.mem_cons.mp hu with rfl | hu
    · rw [eqU_of r f.1]; exact eqAt_V r rx f.1 fx
    · exact mem_eqAt rx fx t f.2 u' hu
def inV (x : V) (xs : List V) : Bool := xs.any fun y => eqV y x
def rIn (K : PySem.W.Frag) (neg : Bool) : R2 := fun x y H Q => ∃ p xs, y = .ref p ∧ (SqL K H p xs ∨ SqT K H p xs) ∧ flatV x = true ∧ xs.all flatV = true ∧ Q (.bl (if neg then !inV x xs else inV x xs)) H
theorem op_notIn_seq : OpR X (compareOp .NotIn) (rIn X.K true) := by
  intro pins s σ H x y v u Q I rx ry h
  obtain ⟨p, xs, rfl, hq, fx, fs, q⟩ := h
  cases ry
  rcases hq with hq | hq
  · obtain ⟨its, r, pl, hz⟩ := I.list hq
    refine SeqAt.notIn_listAt (eqU x) pl.isList (fun w hw => mem_eqAt rx fx r fs w (by simpa using hw)) ⟨.bl _, H, I, rfl, ?_⟩
    rw [show its.toArray.any (eqU x) = its.any (eqU x) by simp, any_eqU r fs]
    exact q
  · obtain ⟨its, r, pl, hz⟩ := I.tuple hq
    refine SeqAt.notIn_tupleAt (eqU x) pl (fun w hw => mem_eqAt rx fx r fs w (by simpa using hw)) ⟨.bl _, H, I, rfl, ?_⟩
    rw [show its.toArray.any (eqU x) = its.any (eqU x) by simp, any_eqU r fs]
    exact q
theorem call_tuple_of : CallR X (.type "tuple") (fun xs H Q => ∃ p ys, xs = [.ref p] ∧ ((SqL X.K H p ys ∧ ∀ l, H l = none → Q (.ref l) (upd H l (.tup ys))) ∨ (SqT X.K H p ys ∧ Q (.ref p) H))) := by
  intro pins s σ H xs us Q I r h
  obtain ⟨p, ys, rfl, h⟩ := h
  obtain ⟨u, rfl, rx⟩ := vals1 r
  cases rx
  rcases h with ⟨hq, q⟩ | ⟨hq, q⟩
  · obtain ⟨its, r', pl, hz⟩ := I.list hq
    have hlen := r'.length
    refine call_tuple_list pl.isList (fun h' kp => ?_) (by simp only [List.size_toArray] <;> omega)
    have I1 : Inv X pins σ H { s with heap := h' } := I.kept (t' := s.toks) kp
    have I2 : Inv X pins σ (upd H h'.objs.size (.tup ys)) { s with heap := h'.push { cls := .type "tuple", data := .seq its.toArray } } :=
      I1.laid (t' := s.toks) (fun b o e => Heap.get?_push_of_some _ e) (Nat.le_refl _) (show ObjOk X.prog X.w _ _ _ (.tup ys) from ⟨hz, its, r', IsTup.new _ _⟩)
    exact ⟨.ref h'.objs.size, _, I2, rfl, q _ (I1.hok.fresh (Nat.le_refl _))⟩
  · obtain ⟨its, r', pl, hz⟩ := I.tuple hq
    exact call_tuple_same pl ⟨.ref p, H, I, rfl, q⟩

def tyV (K : PySem.W.Frag) (T : String) (x : V) (H : Hp) : Prop := match x with
  | .str _ => T = "str"
  | .int _ => T = "int"
  | .ref p => (T = "list" ∧ ∃ xs, SqL K H p xs) ∨ (T = "tuple" ∧ ∃ o, K.lookup p = some o ∧ o.cls = .type "tuple" ∧ o.dict = none) ∨
      (T = "dict" ∧ ((∃ kvs, H p = some (.dK kvs)) ∨ ∃ kvs, H p = some (.dT kvs))) ∨ (T = "set" ∧ ∃ S n, H p = some (.set S n))
  | _ => False
theorem tyV_is {pins : List (Addr × Obj)} {σ : St} {H : Hp} {s : Shared} {T : String} {x : V} {v : Value} (I : Inv X pins σ H s) (r : RelV x v) (ty : tyV X.K T x H) :
    s.TypeIs v T ∧ ∀ a, v = .ref a → ∃ ob, s.heap.get? a = some ob ∧ ob.dict = none := by
  cases x with
  | str z =>
    obtain ⟨t, rfl⟩ := r
    cases (show T = "str" from ty)
    exact ⟨typeIs_str s z t, fun _ e => nomatch e⟩
  | int i =>
    obtain ⟨t, rfl⟩ := r
    cases (show T = "int" from ty)
    exact ⟨typeIs_int s i t, fun _ e => nomatch e⟩
  | ref p =>
    cases r
    rcases ty with ⟨rfl, xs, hq⟩ | ⟨rfl, o, hk, hc, hd⟩ | ⟨rfl, hk⟩ | ⟨rfl, S, n, hk⟩
    · obtain ⟨its, _, pl, _⟩ := I.list hq
      refine ⟨pl.isList.typeIs, fun a e => ?_⟩
      cases e
      obtain ⟨o, n, e, c, hd, _⟩ := pl
      exact ⟨o, e, hd⟩
    · refine ⟨⟨o, I.kIn p o hk, hc⟩, fun a e => ?_⟩
      cases e
      exact ⟨o, I.kIn _ o hk, hd⟩
    · have z : ∃ o, s.heap.get? p = some o ∧ o.ExactDict := by
        rcases hk with ⟨kvs, hk⟩ | ⟨kvs, hk⟩
        · obtain ⟨_, _, _, _, o, _, _, e, ex, _⟩ := I.hok p _ hk
          exact ⟨o, e, ex⟩
        · obtain ⟨_, _, _, _, o, _, _, e, ex, _⟩ := I.hok p _ hk
          exact ⟨o, e, ex⟩
      obtain ⟨o, e, ex⟩ := z
      refine ⟨⟨o, e, ex.1⟩, fun a e2 => ?_⟩
      cases e2
      exact ⟨o, e, ex.2.1⟩
    · obtain ⟨o, _, _, _, e, ex, _⟩ := I.hok p _ hk
      refine ⟨⟨o, e, ex.1⟩, fun a e2 => ?_⟩
      cases e2
      exact ⟨o, e, ex.2.1⟩
  | _ => exact False.elim ty
def tBM0 (K : PySem.W.Frag) (T : String) (r : V → List V → Hp → VK → Prop) (to : TE) : TE := fun σ H Q => to σ H fun x H1 => tyV K T x H1 ∧ r x [] H1 Q
def tBM (K : PySem.W.Frag) (T : String) (r : V → List V → Hp → VK → Prop) (to : TE) (t : TA) : TE := fun σ H Q => to σ H fun x H1 => tyV K T x H1 ∧ t σ H1 fun xs H2 => r x xs H2 Q
variable {o e : Expr} {es : List Expr} {to : TE} {t : TA} {name : Str} {apos cpos : Pos} {T id : String} {r : V → List V → Hp → VK → Prop}
theorem pe_bm (pa : PlainAttrs T) (slot : Slot T name id) (hty : typeOf (.builtin id) = pure (.type "method_descriptor")) (hm : MtR X id r) (ho : PE X o to) (ha : PA X (e :: es) t)
    (hbase : attributeBase o name X.env (eval o X.env) = eval o X.env := by rfl)
    (hfew : ((backTo cpos (starEach (e :: es) X.env)).all (fun x => !x.1) && (backToKw cpos (keywordEach [] X.env)).all (fun x => x.1.isSome)
      && decide ((e :: es).length + ([] : List Keyword).length + (if ([] : List Keyword).isEmpty then 0 else 1) < 30)) = true := by rfl)
    (hline : (apos.endLine == cpos.line) = true := by rfl) (hs : starEach (e :: es) X.env = (false, eval e X.env) :: starEach es X.env := by rfl) (hplain : (backTo cpos (starEach es X.env)).any (·.1) = false := by rfl) :
    PE X (.Call (.Attribute o name apos) (e :: es) [] cpos) (tBM X.K T r to t) := by
  intro pins s σ H Q I h
  refine wpAny_Call_method_late hbase hfew hline rfl (thn (ho pins s σ H _ I h) fun v s1 ⟨x, H1, I1, r1, ty, q1⟩ => ?_)
  obtain ⟨h1, h2⟩ := tyV_is I1 r1 ty
  refine ⟨T, id, pa, slot, hty, h1, h2, ?_⟩
  have hA := ha cpos pins s1 σ H1 _ I1 q1
  rw [hs] at hA ⊢
  refine Calls.callWith_builtin (by show (false || (backTo cpos (starEach es X.env)).any (·.1)) = false; rw [hplain] <;> rfl) (Calls.evalArgs_plain ?_)
  exact thn hA fun us s2 ⟨vs, H2, I2, r2, q2⟩ => hm pins s2 σ H2 x vs v us Q I2 r1 r2 q2
end
end L2

namespace L2
open PySem PySem.Spec PyProof.Rows

def MtM (X : Cx) (id : String) (r : V → List V → Hp → VK → Prop) : Prop :=
  ∀ (pins : List (Addr × Obj)) (s : Shared) (σ : St) (H : Hp) (x : V) (xs : List V) (v : Value) (us : List Value) (Q : VK), Inv X pins σ H s → RelV x v → Vals xs us → r x xs H Q →
    wpAny (model X.prog X.w) X.A (call (.builtin id) (v :: us)) (EP X pins σ Q) X.xe s

theorem Vals.one : ∀ {x : V} {us : List Value}, Vals [x] us → ∃ u, us = [u] ∧ RelV x u
  | _, _, .cons r .nil => ⟨_, rfl, r⟩
section
variable {X : Cx} {pins : List (Addr × Obj)} {σ : St} {H : Hp} {s : Shared} {l b : Addr} {xs ys zs : List V}

theorem Inv.lset {its its' : List Value} {n : Nat} {f : Array Value → Array Value} {t' : Nat} (I : Inv X pins σ H s) (hH : H l = some (.lst xs))
    (e : s.heap.get? l = some { cls := .type "list", data := .seq its.toArray n }) (hf : f its.toArray = its'.toArray) (hv : Vals ys its') (hz : ys.length ≤ sizeLine) :
    Inv X pins σ (upd H l (.lst ys)) { s with heap := s.heap.update l (Obj.mapSeq f), toks := t' } := by
  have q := PySem.IsL.update e f
  rw [hf] at q
  refine I.write (x := l) (e := l) (by rw [hH]; exact trivial) (.inl rfl) (fun b' u hb hu => (Heap.get?_update_other s.heap (Obj.mapSeq f) (Ne.symm hb)).trans hu) ⟨_, q⟩ ?_
  exact ⟨hz, its', _, hv, q⟩
theorem Inv.lnew {its : List Value} {t' : Nat} (I : Inv X pins σ H s) (hv : Vals ys its) (hz : ys.length ≤ sizeLine) :
    Inv X pins σ (upd H s.heap.objs.size (.lst ys)) { s with heap := s.heap.push { cls := .type "list", data := .seq its.toArray }, toks := t' } :=
  I.laid (fun _ _ q => Heap.get?_push_of_some _ q) (Nat.le_refl _) ⟨hz, its, 0, hv, Heap.get?_push_size _ rfl⟩
theorem Inv.fresh (I : Inv X pins σ H s) : H s.heap.objs.size = none := I.hok.fresh (Nat.le_refl _)
theorem Inv.lstM (I : Inv X pins σ H s) (hH : H l = some (.lst xs)) : xs.length ≤ sizeLine ∧ ∃ (its : List Value) (n : Nat), Vals xs its ∧ xs.length = its.length ∧ s.heap.get? l = some { cls := .type "list", data := .seq its.toArray n } := by
  obtain ⟨z, its, n, r, e⟩ := I.hok l _ hH
  exact ⟨z, its, n, r, r.length, e⟩

theorem notLongL {n : Nat} (h : n ≤ sizeLine) : Builtin.List.listTooLong n = false := by
  unfold Builtin.List.listTooLong
  exact decide_eq_false (by omega)
end

section
variable {X : Cx}

def rAppend : V → List V → Hp → VK → Prop := fun x vs H Q => ∃ l xs y, x = .ref l ∧ vs = [y] ∧ H l = some (.lst xs) ∧ xs.length < sizeLine ∧ Q .non (upd H l (.lst (xs ++ [y])))
theorem mt_append : MtM X "list.append" rAppend := by
  intro pins s σ H x vs v us Q I rx rv h
  obtain ⟨l, xs, y, rfl, rfl, hH, hz, q⟩ := h
  cases rx
  obtain ⟨u, rfl, ru⟩ := rv.one
  obtain ⟨z, its, n, r, hl, e⟩ := I.lstM hH
  refine call_meets F.slot_list_append ⟨_, e, rfl⟩ F.entry_list_append (F.args_list_append_2 _ _) (PySem.list_append l its.toArray n u (by rw [List.size_toArray]; omega)) ⟨e, ?_⟩
  refine ⟨.non, _, I.lset (its' := its ++ [u]) hH e (by simp) (r.append (.cons ru .nil)) ?_, rfl, q⟩
  rw [List.length_append, List.length_singleton]
  omega

def rExtend : V → List V → Hp → VK → Prop := fun x vs H Q => ∃ l b xs zs, x = .ref l ∧ vs = [.ref b] ∧ H l = some (.lst xs) ∧ H b = some (.lst zs) ∧ xs.length + zs.length ≤ sizeLine ∧ Q .non (upd H l (.lst (xs ++ zs)))
theorem mt_extend : MtM X "list.extend" rExtend := by
  intro pins s σ H x vs v us Q I rx rv h
  obtain ⟨l, b, xs, zs, rfl, rfl, hH, hB, hz, q⟩ := h
  cases rx
  obtain ⟨u, rfl, ru⟩ := rv.one
  cases ru
  obtain ⟨z, its, n, r, hl, e⟩ := I.lstM hH
  obtain ⟨z2, its2, n2, r2, hl2, e2⟩ := I.lstM hB
  have hsz : its.toArray.size + its2.toArray.size ≤ sizeLine := by rw [List.size_toArray, List.size_toArray]; omega
  have hlong : ¬ (!its.toArray.isEmpty && Builtin.List.listTooLong (its.toArray.size + its2.toArray.size)) = true := by
    rw [notLongL hsz, Bool.and_false]
    exact Bool.false_ne_true
  refine call_meets F.slot_list_extend ⟨_, e, rfl⟩ F.entry_list_extend (F.args_list_extend_2 _ _)
    (AutoSeq1.list_extend_list_list_0 l its.toArray n b its2.toArray n2 hlong (by rw [List.size_toArray]; omega) (by omega)) ⟨e, e2, ?_⟩
  refine ⟨.non, _, I.lset (its' := its ++ its2) hH e (by simp) (r.append r2) ?_, rfl, q⟩
  rw [List.length_append]
  omega

def rCat : R2 := fun x y H Q => ∃ l b xs zs, x = .ref l ∧ y = .ref b ∧ H l = some (.lst xs) ∧ H b = some (.lst zs) ∧ xs.length + zs.length ≤ sizeLine ∧ ∀ p, H p = none → Q (.ref p) (upd H p (.lst (xs ++ zs)))
theorem op_cat : OpR X (binaryOp .Add) rCat := by
  intro pins s σ H x y v u Q I rx ry h
  obtain ⟨l, b, xs, zs, rfl, rfl, hH, hB, hz, q⟩ := h
  cases rx
  cases ry
  obtain ⟨z, its, n, r, hl, e⟩ := I.lstM hH
  obtain ⟨z2, its2, n2, r2, hl2, e2⟩ := I.lstM hB
  refine PySem.P.add_list e e2 ?_ (by rw [List.size_toArray, List.size_toArray]; omega)
  have ea : its.toArray ++ its2.toArray = (its ++ its2).toArray := by simp
  rw [ea]
  exact ⟨.ref _, _, I.lnew (t' := s.toks) (r.append r2) (by rw [List.length_append]; omega), rfl, q _ I.fresh⟩
end

section
variable {prog : Program} {w : World} {A : Around} {E : Value → Shared → Prop} {s : Shared}
end

section
variable {X : Cx}
end
end L2

namespace L2
open PySem PySem.Spec PyProof.Rows

theorem Vals.bls : ∀ {bs : List Bool} {us : List Value}, Vals (bs.map V.bl) us → us = bs.map Value.bool
  | [], us, h => by
    rw [List.map_nil] at h
    cases h
    rfl
  | b :: bs, us, h => by
    rw [List.map_cons] at h
    cases h with
    | cons r t =>
      cases r
      rw [Vals.bls t, List.map_cons]
theorem Vals.ref1 {a : Addr} {us : List Value} (r : Vals [V.ref a] us) : us = [Value.ref a] := by
  cases r with
  | cons r t =>
    cases t
    cases r
    rfl
section
variable {prog : Program} {w : World} {A : Around} {E : Value → Shared → Prop} {s : Shared} {l : Addr} {its : List Value} {ns : List Int} {Q : Value → Shared → Prop}
end

section
variable {X : Cx}
end

section
variable {X : Cx}
end

section
variable {X : Cx}
end

theorem iter_any {prog : Program} {w : World} {A : Around} {E : Value → Shared → Prop} {s : Shared} {l : Addr} {items : Array Value} {Q : Value → Shared → Prop} (hl : s.heap.IsList l items)
    (h : ∀ s₂ : Shared, s₂ = { s with heap := s.heap.push { cls := .type "list_iterator", data := .fields #[.ref l, .int 0 0] } } →
      (s₂.heap.IsListIter s.heap.objs.size l 0 ∧ s₂.heap.IsList l items) → l ≠ s.heap.objs.size → Q (.ref s.heap.objs.size) s₂) : wpAny (model prog w) A (pyIter (.ref l)) Q E s := by
  have hlt : l < s.heap.objs.size := by obtain ⟨_, e, _⟩ := hl; exact Heap.lt_size e
  exact wpAny_pyIter_list hl (h _ rfl ⟨⟨_, Heap.get?_push_size _ rfl, rfl, rfl⟩, hl.push _⟩ (Nat.ne_of_lt hlt))
theorem truth_bools {prog : Program} {w : World} {A : Around} {bs : List Bool} {its : List Value} (e : its = bs.map Value.bool) :
    TruthOf prog w A (fun i v => its.toArray[i]? = some v) (fun i => bs.getD i false) := fun i v s Q E hv hq => by
  have hv' : its[i]? = some v := by simpa using hv
  rw [e, List.getElem?_map] at hv'
  obtain ⟨b, hb, rfl⟩ := Option.map_eq_some_iff.mp hv'
  have hg : bs.getD i false = b := by rw [List.getD_eq_getElem?_getD, hb] <;> rfl
  have hq' : Q (bs.getD i false) s := hq
  rw [hg] at hq'
  exact wpAny_truthy_bool hq'
theorem any_range : ∀ bs : List Bool, (List.range bs.length).any (fun i => bs.getD i false) = bs.any id
  | [] => rfl
  | b :: bs => by
    rw [List.length_cons, List.range_succ_eq_map, List.any_cons, List.any_map, List.any_cons, ← any_range bs]
    all_goals rfl
theorem all_range : ∀ bs : List Bool, (List.range bs.length).all (fun i => bs.getD i false) = bs.all id
  | [] => rfl
  | b :: bs => by
    rw [List.length_cons, List.range_succ_eq_map, List.all_cons, List.all_map, List.all_cons, ← all_range bs]
    all_goals rfl
section
variable {X : Cx}
def rAny (K : PySem.W.Frag) : List V → Hp → VK → Prop := fun vs H Q => ∃ (a : Addr) (bs : List Bool), vs = [V.ref a] ∧ SqL K H a (bs.map V.bl) ∧ Q (.bl (bs.any id)) H
def rAll (K : PySem.W.Frag) : List V → Hp → VK → Prop := fun vs H Q => ∃ (a : Addr) (bs : List Bool), vs = [V.ref a] ∧ SqL K H a (bs.map V.bl) ∧ Q (.bl (bs.all id)) H
theorem cr_any (hc : X.calm = true) : CallR X (.builtin "any") (rAny X.K) := by
  intro pins s σ H vs us Q I r h
  obtain ⟨a, bs, rfl, hs, q⟩ := h
  obtain ⟨its, rv, hl, _⟩ := I.list hs
  rw [Vals.ref1 r]
  have hb := rv.bls
  refine call_any_walk (iter_any hl.isList fun s₂ e2 st hne => ?_)
  subst e2
  refine ⟨_, _, _, _, _, _, _, rfl, Walks.list (A := X.A.in1) (I.ok.hd hc) _ a hne its.toArray, st, truth_bools hb, fun h' tk hk => ?_⟩
  refine ⟨.bl _, H, I.kept fun b o eo => hk b o (fun hmem => ?_) (Heap.get?_push_of_some _ eo), ?_, q⟩
  · rcases List.mem_cons.mp hmem with e1 | hmem
    · exact absurd (e1 ▸ Heap.lt_size eo) (Nat.lt_irrefl _)
    · cases hmem
  · show Value.bool _ = Value.bool _
    rw [← any_range, hb, List.size_toArray, List.length_map]
theorem cr_all (hc : X.calm = true) : CallR X (.builtin "all") (rAll X.K) := by
  intro pins s σ H vs us Q I r h
  obtain ⟨a, bs, rfl, hs, q⟩ := h
  obtain ⟨its, rv, hl, _⟩ := I.list hs
  rw [Vals.ref1 r]
  have hb := rv.bls
  refine call_all_walk (iter_any hl.isList fun s₂ e2 st hne => ?_)
  subst e2
  refine ⟨_, _, _, _, _, _, _, rfl, Walks.list (A := X.A.in1) (I.ok.hd hc) _ a hne its.toArray, st, truth_bools hb, fun h' tk hk => ?_⟩
  refine ⟨.bl _, H, I.kept fun b o eo => hk b o (fun hmem => ?_) (Heap.get?_push_of_some _ eo), ?_, q⟩
  · rcases List.mem_cons.mp hmem with e1 | hmem
    · exact absurd (e1 ▸ Heap.lt_size eo) (Nat.lt_irrefl _)
    · cases hmem
  · show Value.bool _ = Value.bool _
    rw [← all_range, hb, List.size_toArray, List.length_map]
end

mutual
inductive Dp (K : PySem.W.Frag) (H : Hp) : V → PyData → Prop
  | non : Dp K H .non .none
  | bl (b : Bool) : Dp K H (.bl b) (.bool b)
  | int (i : Int) : Dp K H (.int i) (.int i)
  | str (x : Str) : Dp K H (.str x) (.str x)
  | lst {a : Addr} {xs : List V} {ds : List PyData} : SqL K H a xs → DpAll K H xs ds → Dp K H (.ref a) (.list ds)
  | tup {a : Addr} {xs : List V} {ds : List PyData} : SqT K H a xs → DpAll K H xs ds → Dp K H (.ref a) (.tuple ds)
inductive DpAll (K : PySem.W.Frag) (H : Hp) : List V → List PyData → Prop
  | nil : DpAll K H [] []
  | cons {v : V} {vs : List V} {d : PyData} {ds : List PyData} : Dp K H v d → DpAll K H vs ds → DpAll K H (v :: vs) (d :: ds)
end
section
variable {X : Cx} {pins : List (Addr × Obj)} {σ : St} {H : Hp} {s : Shared}
mutual
theorem Dp.reads (I : Inv X pins σ H s) : ∀ (d : PyData) (v : V) (u : Value), Dp X.K H v d → RelV v u → ∃ as, Reads s.heap u d as
  | .none, _, _, h, r => by
    cases h
    cases r
    exact ⟨_, Reads.none⟩
  | .bool b, _, _, h, r => by
    cases h
    cases r
    exact ⟨_, Reads.bool b⟩
  | .int i, _, _, h, r => by
    cases h
    obtain ⟨t, rfl⟩ := r
    exact ⟨_, Reads.int i t⟩
  | .str x, _, _, h, r => by
    cases h
    obtain ⟨t, rfl⟩ := r
    exact ⟨_, Reads.str x t⟩
  | .list ds, _, _, h, r => by
    cases h with
    | lst hs ha =>
      cases r
      obtain ⟨its, rv, ⟨o, n, ho, hc, _, hd⟩, _⟩ := I.list hs
      obtain ⟨as, hr⟩ := Dp.readsAll I ds _ its ha rv
      exact ⟨_, Reads.list ho hc hd hr⟩
  | .tuple ds, _, _, h, r => by
    cases h with
    | tup hs ha =>
      cases r
      obtain ⟨its, rv, ⟨o, ho, hc, n, hd⟩, _⟩ := I.tuple hs
      obtain ⟨as, hr⟩ := Dp.readsAll I ds _ its ha rv
      exact ⟨_, Reads.tuple ho hc hd hr⟩
  | .dict _, _, _, h, _ => by cases h
theorem Dp.readsAll (I : Inv X pins σ H s) : ∀ (ds : List PyData) (vs : List V) (us : List Value), DpAll X.K H vs ds → Vals vs us → ∃ as, ReadsAll s.heap us ds as
  | [], _, _, h, r => by
    cases h
    cases r
    exact ⟨_, ReadsAll.nil⟩
  | d :: ds, _, _, h, r => by
    cases h with
    | cons h1 h2 =>
      cases r with
      | cons r1 r2 =>
        obtain ⟨as, q1⟩ := Dp.reads I d _ _ h1 r1
        obtain ⟨bs, q2⟩ := Dp.readsAll I ds _ _ h2 r2
        exact ⟨_, ReadsAll.cons q1 q2⟩
end
end
section
variable {X : Cx}
def rEqD (K : PySem.W.Frag) : R2 := fun x y H Q => ∃ d e, Dp K H x d ∧ Dp K H y e ∧ SeqAt.shaped d = true ∧ SeqAt.shaped e = true ∧ Q (.bl (PyData.eqv d e)) H
theorem op_eqD (hu : X.A.units + 64 < cLine) : OpR X (compareOp .Eq) (rEqD X.K) := by
  intro pins s σ H x y v u Q I rx ry h
  obtain ⟨d, e, hd, he, sd, se, q⟩ := h
  obtain ⟨as, r1⟩ := Dp.reads I d x v hd rx
  obtain ⟨bs, r2⟩ := Dp.reads I e y u he ry
  exact SeqAt.compareEq_shaped r1 r2 sd se hu ⟨.bl _, H, I, rfl, q⟩
end
end L2

namespace L2
open PySem PySem.Spec PyProof.Rows
abbrev CellAt (h : Heap) (c : Addr) (v : Option Value) : Prop := h.IsCell c v
def relS (scope sc : Scope) : Scope :=
  { scope with names := scope.names.map fun (n, k) => if (k == .free && sc.kind == .function && sc.names.lookup n == some .cell) then (n, .cell) else (n, k) }

def cloFrom (cells : List (Str × Addr)) : List (Str × NameKind) → List (Str × Addr) → List (Str × Addr)
  | [], acc => acc
  | (n, k) :: r, acc => if k == .free then cloFrom cells r ((n, (cells.lookup n).getD 0) :: acc) else cloFrom cells r acc

theorem closure_loop (env : Env) (f : Str × NameKind → List (Str × Addr) → Sem (ForInStep (List (Str × Addr))))
    (hf : ∀ n k c, f (n, k) c = if k == .free then (do let a ← cellOf env n; pure (.yield ((n, a) :: c))) else pure (.yield c)) :
    ∀ (names : List (Str × NameKind)) (acc : List (Str × Addr)), (∀ y ∈ names, y.2 = .free → ∃ c, env.cells.lookup y.1 = some c) → forIn names acc f = pure (cloFrom env.cells names acc)
  | [], acc, _ => by rw [List.forIn_nil]; rfl
  | (n, k) :: r, acc, h => by
    rw [List.forIn_cons, hf]
    have ih := fun acc => closure_loop env f hf r acc fun y hy => h y (List.mem_cons_of_mem _ hy)
    unfold cloFrom
    by_cases hk : (k == NameKind.free) = true
    · rw [if_pos hk, if_pos hk]
      obtain ⟨c, hc⟩ := h (n, k) List.mem_cons_self (by simpa using hk)
      have e : cellOf env n = pure c := by unfold cellOf; rw [hc]
      rw [e]
      have e2 : (env.cells.lookup n).getD 0 = c := by rw [hc]; rfl
      rw [e2]
      exact ih _
    · rw [if_neg hk, if_neg hk]
      exact ih _
theorem closure_ok {scope : Scope} {env : Env} (h : ∀ y ∈ scope.names, y.2 = .free → ∃ c, env.cells.lookup y.1 = some c) : closureFor scope env = pure (cloFrom env.cells scope.names []) := by
  simp only [closureFor]
  rw [closure_loop env _ (fun n k c => rfl) scope.names [] h]
  rfl

theorem mem_lookup {α : Type} : ∀ {l : List (Str × α)} {n : Str} {c : α}, (n, c) ∈ l → ∃ c', l.lookup n = some c'
  | (k, v) :: r, n, c, h => by
    rw [List.lookup_cons]
    cases hb : n == k with
    | true => exact ⟨_, rfl⟩
    | false =>
      rcases List.mem_cons.mp h with e | h
      · cases e; simp at hb
      · exact mem_lookup h

theorem cloFrom_mem {cells : List (Str × Addr)} : ∀ {names : List (Str × NameKind)} {acc : List (Str × Addr)} {n : Str} {c : Addr}, (n, c) ∈ cloFrom cells names acc → (n, c) ∈ acc ∨ ((n, .free) ∈ names ∧ c = (cells.lookup n).getD 0)
  | [], _, _, _, h => .inl h
  | (m, k) :: r, acc, n, c, h => by
    unfold cloFrom at h
    split at h
    · rename_i hk
      have hk : k = .free := by simpa using hk
      rcases cloFrom_mem h with h | ⟨h1, h2⟩
      · rcases List.mem_cons.mp h with e | h
        · cases e; exact .inr ⟨hk ▸ List.mem_cons_self, rfl⟩
        · exact .inl h
      · exact .inr ⟨List.mem_cons_of_mem _ h1, h2⟩
    · rcases cloFrom_mem h with h | ⟨h1, h2⟩
      · exact .inl h
      · exact .inr ⟨List.mem_cons_of_mem _ h1, h2⟩
theorem cloFrom_acc {cells : List (Str × Addr)} : ∀ {names : List (Str × NameKind)} {acc : List (Str × Addr)} {p : Str × Addr}, p ∈ acc → p ∈ cloFrom cells names acc
  | [], _, _, h => h
  | (m, k) :: r, acc, p, h => by
    unfold cloFrom
    split
    · exact cloFrom_acc (List.mem_cons_of_mem _ h)
    · exact cloFrom_acc h
theorem cloFrom_has {cells : List (Str × Addr)} : ∀ {names : List (Str × NameKind)} {acc : List (Str × Addr)} {n : Str}, (n, .free) ∈ names → (n, (cells.lookup n).getD 0) ∈ cloFrom cells names acc
  | (m, k) :: r, acc, n, h => by
    unfold cloFrom
    rcases List.mem_cons.mp h with e | h
    · cases e
      exact cloFrom_acc List.mem_cons_self
    · split
      · exact cloFrom_has h
      · exact cloFrom_has h

theorem cells_mem : ∀ {names : List (Str × NameKind)} {h : Heap} {acc : List (Str × Addr)} {x : Str} {c : Addr}, (x, c) ∈ cellsFrom h.objs.size names acc →
    (x, c) ∈ acc ∨ ((x, .cell) ∈ names ∧ h.objs.size ≤ c ∧ CellAt (pushCells h names) c none)
  | [], _, _, _, _, h => .inl h
  | (n, k) :: r, h, acc, x, c, hm => by
    unfold cellsFrom at hm
    unfold pushCells
    split at hm
    · rename_i hk
      rw [if_pos hk]
      have hk : k = .cell := by simpa using hk
      rw [← Heap.size_push h { cls := .type "cell", data := .cell none }] at hm
      rcases cells_mem hm with hm | ⟨h1, h2, h3⟩
      · rcases List.mem_cons.mp hm with e | hm
        · cases e
          exact .inr ⟨hk ▸ List.mem_cons_self, Nat.le_refl _, _, pushCells_keeps r _ _ _ (Heap.get?_push_size _ rfl), rfl⟩
        · exact .inl hm
      · rw [Heap.size_push] at h2
        exact .inr ⟨List.mem_cons_of_mem _ h1, Nat.le_of_succ_le h2, h3⟩
    · rename_i hk
      rw [if_neg hk]
      rcases cells_mem hm with hm | ⟨h1, h2, h3⟩
      · exact .inl hm
      · exact .inr ⟨List.mem_cons_of_mem _ h1, h2, h3⟩
theorem cells_acc : ∀ {names : List (Str × NameKind)} {n : Nat} {acc : List (Str × Addr)} {p : Str × Addr}, p ∈ acc → p ∈ cellsFrom n names acc
  | [], _, _, _, h => h
  | (m, k) :: r, n, acc, p, h => by
    unfold cellsFrom
    split
    · exact cells_acc (List.mem_cons_of_mem _ h)
    · exact cells_acc h
theorem cells_has : ∀ {names : List (Str × NameKind)} {n : Nat} {acc : List (Str × Addr)} {x : Str}, (x, .cell) ∈ names → ∃ c, (x, c) ∈ cellsFrom n names acc
  | (m, k) :: r, n, acc, x, h => by
    unfold cellsFrom
    rcases List.mem_cons.mp h with e | h
    · cases e
      exact ⟨n, cells_acc List.mem_cons_self⟩
    · split
      · exact cells_has h
      · exact cells_has h
theorem cells_inj : ∀ {names : List (Str × NameKind)} {h : Heap} {acc : List (Str × Addr)} {x y : Str} {c : Addr}, (∀ p ∈ acc, p.2 < h.objs.size) → (∀ x y c, (x, c) ∈ acc → (y, c) ∈ acc → x = y) →
    (x, c) ∈ cellsFrom h.objs.size names acc → (y, c) ∈ cellsFrom h.objs.size names acc → x = y
  | [], _, _, _, _, _, _, hi, h1, h2 => hi _ _ _ h1 h2
  | (n, k) :: r, h, acc, x, y, c, hl, hi, h1, h2 => by
    unfold cellsFrom at h1 h2
    split at h1
    · rename_i hk
      rw [if_pos hk] at h2
      rw [← Heap.size_push h { cls := .type "cell", data := .cell none }] at h1 h2
      refine cells_inj (h := h.push _) (fun p hp => ?_) (fun x y c a b => ?_) h1 h2
      · rw [Heap.size_push]
        rcases List.mem_cons.mp hp with rfl | hp
        · exact Nat.lt_succ_self _
        · exact Nat.lt_succ_of_lt (hl p hp)
      · rcases List.mem_cons.mp a with e | a <;> rcases List.mem_cons.mp b with e' | b
        · cases e; cases e'; rfl
        · cases e; exact absurd (hl _ b) (Nat.lt_irrefl _)
        · cases e'; exact absurd (hl _ a) (Nat.lt_irrefl _)
        · exact hi _ _ _ a b
    · rename_i hk
      rw [if_neg hk] at h2
      exact cells_inj hl hi h1 h2

theorem newEnv_comp {M : Model} {A : Around} {E : Value → Shared → Prop} {s : Shared} {scope : Scope} {globals : Addr} {closure : List (Str × Addr)} {qual : Str} {func : Option Addr} {code : Value} {around : Env} {builtins : Addr} {Q : Env → Shared → Prop}
    (h : Q (newEnv scope s.heap.objs.size globals (cellsFrom (s.heap.objs.size + 1) scope.names closure) qual func code (some around) builtins)
      { s with heap := pushCells (s.heap.push { cls := .type "dict", data := .dict #[] }) scope.names }) :
    wpAny M A (newFunctionEnv scope globals closure [] qual func code (some around) builtins) Q E s := by
  simp only [newFunctionEnv, Option.isSome_some, if_true]
  refine wpAny_bind (wpAny_alloc ?_)
  refine wpAny_bind (wpAny_layCells _ (fun n k c => rfl) scope.names closure _ _ ?_)
  rw [show ({ s with heap := s.heap.push { cls := .type "dict", data := .dict #[] } } : Shared).heap.objs.size = s.heap.objs.size + 1 from Heap.size_push ..]
  rw [List.forIn_nil]
  exact wpAny_bind (wpAny_pure (wpAny_pure h))

theorem lookup_relS {sc : Scope} : ∀ {names : List (Str × NameKind)} {x : Str} {k : NameKind},
    (names.map fun (n, k) => if (k == NameKind.free && sc.kind == .function && sc.names.lookup n == some .cell) then (n, NameKind.cell) else (n, k)).lookup x = some k →
    ∃ k', names.lookup x = some k' ∧ (k = k' ∨ (k' = .free ∧ k = .cell))
  | [], _, _, h => by simp at h
  | (n, k₀) :: r, x, k, h => by
    have ih := @lookup_relS sc r x k
    have h' : List.lookup x ((if (k₀ == NameKind.free && sc.kind == .function && sc.names.lookup n == some .cell) = true then (n, NameKind.cell) else (n, k₀)) :: (r.map _)) = some k := h
    cases hx : x == n with
    | true =>
      simp only [List.lookup_cons, hx]
      by_cases hc : (k₀ == NameKind.free && sc.kind == .function && sc.names.lookup n == some .cell) = true
      · rw [if_pos hc] at h'
        simp only [List.lookup_cons, hx] at h'
        cases h'
        simp only [Bool.and_eq_true, beq_iff_eq] at hc
        exact ⟨k₀, rfl, .inr ⟨hc.1.1, rfl⟩⟩
      · rw [if_neg hc] at h'
        simp only [List.lookup_cons, hx] at h'
        cases h'
        exact ⟨_, rfl, .inl rfl⟩
    | false =>
      simp only [List.lookup_cons, hx]
      by_cases hc : (k₀ == NameKind.free && sc.kind == .function && sc.names.lookup n == some .cell) = true
      · rw [if_pos hc] at h'
        simp only [List.lookup_cons, hx] at h'
        exact ih h'
      · rw [if_neg hc] at h'
        simp only [List.lookup_cons, hx] at h'
        exact ih h'
structure BlkOk (N : List Str) (sc scope : Scope) (own : List (Str × Nat)) : Prop where
  kind : scope.kind = .function
  uniq : ∀ y ∈ scope.names, scope.names.lookup y.1 = some y.2
  ix : ∀ p ∈ own, N[p.2]? = some p.1
  free : ∀ y ∈ scope.names, y.2 = .free → sc.names.lookup y.1 = some .cell ∨ sc.names.lookup y.1 = some .free
  own : ∀ y ∈ scope.names, y.2 = .local ∨ y.2 = .cell → y.1 ∈ own.map (·.1) ∨ y.1 ∉ N
def wipe (σ : St) : List Nat → St
  | [] => σ
  | v :: vs => (wipe σ vs).set v none
theorem wipe_length (σ : St) : ∀ vs : List Nat, (wipe σ vs).length = σ.length
  | [] => rfl
  | v :: vs => by unfold wipe; rw [List.length_set, wipe_length σ vs]
theorem wipe_some {σ : St} {i : Nat} {x : V} : ∀ {vs : List Nat}, (wipe σ vs)[i]? = some (some x) → σ[i]? = some (some x) ∧ i ∉ vs
  | [], h => ⟨h, by simp⟩
  | v :: vs, h => by
    unfold wipe at h
    by_cases hi : v = i
    · subst hi
      by_cases hv : v < (wipe σ vs).length
      · rw [List.getElem?_set_self hv] at h; cases h
      · rw [List.getElem?_eq_none (by simpa using hv)] at h; cases h
    · rw [List.getElem?_set_ne hi] at h
      obtain ⟨h1, h2⟩ := wipe_some h
      exact ⟨h1, by simp only [List.mem_cons, not_or]; exact ⟨fun e => hi e.symm, h2⟩⟩

abbrev Cx.blk (X : Cx) (s : Shared) (H : Hp) (scope : Scope) (cenv : Env) (fp : List Addr) : Cx := { X with s_0 := s, H_0 := H, env := cenv, outer := X.stack, ex := fp, fn := fun x => scope.names.lookup x == some .cell, pn := [], xe := fun _ _ => False }
section
variable {X : Cx} {pins : List (Addr × Obj)} {σ : St} {H : Hp} {s : Shared}
theorem block_start {scope : Scope} {own : List (Str × Nat)} {fp : List Addr} (I : Inv X pins σ H s) (ok : BlkOk X.N X.env.scope scope own) (hN : X.N.Nodup) (hfp : ∀ b ∈ fp, FpOk X pins H b ∧ b < s.heap.objs.size) :
    Inv (X.blk s H scope (compEnvC scope (cellsFrom (s.heap.objs.size + 1) scope.names (cloFrom X.env.cells scope.names [])) s.heap.objs.size X.env) fp) [] (wipe σ (own.map (·.2))) H { s with heap := pushCells (s.heap.push { cls := .type "dict", data := .dict #[] }) scope.names } := by
  have hfree : ∀ y ∈ scope.names, y.2 = .free → ∃ c, X.env.cells.lookup y.1 = some c := fun y hy e => by
    rcases ok.free y hy e with k | k
    · exact I.ok.has _ (.inl k)
    · exact I.ok.has _ (.inr k)
  generalize hcenv : compEnvC scope (cellsFrom (s.heap.objs.size + 1) scope.names (cloFrom X.env.cells scope.names [])) s.heap.objs.size X.env = cenv
  have kp : ∀ b o, s.heap.get? b = some o → (pushCells (s.heap.push { cls := .type "dict", data := .dict #[] }) scope.names).get? b = some o := fun b o e => pushCells_keeps _ _ _ _ (Heap.get?_push_of_some _ e)
  have hL : cenv.locals = s.heap.objs.size := by rw [← hcenv]; rfl
  have hcl : cenv.cells = cellsFrom (s.heap.objs.size + 1) scope.names (cloFrom X.env.cells scope.names []) := by rw [← hcenv]; rfl
  have hsc : cenv.scope = relS scope X.env.scope := by rw [← hcenv]; rfl
  rw [← Heap.size_push s.heap { cls := .type "dict", data := .dict #[] }] at hcl
  have cm : ∀ {y c}, (y, c) ∈ cloFrom X.env.cells scope.names [] → X.env.cells.lookup y = some c ∧ c < s.heap.objs.size := fun {y c} hm => by
    rcases cloFrom_mem hm with hm | ⟨h1, rfl⟩
    · cases hm
    · obtain ⟨c, hc⟩ := hfree _ h1 rfl
      rw [hc]
      obtain ⟨w, z⟩ := I.cell _ _ hc
      exact ⟨rfl, z.lt⟩
  have mem : ∀ {y c}, cenv.cells.lookup y = some c → (X.env.cells.lookup y = some c ∧ c < s.heap.objs.size) ∨ (s.heap.objs.size + 1 ≤ c ∧ CellAt (pushCells (s.heap.push { cls := .type "dict", data := .dict #[] }) scope.names) c none) := fun {y c} e => by
    rw [hcl] at e
    rcases cells_mem (PySem.mem_of_lookup e) with hm | ⟨_, h2, h3⟩
    · exact .inl (cm hm)
    · rw [Heap.size_push] at h2; exact .inr ⟨h2, h3⟩
  have look : ∀ {y}, scope.names.lookup y = some .free → ∃ c, cenv.cells.lookup y = some c ∧ X.env.cells.lookup y = some c := fun {y} hl => by
    have hy : (y, NameKind.free) ∈ scope.names := PySem.mem_of_lookup hl
    obtain ⟨c', e'⟩ := mem_lookup (cells_acc (names := scope.names) (n := (s.heap.push { cls := .type "dict", data := .dict #[] }).objs.size) (cloFrom_has (cells := X.env.cells) (acc := []) hy))
    rw [← hcl] at e'
    refine ⟨c', e', ?_⟩
    rw [hcl] at e'
    rcases cells_mem (PySem.mem_of_lookup e') with hm | ⟨h1, _, _⟩
    · exact (cm hm).1
    · have := ok.uniq _ h1
      rw [hl] at this; cases this
  have okB : (X.blk s H scope cenv fp).Ok := by
    refine ⟨I.ok.mod, by show cenv.scope.kind = _; rw [hsc]; exact ok.kind, by show cenv.globals = _; rw [← hcenv]; exact I.ok.glob, by show cenv.builtins = _; rw [← hcenv]; exact I.ok.blt, by show s.heap.objs.size ≤ cenv.locals; rw [hL]; exact Nat.le_refl _,
      fun y z c e1 e2 => ?_, fun y hy => ?_, fun y c z e => ?_, I.ok.hd, I.ok.frames, .inl rfl, fun b hb => ⟨?_, fun y c e z => ?_⟩, I.bs, Nat.le_trans I.ok.bsz I.sz, fun b o e hb => ?_, fun b hb z => ?_, I.stack, I.stkFree⟩
    · have e1 : cenv.cells.lookup y = some c := e1
      have e2 : cenv.cells.lookup z = some c := e2
      rw [hcl] at e1 e2
      refine cells_inj (fun p hp => ?_) (fun y z c a b => I.ok.inj y z c (cm a).1 (cm b).1) (PySem.mem_of_lookup e1) (PySem.mem_of_lookup e2)
      rw [Heap.size_push]
      exact Nat.lt_succ_of_lt (cm (y := p.1) (c := p.2) hp).2
    · show ∃ c, cenv.cells.lookup y = some c
      have key : ∀ k, cenv.kindOf y = some k → (k = .cell ∨ k = .free) → ∃ c, cenv.cells.lookup y = some c := fun k hk hk' => by
        unfold Env.kindOf at hk
        rw [hsc] at hk
        obtain ⟨k', e, r⟩ := lookup_relS hk
        have : k' = .cell ∨ k' = .free := by
          rcases r with rfl | ⟨rfl, _⟩
          · exact hk'
          · exact .inr rfl
        rcases this with rfl | rfl
        · obtain ⟨c, hm⟩ := cells_has (n := (s.heap.push { cls := .type "dict", data := .dict #[] }).objs.size) (acc := cloFrom X.env.cells scope.names []) (PySem.mem_of_lookup e)
          obtain ⟨c', e'⟩ := mem_lookup hm
          exact ⟨c', by rw [hcl]; exact e'⟩
        · obtain ⟨c, h1, _⟩ := look e
          exact ⟨c, h1⟩
      rcases hy with hy | hy
      · exact key _ hy (.inl rfl)
      · exact key _ hy (.inr rfl)
    · have z : (scope.names.lookup y == some NameKind.cell) = true := z
      have z : scope.names.lookup y = some .cell := by simpa using z
      have e : cenv.cells.lookup y = some c := e
      rw [hcl] at e
      rcases cells_mem (PySem.mem_of_lookup e) with hm | ⟨_, h2, _⟩
      · rcases cloFrom_mem hm with hm | ⟨h1, _⟩
        · cases hm
        · have q := ok.uniq _ h1
          rw [z] at q; cases q
      · rw [Heap.size_push] at h2
        exact Nat.le_of_succ_le h2
    · show b ≠ cenv.locals
      rw [hL]; exact Nat.ne_of_lt (hfp b hb).2
    · have e : cenv.cells.lookup y = some c := e
      rcases mem e with ⟨h1, _⟩ | ⟨h1, _⟩
      · exact (hfp b hb).1.2.2.2.2.1 y c h1 z
      · have h2 : s.heap.objs.size + 1 ≤ b := by rw [← z]; exact h1
        exact absurd (Nat.lt_of_lt_of_le (hfp b hb).2 (Nat.le_of_succ_le h2)) (Nat.lt_irrefl _)
    · rcases (hfp b hb).1.2.2.2.1 with z | z
      · exact I.ok.noex b o e z
      · exact absurd (Nat.lt_of_lt_of_le (Heap.lt_size e) (Nat.le_trans I.ok.bsz z)) (Nat.lt_irrefl _)
    · rcases List.mem_cons.mp (I.stkSub b z) with z | z
      · exact (hfp b hb).1.2.1 z
      · exact (hfp b hb).1.2.2.1 z
  refine ⟨okB, rfl, I.bare, Un.kept kp, ⟨fun _ => none, ?_, fun i y av e1 e2 e3 => ?_⟩, fun y c e => ?_, ?_, fun y c e => ?_, fun p hp => ?_, I.hok.kept kp, by rw [wipe_length]; exact I.len⟩
  · show Heap.Ns _ cenv.locals _
    rw [hL]
    exact Heap.Ns.keeps (Heap.Ns.new ..) fun b o e => pushCells_keeps _ _ _ _ e
  · obtain ⟨e2, hne⟩ := wipe_some e2
    have hfr : scope.names.lookup y = some .free ∧ (cenv.kindOf y = some .cell ∨ cenv.kindOf y = some .free) := by
      have key : ∀ k, cenv.scope.names.lookup y = some k → k = .local ∨ k = .cell ∨ k = .free → scope.names.lookup y = some .free ∧ (cenv.kindOf y = some .cell ∨ cenv.kindOf y = some .free) := fun k hk hk' => by
        have hk0 := hk
        rw [hsc] at hk
        obtain ⟨k', e, r⟩ := lookup_relS hk
        have no : ¬ (k' = .local ∨ k' = .cell) := fun hh => by
          rcases ok.own _ (PySem.mem_of_lookup e) hh with e' | e'
          · obtain ⟨p, hp, hpy⟩ := List.mem_map.mp e'
            have e3 := ok.ix p hp
            have : p.1 = y := hpy
            rw [this] at e3
            exact hne (List.mem_map.mpr ⟨p, hp, nodup_ix hN e3 e1⟩)
          · exact e' (List.mem_of_getElem? e1)
        rcases r with rfl | ⟨rfl, rfl⟩
        · rcases hk' with rfl | rfl | rfl
          · exact absurd (.inl rfl) no
          · exact absurd (.inr rfl) no
          · exact ⟨e, .inr hk0⟩
        · exact ⟨e, .inl hk0⟩
      have e3 : Vis cenv.scope y := e3
      rcases e3 with e3 | e3 | e3
      · exact key _ e3 (.inl rfl)
      · exact key _ e3 (.inr (.inl rfl))
      · exact key _ e3 (.inr (.inr rfl))
    obtain ⟨m, hn, hl⟩ := I.loc
    have hvis : Vis X.env.scope y := (ok.free _ (PySem.mem_of_lookup hfr.1) rfl).elim (fun k => .inr (.inl k)) (fun k => .inr (.inr k))
    obtain ⟨w, r, q⟩ := hl i y av e1 e2 hvis
    refine ⟨w, r, .inr ⟨hfr.2, ?_⟩⟩
    obtain ⟨c, h1, h2⟩ := look hfr.1
    rcases q with ⟨k, _⟩ | ⟨_, c', e', z⟩
    · have k : X.env.scope.names.lookup y = some .local := k
      rcases ok.free _ (PySem.mem_of_lookup hfr.1) rfl with k' | k' <;> rw [show X.env.scope.names.lookup y = _ from k'] at k <;> cases k
    · rw [h2] at e'; cases e'
      exact ⟨c, h1, z.keeps kp⟩
  · have e : cenv.cells.lookup y = some c := e
    rcases mem e with ⟨h1, _⟩ | ⟨_, z⟩
    · obtain ⟨w, z⟩ := I.cell y c h1
      exact ⟨w, z.keeps kp⟩
    · exact ⟨_, z⟩
  · show H cenv.locals = none
    rw [hL]; exact I.hok.fresh (Nat.le_refl _)
  · have e : cenv.cells.lookup y = some c := e
    rcases mem e with ⟨h1, _⟩ | ⟨h1, _⟩
    · exact I.freeC y c h1
    · exact I.hok.fresh (Nat.le_of_succ_le h1)
  · exact absurd (show p ∈ ([] : List (Addr × Obj)) ++ [] from hp) (by simp)

theorem app_ok {E : Value → Shared → Prop} {D : Addr} {xs : List V} {y : V} {v : Value} {Q : Value → Shared → Prop} (I : Inv X pins σ H s) (hD : H D = some (.lst xs)) (hz : xs.length < sizeLine) (r : RelV y v)
    (h : ∀ s', Inv X pins σ (upd H D (.lst (xs ++ [y]))) s' → Q .none s') : wpAny (model X.prog X.w) X.A (call (.builtin "list.append") [.ref D, v]) Q E s := by
  obtain ⟨hz', its, n, ri, e⟩ := I.hok D _ hD
  have hl := ri.length
  refine append_at (hsz := by rw [List.size_toArray]; omega) e fun h' sb ho' => ?_
  refine h { s with heap := h' } (I.write (t' := s.toks) (by rw [hD]; trivial) (.inl rfl) (fun b u hb q => (sb.2 b hb).trans q) ⟨_, ho'⟩ ⟨by rw [List.length_append]; exact hz, its ++ [v], n + 1, ri.append (.cons r .nil), ?_⟩)
  rw [ho']
  simp

def PTs (X : Cx) (ifs : List Expr) (t : TT) : Prop :=
  ∀ (pins : List (Addr × Obj)) (s : Shared) (σ : St) (H : Hp) (Q : Bool → Hp → Prop), Inv X pins σ H s → t σ H Q →
    wpAny (model X.prog X.w) X.A (forIn ifs true fun c r => if r = true then do let ok ← isTrue c X.env (eval c X.env); pure (ForInStep.yield ok) else pure (ForInStep.yield r)) (TP X pins σ Q) X.xe s
def tYes : TT := fun _ H Q => Q true H
theorem pts_nil : PTs X [] tYes := fun _ _ _ H _ I h => wpAny_tests_nil ⟨H, I, h⟩
end

theorem thnF {α : Type} {t : Sem α} {Q Q' : α → Shared → Prop} {M : Model} {A : Around} {E : Value → Shared → Prop} {s : Shared} (h : wpAny M A t Q (fun _ _ => False) s) (hQ : ∀ a s, Q a s → Q' a s) : wpAny M A t Q' E s := wpAny_mono h hQ fun _ _ z => False.elim z

theorem compLoop_any {prog : Program} {w : World} {A : Around} {R : Result → Shared → Prop} {s : Shared} {elt target iter : Expr} {ifs : List Expr} {scope : Scope} {pos : Pos} {it acc : Value} {env : Env} (I : Nat → Shared → Prop)
    (turn : ∀ n s, I n s → wpAny (model prog w) A (pyNext it) (fun r s₁ => match r with
      | none => R (.ok .next) s₁
      | some v => wpAny (model prog w) A (letOwnedTupleGo target it v) (fun _ s₁' => wpAny (model prog w) A (assign target env v) (fun _ s₂ =>
          wpAny (model prog w) A (forIn ifs true fun c r => if r = true then do let ok ← isTrue c env (eval c env); pure (ForInStep.yield ok) else pure (ForInStep.yield r)) (fun ok s₃ =>
            if ok = true then wpAny (model prog w) A (eval elt env) (fun x s₄ =>
              wpAny (model prog w) A (call (.builtin "list.append") [acc, x]) (fun _ s₅ => ∃ m, m < n ∧ I m s₅) (notedBy (model prog w) A env fun e s' => R (.error e) s') s₄) (notedBy (model prog w) A env fun e s' => R (.error e) s') s₃
            else ∃ m, m < n ∧ I m s₃) (notedBy (model prog w) A env fun e s' => R (.error e) s') s₂) (notedBy (model prog w) A env fun e s' => R (.error e) s') s₁') (notedBy (model prog w) A env fun e s' => R (.error e) s') s₁) (notedBy (model prog w) A env fun e s' => R (.error e) s') s)
    (n : Nat) (h : I n s) :
    codeAny (model prog w) A (.compLoop (.ListComp elt [⟨target, iter, ifs, 0⟩] scope pos) 0 it acc env) R s := by
  refine codeAny_loop rfl I (fun n s hI => ?_) n h
  show wpAny _ A ((compTurn (.ListComp elt [⟨target, iter, ifs, 0⟩] scope pos) 0 it acc env).onRaise (fun x => do noteFrame x env; theTreesLotGoes x)) _ _ s
  refine wpAny_noted ?_
  rw [compTurn_list]
  refine wpAny_bind (wpAny_standAt (wpAny_bind (wpAny_mono (turn n s hI) (fun r s₁ h₁ => ?_) fun _ _ h' => h')))
  cases r with
  | none => exact wpAny_pure h₁
  | some v =>
    refine wpAny_bind (wpAny_mono h₁ (fun _ s₁' h₁' => ?_) fun _ _ h' => h')
    refine wpAny_bind (wpAny_mono h₁' (fun _ s₂ h₂ => wpAny_bind (wpAny_mono h₂ (fun ok s₃ h₃ => ?_) fun _ _ h' => h')) fun _ _ h' => h')
    cases ok with
    | false => exact wpAny_pure ⟨rfl, h₃⟩
    | true =>
      exact wpAny_bind (wpAny_bind (wpAny_mono h₃ (fun x s₄ h₄ => wpAny_bind (wpAny_mono h₄ (fun _ s₅ h₅ => wpAny_pure (wpAny_pure ⟨rfl, h₅⟩)) fun _ _ h' => h')) fun _ _ h' => h'))

section
variable {X : Cx}
def tLc (wi : TI) (g : TG) (tt : TT) (te : TE) (vs : List Nat) : TE := fun σ H Q => wi σ H fun J H1 => ∀ D, H1 D = none → ∃ W : Nat → Nat → Hp → Prop, (∃ m, W 0 m (upd H1 D (.lst []))) ∧ ∀ i m H, W i m H →
  (J.stop i H ∧ Q (.ref D) H) ∨ (J.go i H ∧ ∃ Nx : Hp → Prop, (∀ H', Nx H' → ∃ m', m' < m ∧ W (i + 1) m' H') ∧ ∀ x H', J.yld i H x H' → g x (wipe σ vs) H' fun σ2 H2 => wipe σ2 vs = wipe σ vs ∧ tt σ2 H2 fun b H3 =>
    if b = true then te σ2 H3 fun y H4 => ∃ acc, H4 D = some (.lst acc) ∧ acc.length < sizeLine ∧ Nx (upd H4 D (.lst (acc ++ [y]))) else Nx H3)
theorem lc_core {pins : List (Addr × Obj)} {s : Shared} {σ : St} {H : Hp} {Q : VK} {elt tg iter : Expr} {ifs : List Expr} {scope : Scope} {own : List (Str × Nat)} {pos pos' : Pos} {wi : TI} {g : TG} {tt : TT} {te : TE} {use : Option (Value → Sem Unit)} {Qf : Value → Shared → Prop}
    (hc : X.calm = true) (hN : X.N.Nodup) (I : Inv X pins σ H s) (hi : PI X tg iter wi) (ok : BlkOk X.N X.env.scope scope own)
    (hg : ∀ (s : Shared) (H : Hp) (C : Addr) (cl : List (Str × Addr)) (fp : List Addr), PG (X.blk s H scope (compEnvC scope cl C X.env) fp) tg g) (ht : ∀ (s : Shared) (H : Hp) (C : Addr) (cl : List (Str × Addr)) (fp : List Addr), PTs (X.blk s H scope (compEnvC scope cl C X.env) fp) ifs tt)
    (he : ∀ (s : Shared) (H : Hp) (C : Addr) (cl : List (Str × Addr)) (fp : List Addr), PE (X.blk s H scope (compEnvC scope cl C X.env) fp) elt te) (hs : ∀ x, foldedSetIterable iter X.env x = pure x)
    (h : tLc wi g tt te (own.map (·.2)) σ H Q)
    (hRR : ∀ D C s' m H', Inv X pins σ H' s' → Q (.ref D) H' → s'.heap.Ns C m → FpOk X pins H' C → compPost (model X.prog X.w) X.A X.xe use Qf (.ref D) C (.ok .next) s') :
    wpAny (model X.prog X.w) X.A (comprehension (.ListComp elt [⟨tg, iter, ifs, 0⟩] scope pos) scope X.env pos' (newList []) false (eval iter X.env) use) Qf X.xe s := by
  have hfree : ∀ y ∈ scope.names, y.2 = .free → ∃ c, X.env.cells.lookup y.1 = some c := fun y hy e => by
    rcases ok.free y hy e with k | k
    · exact I.ok.has _ (.inl k)
    · exact I.ok.has _ (.inr k)
  refine wpAny_comprehension_free (use := use) rfl hs (closure_ok hfree) ok.kind (fun y hy e => by rw [ok.uniq y hy, e])
    (thn (hi pins s σ H _ I h) fun xv s1 hx => thn hx fun itv s2 h2 => ?_)
  obtain ⟨it, fp, tn, J, H2, e, I2, T, st2, f2, q⟩ := h2
  subst e
  refine wpAny_newObj_type (newEnv_comp ?_) (by show 0 ≤ sizeLine; decide)
  generalize hD : s2.heap.objs.size = D
  have hDn : H2 D = none := I2.hok.fresh (Nat.le_of_eq hD)
  obtain ⟨W, ⟨m0, w0⟩, turn⟩ := q D hDn
  -- the new list
  generalize hs3 : ({ s2 with heap := s2.heap.push { cls := .type "list", data := .seq ([] : List Value).toArray } } : Shared) = s3
  have I3 : Inv X pins σ (upd H2 D (.lst [])) s3 := by
    rw [← hs3]
    refine I2.laid (t' := s2.toks) (fun b o e => Heap.get?_push_of_some _ e) (Nat.le_of_eq hD) ⟨Nat.zero_le _, [], 0, .nil, ?_⟩
    rw [← hD]
    exact Heap.get?_push_size _ rfl
  have h3 : s3.heap = s2.heap.push { cls := .type "list", data := .seq ([] : List Value).toArray } := by rw [← hs3]
  have sz : ∀ b ∈ fp, b < s2.heap.objs.size := fun b hb => by
    obtain ⟨o, e, _⟩ := T.obj _ _ st2 b hb
    exact Heap.lt_size e
  have f3 : ∀ b ∈ fp, FpOk X pins (upd H2 D (.lst [])) b ∧ b < s3.heap.objs.size := fun b hb => by
    have hlt := sz b hb
    refine ⟨⟨?_, (f2 b hb).2⟩, by rw [h3, Heap.size_push]; exact Nat.lt_succ_of_lt hlt⟩
    rw [upd_ne (by rw [← hD]; exact Nat.ne_of_lt hlt)]
    exact (f2 b hb).1
  have st3 : tn 0 s3.heap := T.keep _ _ _ st2 fun b _ o e => by rw [h3]; exact Heap.get?_push_of_some _ e
  have I4 := block_start I3 ok hN f3
  have pg := hg s3 (upd H2 D (.lst [])) s3.heap.objs.size (cellsFrom (s3.heap.objs.size + 1) scope.names (cloFrom X.env.cells scope.names [])) fp
  have pt := ht s3 (upd H2 D (.lst [])) s3.heap.objs.size (cellsFrom (s3.heap.objs.size + 1) scope.names (cloFrom X.env.cells scope.names [])) fp
  have pe := he s3 (upd H2 D (.lst [])) s3.heap.objs.size (cellsFrom (s3.heap.objs.size + 1) scope.names (cloFrom X.env.cells scope.names [])) fp
  show codeAny _ _ (.compStart (.ListComp elt [⟨tg, iter, ifs, 0⟩] scope pos) 0 (.ref it) (.ref D) (compEnvC scope (cellsFrom (s3.heap.objs.size + 1) scope.names (cloFrom X.env.cells scope.names [])) s3.heap.objs.size X.env)) (compPost (model X.prog X.w) X.A X.xe use Qf (.ref D) s3.heap.objs.size) { s3 with heap := pushCells (s3.heap.push { cls := .type "dict", data := .dict #[] }) scope.names }
  have nfp : ∀ b ∈ fp, (upd H2 D (.lst [])) b = none := fun b hb => (f3 b hb).1.1
  generalize hce : compEnvC scope (cellsFrom (s3.heap.objs.size + 1) scope.names (cloFrom X.env.cells scope.names [])) s3.heap.objs.size X.env = ce at I4 pg pt pe ⊢
  have cL : ce.locals = s3.heap.objs.size := by subst hce; rfl
  generalize hH3 : upd H2 D (.lst []) = H3 at I3 I4 pg pt pe w0 nfp f3
  generalize hs4 : ({ s3 with heap := pushCells (s3.heap.push { cls := .type "dict", data := .dict #[] }) scope.names } : Shared) = s4 at I4 ⊢
  have st4 : tn 0 s4.heap := T.keep _ _ _ st3 fun b _ o e => by rw [← hs4]; exact pushCells_keeps _ _ _ _ (Heap.get?_push_of_some _ e)
  have stat : ∀ {σ' : St} {H' : Hp} {s' : Shared}, Inv (X.blk s3 H3 scope ce fp) [] σ' H' s' → (∀ b ∈ fp, H' b = none) → ∀ b ∈ fp, FpOk (X.blk s3 H3 scope ce fp) [] H' b := fun {σ' H' s'} I' hn b hb =>
    ⟨hn b hb, (I'.ok.exf b hb).1, I'.ok.exfs b hb, .inl hb, fun x c e => (I'.ok.exf b hb).2 x c e, fun p hp => absurd (show p ∈ ([] : List (Addr × Obj)) ++ [] from hp) (by simp)⟩
  have loop : codeAny (model X.prog X.w) X.A (.compLoop (.ListComp elt [⟨tg, iter, ifs, 0⟩] scope pos) 0 (.ref it) (.ref D) ce) (compPost (model X.prog X.w) X.A X.xe use Qf (.ref D) s3.heap.objs.size) s4 := by
    refine compLoop_any (fun n s' => ∃ i H', Inv (X.blk s3 H3 scope ce fp) [] (wipe σ (own.map (·.2))) H' s' ∧ tn i s'.heap ∧ (∀ b ∈ fp, H' b = none) ∧ W i n H') ?_ m0 ⟨0, H3, I4, st4, nfp, w0⟩
    rintro n s5 ⟨i, H5, I5, st5, n5, w5⟩
    rcases turn i n H5 w5 with ⟨stop, qq⟩ | ⟨go, Nx, hNx, step⟩
    · have td := T.done (X.blk s3 H3 scope ce fp) rfl rfl rfl hc i [] s5 _ H5 (fun _ _ => False) I5 (stat I5 n5) st5 stop
      refine thnF td fun r s6 ⟨hr, I6⟩ => ?_
      subst hr
      -- back in the def's context
      have I7 : Inv X pins σ H5 s6 := I3.call' (ch := fp) I6.os I6.base I6.hok I6.bare fun b hb => ⟨(f3 b hb).1.2.2.2.1, (f3 b hb).1.2.1, (f3 b hb).1.2.2.2.2.1, (f3 b hb).1.2.2.2.2.2⟩
      have nC : H5 s3.heap.objs.size = none := by
        have z : H5 ce.locals = none := I6.free
        rw [cL] at z
        exact z
      obtain ⟨m, hn, _⟩ := I6.loc
      have hn : s6.heap.Ns ce.locals m := hn
      rw [cL] at hn
      exact hRR D s3.heap.objs.size s6 m H5 I7 qq hn (I3.fpOk (Nat.le_refl _) nC)
    · have ti := T.item (X.blk s3 H3 scope ce fp) rfl rfl rfl hc i [] s5 _ H5 (fun _ _ => False) I5 (stat I5 n5) st5 go
      refine thnF ti fun r s6 ⟨u, hr, h6⟩ => ?_
      subst hr
      refine thnF h6 fun _ s7 ⟨x, H7, I7, r7, y7, st7, n7⟩ => ?_
      have I7' := I7.pinned (stat I7 n7) (T.obj _ _ st7)
      refine thnF (pg _ s7 _ H7 x u _ I7' r7 (step x H7 y7)) fun _ s8 ⟨σ8, H8, I8, hw8, q8⟩ => ?_
      refine thnF (pt _ s8 σ8 H8 _ I8 q8) fun b s9 ⟨H9, I9, q9⟩ => ?_
      -- the turn's end
      have fin : ∀ {s' : Shared} {H' : Hp}, Inv (X.blk s3 H3 scope ce fp) ([] ++ pinsAt fp s7.heap) σ8 H' s' → Nx H' → ∃ m, m < n ∧ ∃ i H', Inv (X.blk s3 H3 scope ce fp) [] (wipe σ (own.map (·.2))) H' s' ∧ tn i s'.heap ∧ (∀ b ∈ fp, H' b = none) ∧ W i m H' := fun {s' H'} I' nx => by
        obtain ⟨m', hm, w'⟩ := hNx H' nx
        have pin' : ∀ b ∈ fp, ∀ o, s7.heap.get? b = some o → s'.heap.get? b = some o ∧ H' b = none := fun b hb o e =>
          let z := I'.pin (b, o) (List.mem_append_right _ (List.mem_append_right _ (mem_pinsAt hb e)))
          ⟨z.1, z.2.1⟩
        have hl : (wipe σ (own.map (·.2))).length = σ8.length := by rw [← hw8, wipe_length]
        refine ⟨m', hm, i + 1, H', (I'.unpinned (pins := [])).weak hl (fun j v e => ?_), T.keep _ _ _ st7 fun b hb o e => (pin' b hb o e).1, fun b hb => ?_, w'⟩
        · rw [← hw8] at e
          exact (wipe_some e).1
        · obtain ⟨o, e, _⟩ := T.obj _ _ st7 b hb
          exact (pin' b hb o e).2
      cases b with
      | false =>
        simp only [Bool.false_eq_true, if_false] at q9 ⊢
        exact fin I9 q9
      | true =>
        simp only [if_true] at q9 ⊢
        refine thnF (pe _ s9 σ8 H9 _ I9 q9) fun z s10 ⟨yv, H10, I10, r10, acc, hD10, hz10, nx⟩ => ?_
        exact app_ok (X := X.blk s3 H3 scope ce fp) I10 hD10 hz10 r10 fun s11 I11 => fin I11 nx
  exact codeAny_compStart_list loop (T.self X.A 0 _ _ _ st4 loop)
theorem pe_lc {elt tg iter : Expr} {ifs : List Expr} {scope : Scope} {own : List (Str × Nat)} {pos : Pos} {wi : TI} {g : TG} {tt : TT} {te : TE} (hc : X.calm = true) (hN : X.N.Nodup) (hi : PI X tg iter wi) (ok : BlkOk X.N X.env.scope scope own)
    (hg : ∀ (s : Shared) (H : Hp) (C : Addr) (cl : List (Str × Addr)) (fp : List Addr), PG (X.blk s H scope (compEnvC scope cl C X.env) fp) tg g) (ht : ∀ (s : Shared) (H : Hp) (C : Addr) (cl : List (Str × Addr)) (fp : List Addr), PTs (X.blk s H scope (compEnvC scope cl C X.env) fp) ifs tt)
    (he : ∀ (s : Shared) (H : Hp) (C : Addr) (cl : List (Str × Addr)) (fp : List Addr), PE (X.blk s H scope (compEnvC scope cl C X.env) fp) elt te) (hs : ∀ x, foldedSetIterable iter X.env x = pure x := by intro _; rfl) :
    PE X (.ListComp elt [⟨tg, iter, ifs, 0⟩] scope pos) (tLc wi g tt te (own.map (·.2))) := by
  intro pins s σ H Q I h
  rw [eval_ListComp]
  refine lc_core hc hN I hi ok hg ht he hs h fun D C s' m H' I' q hn f => ⟨m, hn, fun h'' sb => ?_⟩
  obtain ⟨f0, f1, f2, f3, f4, f5⟩ := f
  exact ⟨.ref D, H', I'.turned (t' := s'.toks) (fun b o hb e => (sb.2 b hb).trans e) f0 f1 f3 f4 f5, rfl, q⟩
theorem ps_setLc {i : Nat} {y : Str} {py : Pos} {elt tg iter : Expr} {ifs : List Expr} {scope : Scope} {own : List (Str × Nat)} {pos spos : Pos} {wi : TI} {g : TG} {tt : TT} {te : TE} (hc : X.calm = true) (hN : X.N.Nodup) (hy : X.N[i]? = some y) (hyl : X.env.scope.names.lookup y = some .local)
    (hsw : swapsWith (.ListComp elt [⟨tg, iter, ifs, 0⟩] scope pos) (some (.Name y py)) spos.line X.env = pure true) (hi : PI X tg iter wi) (ok : BlkOk X.N X.env.scope scope own)
    (hg : ∀ (s : Shared) (H : Hp) (C : Addr) (cl : List (Str × Addr)) (fp : List Addr), PG (X.blk s H scope (compEnvC scope cl C X.env) fp) tg g) (ht : ∀ (s : Shared) (H : Hp) (C : Addr) (cl : List (Str × Addr)) (fp : List Addr), PTs (X.blk s H scope (compEnvC scope cl C X.env) fp) ifs tt)
    (he : ∀ (s : Shared) (H : Hp) (C : Addr) (cl : List (Str × Addr)) (fp : List Addr), PE (X.blk s H scope (compEnvC scope cl C X.env) fp) elt te) (hs : ∀ x, foldedSetIterable iter X.env x = pure x := by intro _; rfl) :
    PS X (.Assign [.Name y py] (.ListComp elt [⟨tg, iter, ifs, 0⟩] scope pos) spos) (tAsg (tLc wi g tt te (own.map (·.2))) (gName i)) := by
  intro pins s σ H D I h
  rw [exec_Assign_Name_used _ _ _ _ hsw]
  refine wpAny_bind (wpAny_standAt (wpAny_bind ?_))
  show wpAny _ X.A (do let _ ← comprehension (.ListComp elt [⟨tg, iter, ifs, 0⟩] scope pos) scope X.env (firstIterPos [⟨tg, iter, ifs, 0⟩] pos) (newList []) false (eval iter X.env) (some (assign (.Name y py) X.env))) _ _ s
  have h : tLc wi g tt te (own.map (·.2)) σ H (fun x H1 => gName i x σ H1 D.nx) := h
  refine wpAny_bind (thn (lc_core (Qf := fun _ s' => SP X pins D .next s') hc hN I hi ok hg ht he hs h fun L C s' m H' I' q hn f => ?_) fun _ s' hq => wpAny_pure (wpAny_pure hq))
  show wpAny _ _ (assign (.Name y py) X.env (.ref L)) _ _ _
  refine wpAny_assign_Name (store_ok2 (v := V.ref L) I' hN hy (.inl hyl) rfl (fun s2 I2 ⟨a, sb, ha⟩ => ?_) (.inr hyl))
  obtain ⟨f0, f1, f2, f3, f4, f5⟩ := f
  have haC : C ≠ a := by
    rcases ha with z | z
    · rw [z]; exact f1
    · exact fun e => f4 y a z e.symm
  refine ⟨m, hn.sameBut sb haC, fun h3 sb3 => ?_⟩
  exact ⟨_, H', I2.turned (t' := s2.toks) (fun b o hb e => (sb3.2 b hb).trans e) f0 f1 f3 f4 f5, q⟩
end

theorem lc_list {K : PySem.W.Frag} {a : Addr} {xs : List V} {g : TG} {tt : TT} {te : TE} {vs : List Nat} {σ : St} {H1 : Hp} {D : Addr} {Qd : Hp → Prop} (Pv : Nat → Hp → Prop) (h0 : Pv 0 (upd H1 D (.lst []))) (hl : ∀ i H, i ≤ xs.length → Pv i H → SqL K H a xs)
    (hs : ∀ i x H, xs[i]? = some x → Pv i H → g x (wipe σ vs) H fun σ2 H2 => wipe σ2 vs = wipe σ vs ∧ tt σ2 H2 fun b H3 =>
      if b = true then te σ2 H3 fun y H4 => ∃ acc, H4 D = some (.lst acc) ∧ acc.length < sizeLine ∧ Pv (i + 1) (upd H4 D (.lst (acc ++ [y]))) else Pv (i + 1) H3) (hd : ∀ H, Pv xs.length H → Qd H) :
    ∃ W : Nat → Nat → Hp → Prop, (∃ m, W 0 m (upd H1 D (.lst []))) ∧ ∀ i m H, W i m H →
      ((Itl K a).stop i H ∧ Qd H) ∨ ((Itl K a).go i H ∧ ∃ Nx : Hp → Prop, (∀ H', Nx H' → ∃ m', m' < m ∧ W (i + 1) m' H') ∧ ∀ x H', (Itl K a).yld i H x H' → g x (wipe σ vs) H' fun σ2 H2 => wipe σ2 vs = wipe σ vs ∧ tt σ2 H2 fun b H3 =>
        if b = true then te σ2 H3 fun y H4 => ∃ acc, H4 D = some (.lst acc) ∧ acc.length < sizeLine ∧ Nx (upd H4 D (.lst (acc ++ [y]))) else Nx H3) := by
  refine ⟨fun i m H => m = xs.length - i ∧ i ≤ xs.length ∧ Pv i H, ⟨xs.length, by simp, Nat.zero_le _, h0⟩, ?_⟩
  rintro i m H ⟨rfl, hi, p⟩
  have q := hl i H hi p
  by_cases hlt : i < xs.length
  · refine .inr ⟨⟨xs, xs[i], q, by simp [hlt]⟩, Pv (i + 1), fun H' p' => ⟨xs.length - (i + 1), by omega, rfl, hlt, p'⟩, fun x H' y => ?_⟩
    obtain ⟨e, y⟩ := y
    subst e
    exact hs i x _ (y xs q) p
  · have e : i = xs.length := by omega
    subst e
    exact .inl ⟨⟨xs, q, Nat.le_refl _⟩, hd H p⟩
theorem lc_tup {K : PySem.W.Frag} {a : Addr} {xs : List V} {g : TG} {tt : TT} {te : TE} {vs : List Nat} {σ : St} {H1 : Hp} {D : Addr} {Qd : Hp → Prop} (Pv : Nat → Hp → Prop) (h0 : Pv 0 (upd H1 D (.lst []))) (hl : ∀ i H, i ≤ xs.length → Pv i H → SqT K H a xs)
    (hs : ∀ i x H, xs[i]? = some x → Pv i H → g x (wipe σ vs) H fun σ2 H2 => wipe σ2 vs = wipe σ vs ∧ tt σ2 H2 fun b H3 =>
      if b = true then te σ2 H3 fun y H4 => ∃ acc, H4 D = some (.lst acc) ∧ acc.length < sizeLine ∧ Pv (i + 1) (upd H4 D (.lst (acc ++ [y]))) else Pv (i + 1) H3) (hd : ∀ H, Pv xs.length H → Qd H) :
    ∃ W : Nat → Nat → Hp → Prop, (∃ m, W 0 m (upd H1 D (.lst []))) ∧ ∀ i m H, W i m H →
      ((Itt K a).stop i H ∧ Qd H) ∨ ((Itt K a).go i H ∧ ∃ Nx : Hp → Prop, (∀ H', Nx H' → ∃ m', m' < m ∧ W (i + 1) m' H') ∧ ∀ x H', (Itt K a).yld i H x H' → g x (wipe σ vs) H' fun σ2 H2 => wipe σ2 vs = wipe σ vs ∧ tt σ2 H2 fun b H3 =>
        if b = true then te σ2 H3 fun y H4 => ∃ acc, H4 D = some (.lst acc) ∧ acc.length < sizeLine ∧ Nx (upd H4 D (.lst (acc ++ [y]))) else Nx H3) := by
  refine ⟨fun i m H => m = xs.length - i ∧ i ≤ xs.length ∧ Pv i H, ⟨xs.length, by simp, Nat.zero_le _, h0⟩, ?_⟩
  rintro i m H ⟨rfl, hi, p⟩
  have q := hl i H hi p
  by_cases hlt : i < xs.length
  · refine .inr ⟨⟨xs, xs[i], q, by simp [hlt]⟩, Pv (i + 1), fun H' p' => ⟨xs.length - (i + 1), by omega, rfl, hlt, p'⟩, fun x H' y => ?_⟩
    obtain ⟨e, y⟩ := y
    subst e
    exact hs i x _ (y xs q) p
  · have e : i = xs.length := by omega
    subst e
    exact .inl ⟨⟨xs, q, Nat.le_refl _⟩, hd H p⟩
def blkC (N : List Str) (sc scope : Scope) (own : List (Str × Nat)) : Bool :=
  (match scope.kind with | .function => true | _ => false) && (scope.names.all fun y => decide (scope.names.lookup y.1 = some y.2)) && (own.all fun p => decide (N[p.2]? = some p.1)) &&
    (scope.names.all fun y => match y.2 with
      | .free => (match sc.names.lookup y.1 with | some .cell => true | some .free => true | _ => false)
      | .local => decide (y.1 ∈ own.map (·.1)) || decide (y.1 ∉ N)
      | .cell => decide (y.1 ∈ own.map (·.1)) || decide (y.1 ∉ N)
      | _ => true)
theorem blkOk_by {N : List Str} {sc scope : Scope} {own : List (Str × Nat)} (h : blkC N sc scope own = true) : BlkOk N sc scope own := by
  unfold blkC at h
  simp only [Bool.and_eq_true, List.all_eq_true, decide_eq_true_eq] at h
  obtain ⟨⟨⟨h1, h2⟩, h3⟩, h4⟩ := h
  refine ⟨?_, h2, h3, fun y hy e => ?_, fun y hy e => ?_⟩
  · split at h1
    · assumption
    · cases h1
  · have q := h4 y hy
    simp only [e] at q
    split at q <;> first | exact .inl (by assumption) | exact .inr (by assumption) | cases q
  · have q := h4 y hy
    rcases e with e | e <;> (simp only [e, Bool.or_eq_true, decide_eq_true_eq] at q; exact q)
end L2

namespace L2
open PySem PySem.Spec PyProof.Rows

section
variable {prog : Program} {w : World} {A : Around} {R : Result → Shared → Prop} {s : Shared} {elt t0 i0 t1 i1 : Expr} {ifs0 ifs1 : List Expr} {scope : Scope} {pos : Pos} {it acc : Value} {env : Env}
end

section
variable {X : Cx}
end
end L2

namespace L2
open PySem PySem.Spec PyProof.Rows

section
variable {κ : Type} [DecidableEq κ]
def valV (kvs : List (κ × V)) (k : κ) : Option V := (kvs.find? fun kv => decide (kv.1 = k)).map (·.2)
def putK (kvs : List (κ × V)) (k : κ) (v : V) : List (κ × V) :=
  if (kvs.any fun kv => decide (kv.1 = k)) = true then kvs.map (fun kv => if kv.1 = k then (kv.1, v) else kv) else kvs ++ [(k, v)]
end


section
variable {P : Program} {w : World} {H : Hp} {h : Heap} {a : Addr}
end

def DGet (H : Hp) (a : Addr) (y : V) (r : Option V) : Prop :=
  (∃ kvs k, Rd H a (.dK kvs) ∧ y = kV k ∧ r = valV kvs k) ∨ ∃ kvs k b, Rd H a (.dT kvs) ∧ y = .ref b ∧ H b = some (.tup (k.map kV)) ∧ r = valV kvs k
def DPut (H : Hp) (a : Addr) (y v : V) (H' : Hp) : Prop :=
  (∃ kvs k, H a = some (.dK kvs) ∧ y = kV k ∧ kvs.length < sizeLine ∧ H' = upd H a (.dK (putK kvs k v))) ∨
  ∃ kvs k b, H a = some (.dT kvs) ∧ y = .ref b ∧ H b = some (.tup (k.map kV)) ∧ kvs.length < sizeLine ∧ H' = upd H a (.dT (putK kvs k v))
section
variable {X : Cx} {pins : List (Addr × Obj)} {σ : St} {H : Hp} {s : Shared} {a : Addr} {y v : V} {u r : Value} {o : Option V} {A : Around} {E : Value → Shared → Prop}

end

section
variable {X : Cx} {pins : List (Addr × Obj)} {σ : St} {H : Hp} {s : Shared} {a : Addr} {kvs : List (Key × V)} {k : Key} {u : Value} {A : Around} {E : Value → Shared → Prop}
end


def tDIn (ty td : TE) : TE := fun σ H Q => ty σ H fun y H1 => td σ H1 fun x H2 => ∃ a o, x = .ref a ∧ DGet H2 a y o ∧ Q (.bl o.isSome) H2
def tDNotIn (ty td : TE) : TE := fun σ H Q => ty σ H fun y H1 => td σ H1 fun x H2 => ∃ a o, x = .ref a ∧ DGet H2 a y o ∧ Q (.bl (!o.isSome)) H2
def sDPut (td ty tv : TE) : TS := fun D σ H => tv σ H fun v H1 => td σ H1 fun x H2 => ty σ H2 fun y H3 => ∃ a H4, x = .ref a ∧ DPut H3 a y v H4 ∧ D.nx σ H4
section
variable {X : Cx} {o i e value : Expr} {pos pos' tpos : Pos} {td ty tv : TE}
end


def tDNewT : TE := fun _ H Q => ∀ p, H p = none → Q (.ref p) (upd H p (.dT []))
section
variable {X : Cx} {pos : Pos}
end

section
variable {X : Cx} {pins : List (Addr × Obj)} {σ : St} {H : Hp} {s : Shared} {a : Addr} {y d : V} {u r : Value} {o : Option V} {A : Around} {E : Value → Shared → Prop}
end

section
variable {X : Cx} {o e f : Expr} {apos cpos : Pos} {td ty tx : TE}
end

section
variable {X : Cx} {pins : List (Addr × Obj)} {σ : St} {H : Hp} {s : Shared} {a : Addr} {kvs : List (Key × V)} {A : Around} {E : Value → Shared → Prop}
end


section
variable {X : Cx} {pins : List (Addr × Obj)} {σ : St} {H : Hp} {s : Shared} {a : Addr} {y : V} {u : Value} {A : Around} {E : Value → Shared → Prop}
end
end L2

namespace L2
open PySem PySem.Spec PyProof.Rows

section
variable {prog : Program} {w : World} {A : Around} {E : Value → Shared → Prop}
end

section
variable {X : Cx}
end
end L2

namespace L2
open PySem PySem.Spec PyProof.Rows

section
variable {X : Cx} {pins : List (Addr × Obj)} {σ : St} {H : Hp} {s : Shared} {h' : Heap}
theorem Inv.turnedNew {t' : Nat} {ch : List Addr} {T : Addr} {ob : HO} (I : Inv X pins σ H s) (k : ∀ b o, b ∉ ch → s.heap.get? b = some o → h'.get? b = some o) (hf : ∀ b ∈ ch, FpOk X pins H b) (hT : s.heap.objs.size ≤ T)
    (new : ObjOk X.prog X.w (upd H T ob) h' T ob) : Inv X pins σ (upd H T ob) { s with heap := h', toks := t' } := by
  have hn : H T = none := I.hok.fresh hT
  have nit : ∀ b u, H b = some u → b ∉ ch := fun b u e z => by
    have q := (hf b z).1
    rw [q] at e; cases e
  refine I.step (g' := s.gens) (d' := s.drawn) (ch := ch) (fun b hb => ⟨(hf b hb).2.2.2.1, (hf b hb).2.1, (hf b hb).2.2.2.2.1, (hf b hb).2.2.2.2.2⟩) (fun b o _ _ hc e _ => k b o hc e) (fun b o _ _ hc e _ => ⟨o.slots, k b o hc e⟩)
    (fun b o _ e n => ?_) (fun b o hc e => ⟨o, k b o hc e⟩) (fun b xs e => ?_) (fun b o u e => ?_) (fun b ps e => ⟨#[], ?_⟩) (fun m hm => ?_) (fun b u e => ?_) I.bare
  · rw [upd_ne (Nat.ne_of_lt (Nat.lt_of_lt_of_le (Heap.lt_size e) hT))]; exact n
  · rw [upd_ne (ne_of_none e hn)]; exact e
  · rw [upd_ne (ne_of_none e hn)]; exact e
  · rw [upd_ne (ne_of_none e hn), e]; simp
  · obtain ⟨o, es, ep, ho, r⟩ := hm
    exact ⟨o, es, ep, k _ o (fun z => (hf _ z).2.1 rfl) ho, r⟩
  · by_cases hb : b = T
    · subst hb
      rw [upd_same] at e
      cases e
      exact new
    · rw [upd_ne hb] at e
      refine (I.hok b u e).stay (fun c v hc q => k c v ?_ q) (fun c q => by rw [upd_ne (ne_of_none q hn)]; exact q) fun c xs q => by rw [upd_ne (ne_of_none q hn)]; exact q
      rcases hc with z | z
      · rw [z]; exact nit b u e
      · exact nit c _ z

end
section
variable {X : Cx}
end

section
variable {X : Cx} {tg : Expr}
end
section
variable {X : Cx} {tg : Expr}
end

def Its (x : Str) : It := ⟨fun i _ => i < x.cps.size, fun i H v H' => H' = H ∧ ∃ c, x.cps[i]? = some c ∧ v = .str ⟨#[c]⟩, fun i _ => x.cps.size ≤ i⟩
section
variable {prog : Program} {w : World} {A : Around} {E : Value → Shared → Prop} {s : Shared}
end

theorem paired_get {α β : Type} {G : α → β → Prop} {l₁ : List α} {l₂ : List β} (h : Paired G l₁ l₂) : ∀ {i : Nat} {a : α}, l₁[i]? = some a → ∃ b, l₂[i]? = some b ∧ G a b := by
  induction h with
  | nil => intro i a e; simp at e
  | @cons a b l₁ l₂ r t ih =>
    intro i a' e
    cases i with
    | zero =>
      simp only [List.getElem?_cons_zero, Option.some.injEq] at e
      subst e
      exact ⟨b, rfl, r⟩
    | succ j =>
      simp only [List.getElem?_cons_succ] at e ⊢
      exact ih e
section
variable {X : Cx} {pins : List (Addr × Obj)} {σ : St} {H : Hp} {s : Shared} {d : Addr} {o : Obj}
end

section
variable {P : Program} {w : World} {K : PySem.W.Frag} {tg : Expr} {d : Addr} {o : Obj} {es : Array DictEntry} {ep : Nat}
end

section
variable {X : Cx} {tg e : Expr} {td : TE} {apos cpos : Pos}
end

def Ite (K : PySem.W.Frag) (a : Addr) : It :=
  ⟨fun i H => ∃ (xs : List V) (x : V), SqL K H a xs ∧ xs[i]? = some x, fun i H v H' => ∃ T x, v = .ref T ∧ H T = none ∧ H' = upd H T (.tup [.int (i : Nat), x]) ∧ ∀ xs, SqL K H a xs → xs[i]? = some x, fun i H => ∃ xs : List V, SqL K H a xs ∧ xs.length ≤ i⟩
theorem turn_enum {P : Program} {w : World} {K : PySem.W.Frag} {elts : List Expr} {kk : Nat} {tpos : Pos} (a e it : Addr) :
    Turn P w K (.Tuple elts kk tpos) (Ite K a) [e, it] e (fun i h => (∃ old, IsEnum h e it ((i : Nat) : Int) old) ∧ h.IsListIter it a i ∧ e ≠ it) where
  mem := by simp
  obj := fun i h st b hb => by
    obtain ⟨⟨old, he⟩, ⟨o, ho, hc, hd⟩, _⟩ := st
    have e' : b = e ∨ b = it := by simpa using hb
    rcases e' with z | z
    · rw [z]; exact ⟨_, he, fun v q => nomatch q⟩
    · rw [z]; exact ⟨o, ho, fun v q => by rw [hd] at q; cases q⟩
  keep := fun i h h' st k => let ⟨⟨old, he⟩, hi, hne⟩ := st; ⟨⟨old, k e (by simp) _ he⟩, hi.at fun o q => k it (by simp) o q, hne⟩
  item := by
    intro X hP hw hK hc i pins s σ H E I hf st hg
    subst hP hw hK
    obtain ⟨⟨old, he⟩, hit, hne⟩ := st
    obtain ⟨xs, x, hq, hx⟩ := hg
    obtain ⟨its, rv, p, hz⟩ := I.list hq
    obtain ⟨u, hu, ru⟩ := rv.get hx
    have hel : e < s.heap.objs.size := Heap.lt_size he
    have hil : it < s.heap.objs.size := by obtain ⟨_, q, _⟩ := hit; exact Heap.lt_size q
    refine wpAny_pyNext_enum_item he hit p.isList (x := u) (by simpa using hu) hne fun h' ho hit' hT hsz hk => ?_
    refine ⟨_, rfl, wpAny_letOwnedTupleGo_enum (s := { s with heap := h', toks := s.toks + 1 }) ho fun h'' he' sb => ?_⟩
    have hT2 : h''.get? s.heap.objs.size = some { cls := .type "tuple", data := .seq #[.int i s.toks, u] } := (sb.2 _ (Nat.ne_of_gt hel)).trans hT
    have new : ObjOk X.prog X.w (upd H s.heap.objs.size (.tup [.int (i : Nat), x])) h'' s.heap.objs.size (.tup [.int (i : Nat), x]) :=
      ⟨by show 2 ≤ sizeLine; decide, [.int i s.toks, u], .cons ⟨_, rfl⟩ (.cons ru .nil), ⟨_, hT2, rfl, _, rfl⟩⟩
    have I1 : Inv X pins σ (upd H s.heap.objs.size (.tup [.int (i : Nat), x])) { s with heap := h'', toks := s.toks + 1 } :=
      I.turnedNew (ch := [e, it]) (fun b ob hb q => (sb.2 b (fun z => hb (by simp [z]))).trans (hk b ob (fun z => hb (by simp [z])) (fun z => hb (by simp [z])) q)) hf (Nat.le_refl _) new
    refine ⟨.ref s.heap.objs.size, _, I1, rfl, ⟨_, x, rfl, I.hok.fresh (Nat.le_refl _), rfl, fun ys hy => by rw [I.list_inj hy hq]; exact hx⟩, ⟨⟨u, ?_⟩, hit'.at fun o q => (sb.2 it (Ne.symm hne)).trans q, hne⟩, fun b hb => ?_⟩
    · have e1 : ((i + 1 : Nat) : Int) = (i : Int) + 1 := by omega
      rw [e1]; exact he'
    · have hb' : b < s.heap.objs.size := by
        have e' : b = e ∨ b = it := by simpa using hb
        rcases e' with z | z
        · rw [z]; exact hel
        · rw [z]; exact hil
      rw [upd_ne (Nat.ne_of_lt hb')]
      exact (hf b hb).1
  done := by
    intro X hP hw hK hc i pins s σ H E I hf st hg
    subst hP hw hK
    obtain ⟨⟨old, he⟩, hit, hne⟩ := st
    obtain ⟨xs, hq, hx⟩ := hg
    obtain ⟨its, rv, p, hz⟩ := I.list hq
    obtain ⟨f0, f1, f2, f3, f4, f5⟩ := hf it (by simp)
    have hl := rv.length
    exact wpAny_pyNext_enum_end (I.ok.hd hc) he hit p.isList (by simp; omega) fun h' eb => ⟨rfl, I.turned (t' := s.toks) (fun b o hb q => eb b o hb q) f0 f1 f3 f4 f5⟩
  self := fun A i s Q E st h => let ⟨⟨_, he⟩, _⟩ := st; wpAny_pyIter_enum he h
def iEnum (K : PySem.W.Frag) (ta : TA) : TI := fun σ H R => ta σ H fun vs H1 => ∃ a xs, vs = [.ref a] ∧ SqL K H1 a xs ∧ R (Ite K a) H1
theorem pi_enum {X : Cx} {e : Expr} {ta : TA} {p pos tpos : Pos} {elts : List Expr} {kk : Nat} (hg : Gl X "enumerate") (hm : X.mg "enumerate" = none) (ha : PA X [e] ta) (hs : starEach [e] X.env = [(false, eval e X.env)] := by rfl) :
    PI X (.Tuple elts kk tpos) (.Call (.Name "enumerate" p) [e] [] pos) (iEnum X.K ta) := by
  intro pins s σ H R I h
  refine Call_ (ld_blt I hg hm boot_enumerate (PyProof.Rows.callWith_type1 (thn (ha pos pins s σ H _ I h) fun us s1 ⟨vs, H1, I1, r1, q1⟩ => ?_) hs rfl))
  obtain ⟨a, xs, ex, hq, q⟩ := q1
  subst ex
  cases r1 with
  | cons r rr =>
    cases rr
    cases r
    obtain ⟨its, rv, p', hz⟩ := I1.list hq
    refine call_enumerate_list p'.isList fun h' he hit hsz hk => wpAny_pyIter_enum he ?_
    have I2 : Inv X pins σ H1 { s1 with heap := h' } := I1.kept (t' := s1.toks) hk
    refine ⟨s1.heap.objs.size + 1, [s1.heap.objs.size + 1, s1.heap.objs.size], _, _, H1, rfl, I2, turn_enum a (s1.heap.objs.size + 1) s1.heap.objs.size, ⟨⟨.none, he⟩, hit, Nat.succ_ne_self _⟩, fun b hb => ?_, q⟩
    have e' : b = s1.heap.objs.size + 1 ∨ b = s1.heap.objs.size := by simpa using hb
    have hle : s1.heap.objs.size ≤ b := by
      rcases e' with z | z
      · rw [z]; exact Nat.le_add_right _ _
      · rw [z]; exact Nat.le_refl _
    exact I1.fpOk hle (I1.hok.fresh hle)
end L2

section 
namespace Bits
open PySem PyProof.Rows

end Bits
end 

section 
namespace TL
open PySem PySem.Builtin PySem.Builtin.Str PySem.StrLaws

abbrev tl (x : Str) : List Nat := x.cps.toList
def pre (S l : List Nat) : Bool := l.take S.length == S
def par (S : List Nat) : List Nat → List Nat → Option (List Nat × List Nat)
  | _, [] => none
  | acc, c :: r => if pre S (c :: r) = true then some (acc, (c :: r).drop S.length) else par S (acc ++ [c]) r

end TL
end 

namespace L2
open PySem PySem.Spec PyProof.Rows

section
variable {X : Cx} {pins : List (Addr × Obj)} {σ : St} {H : Hp} {s : Shared} {Q : VK}
end

section
variable {X : Cx}

end

section
variable {X : Cx} {o e : Expr} {to te : TE}
end
end L2

namespace L2
open PySem PySem.Spec PyProof.Rows

section
variable {X : Cx}
end

end L2

namespace Att
open PySem PySem.W PySem.Calls PyProof.Rows

section
variable {prog : Program} {w : World} {A : Around} {E : Value → Shared → Prop} {s : Shared} {K : Frag}

end
end Att

namespace L2
open PySem PySem.Spec PyProof.Rows

end L2

namespace L2
open PySem PySem.Spec PyProof.Rows

end L2

namespace L2
open PySem PySem.Spec PyProof.Rows

def inClass (s : Stmt) (j : Nat) : Stmt := match s with
  | .ClassDef _ _ _ body _ _ _ _ _ _ _ => body.getD j (.Pass ⟨0, 0, 0, 0⟩)
  | _ => .Pass ⟨0, 0, 0, 0⟩
def defArgs (s : Stmt) : Arguments := match s with
  | .FunctionDef _ a _ _ _ _ _ _ _ _ => a
  | _ => { posonlyargs := [], args := [], vararg := none, kwonlyargs := [], kw_defaults := [], kwarg := none, defaults := [] }
def defBody (s : Stmt) : List Stmt := match s with
  | .FunctionDef _ _ b _ _ _ _ _ _ _ => b
  | _ => []
def defScope (s : Stmt) : Scope := match s with
  | .FunctionDef _ _ _ _ _ _ sc _ _ _ => sc
  | _ => { kind := .function, names := [], isGenerator := false, isCoroutine := false }

abbrev CX0 : CXT := fun _ _ _ _ _ _ => False
abbrev E0 : XK := fun _ _ _ => False
theorem pass0 {X : Cx} : Passes CX0 X E0 := fun _ _ _ _ _ _ _ h => h.elim

structure Fun (K : PySem.W.Frag) (x qual : Str) (st : Stmt) (f : Addr) (fd : FuncData) : Prop where
  ex : ∃ (oc : Value) (od : Option Addr) (kV doc pm : Value) (an : Option Addr) (cdv ct : Value) (osl : Array (Option Value)),
    fd = PySem.W.fnOf x qual (defArgs st) (defBody st) (defScope st) .none kV doc pm an cdv ct ∧ K.lookup f = some ⟨oc, od, .func fd, osl⟩ ∧ PySem.W.codeIn K cdv qual = true
  kp : PySem.W.keepIn K (.ref f) = true
section
variable {P : Program} {w : World} {K : PySem.W.Frag} {mg : Str → Option Value} {base : Heap}
theorem Fun.ok {x qual : Str} {st : Stmt} {f : Addr} {fd : FuncData} {N ps : List Str} {k : Nat} {sp : Sp} (F : Fun K x qual st f fd) (S : FnScope N ps (defScope st)) (len : ∀ vs H Q E, sp vs H Q E → vs.length = ps.length)
    (hbody : ∀ (cdv : Value) (A : Around) (outer : List Env) (s : Shared) (H : Hp) (vs : List V) (Q : VK) (E : XK), Room k (A.deeper (envOfC qual (defScope st) s.heap.objs.size f cdv)) → sp vs H Q E →
      ∃ t, PSs (cxOf CX0 P w K mg base N qual (defScope st) f cdv A outer s H E).nox (defBody st) t ∧ t { nx := fun _ H' => Q .non H', rt := Q } (start N vs) H) : FnOk P w K mg base CX0 (k + 1) f fd ps sp := by
  obtain ⟨oc, od, kV, doc, pm, an, cdv, ct, osl, rfl, lk, hcd⟩ := F.ex
  refine fn_of lk hcd S len fun A outer s H vs Q E hr hsp => ?_
  obtain ⟨t, h, q⟩ := hbody cdv A outer s H vs Q E hr hsp
  exact ⟨t, h.nox, q⟩
theorem Fun.binds {x qual : Str} {st : Stmt} {f : Addr} {fd : FuncData} {ps : List Str} (F : Fun K x qual st f fd)
    (h : ∀ (kV doc pm : Value) (an : Option Addr) (cdv ct : Value) (us : List Value), us.length = ps.length → bindArgs (PySem.W.fnOf x qual (defArgs st) (defBody st) (defScope st) .none kV doc pm an cdv ct) ⟨us, []⟩ = pure (ps.zip us)) : Binds K fd ps [] := by
  obtain ⟨oc, od, kV, doc, pm, an, cdv, ct, osl, rfl, lk, hcd⟩ := F.ex
  exact .all (h kV doc pm an cdv ct)
theorem fun_mk {x qual : Str} {st : Stmt} {f : Addr} {oc : Value} {od an : Option Addr} {osl : Array (Option Value)} {kV doc pm cdv ct : Value} (l : K.lookup f = some ⟨oc, od, .func (PySem.W.fnOf x qual (defArgs st) (defBody st) (defScope st) .none kV doc pm an cdv ct), osl⟩)
    (c : PySem.W.codeIn K cdv qual = true) (k : PySem.W.keepIn K (.ref f) = true) : Fun K x qual st f (PySem.W.fnOf x qual (defArgs st) (defBody st) (defScope st) .none kV doc pm an cdv ct) := ⟨⟨oc, od, kV, doc, pm, an, cdv, ct, osl, rfl, l, c⟩, k⟩
end
section
variable {X : Cx}
theorem pv (i : Nat) {x : Str} {pos : Pos} (hN : X.N[i]? = some x := by rfl) (hv : Vis X.env.scope x := by first | exact Or.inl rfl | exact Or.inr (Or.inl rfl) | exact Or.inr (Or.inr rfl)) (hd : (x == ("__debug__" : Str)) = false := by decide)
    (hcd : (x == ("__classdict__" : Str)) = false := by decide) : PE X (.Name x pos) (tVar i) := pe_var hN hv hd hcd
end

theorem ite2 {c A B : Prop} [Decidable c] (h1 : c → A) (h2 : ¬ c → B) : if c then A else B := by
  by_cases h : c
  · rw [if_pos h]
    exact h1 h
  · rw [if_neg h]
    exact h2 h
def Same (H H' : Hp) : Prop := ∀ b o, H b = some o → H' b = some o
theorem Same.refl (H : Hp) : Same H H := fun _ _ h => h
theorem Same.trans {H H1 H2 : Hp} (a : Same H H1) (b : Same H1 H2) : Same H H2 := fun c o h => b c o (a c o h)
theorem Same.free {H H' : Hp} (e : Same H H') {l : Addr} (h : H' l = Option.none) : H l = Option.none := by
  cases q : H l with
  | none => rfl
  | some o =>
    rw [e l o q] at h
    cases h
theorem Same.seq {K : PySem.W.Frag} {H H' : Hp} {a : Addr} {xs : List V} (e : Same H H') (h : SqL K H a xs) : SqL K H' a xs := by
  rcases h with (h | ⟨o, h⟩) | h
  · exact .inl (.inl (e _ _ h))
  · exact .inl (.inr ⟨o, e _ _ h⟩)
  · exact .inr h

section
variable {κ : Type} [DecidableEq κ]
end
theorem Same.made {H H1 : Hp} {x dx C : Addr} (nx : H x = Option.none) (nd : H dx = Option.none) (k : ∀ b o, (upd (upd H dx (.own x)) x (.ins C dx [])) b = some o → b ≠ x → H1 b = some o) : Same H H1 := fun b o e =>
  k b o (by rw [upd_ne (ne_of_none e nx), upd_ne (ne_of_none e nd)]; exact e) (ne_of_none e nx)
end L2

end
section
set_option Elab.async false
set_option linter.all false
set_option maxRecDepth 100000
set_option maxHeartbeats 2000000
namespace L2
open PySem PySem.Spec PyProof.Rows
open PySem.W (WData Codec OpenSpec Well WellAll ReadsW ReadsAllW)
mutual
/-- x stands for the datum d, lists and tuples all the way -/
inductive Dw (K : PySem.W.Frag) (H : Hp) : V → WData → Prop
  | non : Dw K H .non .none
  | bl (b : Bool) : Dw K H (.bl b) (.bool b)
  | int (i : Int) : Dw K H (.int i) (.int i)
  | str (x : Str) : Dw K H (.str x) (.str x)
  | byt (b : Array UInt8) : Dw K H (.byt b) (.bytes b.toList)
  | lst {a : Addr} {xs : List V} {ds : List WData} : SqL K H a xs → DwAll K H xs ds → Dw K H (.ref a) (.list ds)
  | tup {a : Addr} {xs : List V} {ds : List WData} : SqT K H a xs → DwAll K H xs ds → Dw K H (.ref a) (.tuple ds)
inductive DwAll (K : PySem.W.Frag) (H : Hp) : List V → List WData → Prop
  | nil : DwAll K H [] []
  | cons {v : V} {vs : List V} {d : WData} {ds : List WData} : Dw K H v d → DwAll K H vs ds → DwAll K H (v :: vs) (d :: ds)
end
theorem dw_ints {K : PySem.W.Frag} {H : Hp} : ∀ ns : List Int, DwAll K H (ns.map V.int) (ns.map WData.int)
  | [] => .nil
  | n :: r => .cons (.int n) (dw_ints r)
theorem ints_dw {K : PySem.W.Frag} {H : Hp} : ∀ (ns : List Int) (xs : List V), DwAll K H xs (ns.map WData.int) → xs = ns.map V.int
  | [], xs, h => by
    cases h
    rfl
  | n :: r, xs, h => by
    cases h with
    | cons h1 h2 =>
      cases h1
      rw [ints_dw r _ h2] <;> rfl
section
variable {P : Program} {w : World} {K : PySem.W.Frag} {H : Hp} {h : Heap} {R : PySem.W.WRecords} {cl : Str → Option Addr}
theorem sqL_at {a : Addr} {xs : List V} (hok : HOk P w H h) (KX : K.In h) (q : SqL K H a xs) : ∃ (its : List Value) (o : Obj) (n : Nat), Vals xs its ∧ h.get? a = some o ∧ o.cls = .type "list" ∧ o.data = .seq its.toArray n := by
  rcases q with q | ⟨o, its, n, e, hc, _, hd, _, hv⟩
  · obtain ⟨_, its, n, hv, e⟩ := (show ObjOk P w H h a (.lst xs) from q.ok hok)
    exact ⟨its, _, n, hv, e, rfl, rfl⟩
  · exact ⟨its.toList, o, n, hv, KX _ _ e, hc, by simp [hd]⟩
theorem sqT_at {a : Addr} {xs : List V} (hok : HOk P w H h) (KX : K.In h) (q : SqT K H a xs) : ∃ (its : List Value) (o : Obj) (n : Nat), Vals xs its ∧ h.get? a = some o ∧ o.cls = .type "tuple" ∧ o.data = .seq its.toArray n := by
  rcases q with q | ⟨o, its, n, e, hc, hd, _, hv⟩
  · obtain ⟨_, its, hv, o, e, hc, n, hd⟩ := (show ObjOk P w H h a (.tup xs) from q.ok hok)
    exact ⟨its, o, n, hv, e, hc, hd⟩
  · exact ⟨its.toList, o, n, hv, KX _ _ e, hc, by simp [hd]⟩
mutual
theorem Dw.reads (hok : HOk P w H h) (KX : K.In h) : ∀ (d : WData) (v : V) (u : Value), Dw K H v d → RelV v u → ∃ as, ReadsW R cl h u d as
  | .none, _, _, x, r => by
    cases x
    cases r
    exact ⟨_, ReadsW.none⟩
  | .bool b, _, _, x, r => by
    cases x
    cases r
    exact ⟨_, ReadsW.bool b⟩
  | .int i, _, _, x, r => by
    cases x
    obtain ⟨t, rfl⟩ := r
    exact ⟨_, ReadsW.int i t⟩
  | .str s, _, _, x, r => by
    cases x
    obtain ⟨t, rfl⟩ := r
    exact ⟨_, ReadsW.str s t⟩
  | .bytes b, _, _, x, r => by
    cases x
    obtain ⟨t, rfl⟩ := r
    exact ⟨_, ReadsW.bytes _ t⟩
  | .list ds, _, _, x, r => by
    cases x with
    | lst hs ha =>
      cases r
      obtain ⟨its, o, n, rv, ho, hc, hd⟩ := sqL_at hok KX hs
      obtain ⟨as, hr⟩ := Dw.readsAll hok KX ds _ its ha rv
      exact ⟨_, ReadsW.list ho hc hd hr⟩
  | .tuple ds, _, _, x, r => by
    cases x with
    | tup hs ha =>
      cases r
      obtain ⟨its, o, n, rv, ho, hc, hd⟩ := sqT_at hok KX hs
      obtain ⟨as, hr⟩ := Dw.readsAll hok KX ds _ its ha rv
      exact ⟨_, ReadsW.tuple ho hc hd hr⟩
  | .float _, _, _, x, _ => by cases x
  | .dict _, _, _, x, _ => by cases x
  | .bytearray _, _, _, x, _ => by cases x
  | .set _, _, _, x, _ => by cases x
  | .frozenset _, _, _, x, _ => by cases x
  | .obj _ _, _, _, x, _ => by cases x
theorem Dw.readsAll (hok : HOk P w H h) (KX : K.In h) : ∀ (ds : List WData) (vs : List V) (us : List Value), DwAll K H vs ds → Vals vs us → ∃ as, ReadsAllW R cl h us ds as
  | [], _, _, x, r => by
    cases x
    cases r
    exact ⟨_, ReadsAllW.nil⟩
  | d :: ds, _, _, x, r => by
    cases x with
    | cons h1 h2 =>
      cases r with
      | cons r1 r2 =>
        obtain ⟨as, q1⟩ := Dw.reads hok KX d _ _ h1 r1
        obtain ⟨bs, q2⟩ := Dw.readsAll hok KX ds _ _ h2 r2
        exact ⟨_, ReadsAllW.cons q1 q2⟩
end
end
mutual
/-- data that a codec tells -/
def plW : WData → Bool
  | .none => true
  | .bool _ => true
  | .int _ => true
  | .str _ => true
  | .bytes _ => true
  | .list xs => plWs xs
  | .tuple xs => plWs xs
  | _ => false
def plWs : List WData → Bool
  | [] => true
  | x :: r => plW x && plWs r
end
theorem plWs_map {α : Type} {f : α → WData} (h : ∀ a, plW (f a) = true) : ∀ l : List α, plWs (l.map f) = true
  | [] => rfl
  | x :: r => by
    show (plW (f x) && plWs (r.map f)) = true
    rw [h x, plWs_map h r] <;> rfl
theorem pl_enc : ∀ (c : Codec) (a : c.denote), plW (c.enc a) = true
  | .unit, _ => rfl
  | .bool, _ => rfl
  | .int _ _, _ => rfl
  | .nat _ _, _ => rfl
  | .u8, _ => rfl
  | .bytes _ _, _ => rfl
  | .text _ _ _ _, _ => rfl
  | .list _ _ c, a => plWs_map (fun x => pl_enc c x) a
  | .pair c d, a => by
    show (plW (c.enc a.1) && (plW (d.enc a.2) && true)) = true
    rw [pl_enc c a.1, pl_enc d a.2] <;> rfl
  | .triple c d e, a => by
    show (plW (c.enc a.1) && (plW (d.enc a.2.1) && (plW (e.enc a.2.2) && true))) = true
    rw [pl_enc c a.1, pl_enc d a.2.1, pl_enc e a.2.2] <;> rfl
  | .option c, none => rfl
  | .option c, some x => pl_enc c x
theorem pl_encAll : ∀ (cs : List Codec) (a : Codec.denoteAll cs), plWs (Codec.encAll cs a) = true
  | [], _ => rfl
  | c :: cs, a => by
    show (plW (c.enc a.1) && plWs (Codec.encAll cs a.2)) = true
    rw [pl_enc c a.1, pl_encAll cs a.2] <;> rfl
theorem weight_mem : ∀ {xs : List WData} {d : WData}, d ∈ xs → d.weight ≤ WData.weightAll xs
  | [], d, h => absurd h (by simp)
  | x :: r, d, h => by
    show d.weight ≤ x.weight + 1 + WData.weightAll r
    rcases List.mem_cons.mp h with e | m
    · rw [e]
      omega
    · have z := weight_mem m
      omega
def toV : Value → V
  | .none => .non
  | .bool b => .bl b
  | .int i _ => .int i
  | .str x _ => .str x
  | .bytes b _ => .byt b
  | .ref a => .ref a
  | _ => .non
def OkU (A : List Addr) : Value → Prop
  | .none => True
  | .bool _ => True
  | .int _ _ => True
  | .str _ _ => True
  | .bytes _ _ => True
  | .ref a => a ∈ A
  | _ => False
theorem OkU.mono {A B : List Addr} (h : ∀ a ∈ A, a ∈ B) : ∀ {u : Value}, OkU A u → OkU B u := fun {u} x => by
  cases u with
  | ref a => exact h a x
  | none => trivial
  | bool b => trivial
  | int i t => trivial
  | str s t => trivial
  | bytes b t => trivial
  | _ => exact False.elim x
theorem relV_toV {A : List Addr} {u : Value} (x : OkU A u) : RelV (toV u) u := by
  cases u with
  | ref a => rfl
  | none => rfl
  | bool b => rfl
  | int i t => exact ⟨t, rfl⟩
  | str s t => exact ⟨t, rfl⟩
  | bytes b t => exact ⟨t, rfl⟩
  | _ => exact False.elim x
theorem vals_toV {A : List Addr} : ∀ {vs : List Value}, (∀ u ∈ vs, OkU A u) → Vals (vs.map toV) vs
  | [], _ => .nil
  | u :: r, h => .cons (relV_toV (h u (List.mem_cons_self ..))) (vals_toV fun x hx => h x (List.mem_cons_of_mem _ hx))
def ArgOb (h : Heap) (A : List Addr) (a : Addr) : Prop := ∃ vs : List Value, vs.length ≤ sizeLine ∧ (∀ u ∈ vs, OkU A u) ∧
  (h.get? a = some { cls := .type "list", data := .seq vs.toArray } ∨ h.get? a = some { cls := .type "tuple", data := .seq vs.toArray })
theorem ArgOb.mono {h : Heap} {A B : List Addr} {a : Addr} (k : ∀ a ∈ A, a ∈ B) (x : ArgOb h A a) : ArgOb h B a := by
  obtain ⟨vs, h1, h2, h3⟩ := x
  exact ⟨vs, h1, fun u hu => (h2 u hu).mono k, h3⟩
theorem wellAll_len {P : Params} {h : Heap} : ∀ {vs : List Value} {ds : List WData}, WellAll P h vs ds → vs.length = ds.length
  | _, _, .nil => rfl
  | _, _, .cons _ b => by
    show _ + 1 = _ + 1
    rw [wellAll_len b]
theorem well_list {P : Params} {h : Heap} {v : Value} {ds : List WData} (x : Well P h v (.list ds)) : ∃ (a : Addr) (vs : List Value), v = .ref a ∧ h.get? a = some { cls := .type "list", data := .seq vs.toArray } ∧ WellAll P h vs ds := by
  cases x with
  | list ho hall => exact ⟨_, _, rfl, ho, hall⟩
theorem well_tuple {P : Params} {h : Heap} {v : Value} {ds : List WData} (x : Well P h v (.tuple ds)) : ∃ (a : Addr) (vs : List Value), v = .ref a ∧ h.get? a = some { cls := .type "tuple", data := .seq vs.toArray } ∧ WellAll P h vs ds := by
  cases x with
  | tuple ho hall => exact ⟨_, _, rfl, ho, hall⟩
theorem well_cons {P : Params} {h : Heap} {us : List Value} {d : WData} {ds : List WData} (x : WellAll P h us (d :: ds)) : ∃ (v : Value) (vs : List Value), us = v :: vs ∧ Well P h v d ∧ WellAll P h vs ds := by
  cases x with
  | cons a b => exact ⟨_, _, rfl, a, b⟩
theorem line_of {n : Nat} (h : n ≤ 1048576) : n ≤ sizeLine := Nat.le_trans h (by decide)
section
variable {P : Params} {h : Heap}
mutual
theorem area_one : ∀ (d : WData) (v : Value), Well P h v d → plW d = true → d.weight ≤ 1048576 → ∃ A : List Addr, OkU A v ∧ ∀ a ∈ A, ArgOb h A a
  | .none, _, x, _, _ => by
    cases x
    exact ⟨[], trivial, fun a m => absurd m (by simp)⟩
  | .bool b, _, x, _, _ => by
    cases x
    exact ⟨[], trivial, fun a m => absurd m (by simp)⟩
  | .int i, _, x, _, _ => by
    cases x
    exact ⟨[], trivial, fun a m => absurd m (by simp)⟩
  | .str s, _, x, _, _ => by
    cases x
    exact ⟨[], trivial, fun a m => absurd m (by simp)⟩
  | .bytes b, _, x, _, _ => by
    cases x
    exact ⟨[], trivial, fun a m => absurd m (by simp)⟩
  | .list ds, _, x, p, z => by
    obtain ⟨a, vs, rfl, ho, hall⟩ := well_list x
    have z2 : WData.weightAll ds ≤ 1048576 := z
    obtain ⟨A, h1, h2⟩ := area_all ds _ hall p fun d hd => Nat.le_trans (weight_mem hd) z2
    have k : ∀ b ∈ A, b ∈ a :: A := fun b hb => List.mem_cons_of_mem _ hb
    refine ⟨a :: A, List.mem_cons_self .., fun b hb => ?_⟩
    rcases List.mem_cons.mp hb with e | m
    · rw [e]
      exact ⟨vs, line_of (by rw [wellAll_len hall]; exact Nat.le_trans (PySem.W.length_le_weightAllW ds) z2), fun u hu => (h1 u hu).mono k, .inl ho⟩
    · exact (h2 b m).mono k
  | .tuple ds, _, x, p, z => by
    obtain ⟨a, vs, rfl, ho, hall⟩ := well_tuple x
    have z2 : WData.weightAll ds ≤ 1048576 := z
    obtain ⟨A, h1, h2⟩ := area_all ds _ hall p fun d hd => Nat.le_trans (weight_mem hd) z2
    have k : ∀ b ∈ A, b ∈ a :: A := fun b hb => List.mem_cons_of_mem _ hb
    refine ⟨a :: A, List.mem_cons_self .., fun b hb => ?_⟩
    rcases List.mem_cons.mp hb with e | m
    · rw [e]
      exact ⟨vs, line_of (by rw [wellAll_len hall]; exact Nat.le_trans (PySem.W.length_le_weightAllW ds) z2), fun u hu => (h1 u hu).mono k, .inr ho⟩
    · exact (h2 b m).mono k
  | .float _, _, _, p, _ => Bool.noConfusion (show false = true from p)
  | .dict _, _, _, p, _ => Bool.noConfusion (show false = true from p)
  | .bytearray _, _, _, p, _ => Bool.noConfusion (show false = true from p)
  | .set _, _, _, p, _ => Bool.noConfusion (show false = true from p)
  | .frozenset _, _, _, p, _ => Bool.noConfusion (show false = true from p)
  | .obj _ _, _, _, p, _ => Bool.noConfusion (show false = true from p)
theorem area_all : ∀ (ds : List WData) (vs : List Value), WellAll P h vs ds → plWs ds = true → (∀ d ∈ ds, d.weight ≤ 1048576) → ∃ A : List Addr, (∀ u ∈ vs, OkU A u) ∧ ∀ a ∈ A, ArgOb h A a
  | [], _, x, _, _ => by
    cases x
    exact ⟨[], fun u m => absurd m (by simp), fun a m => absurd m (by simp)⟩
  | d :: ds, _, x, p, z => by
    obtain ⟨v, vs, rfl, x1, x2⟩ := well_cons x
    have q : plW d = true ∧ plWs ds = true := Bool.and_eq_true_iff.mp p
    obtain ⟨A, a1, a2⟩ := area_one d v x1 q.1 (z d (List.mem_cons_self ..))
    obtain ⟨B, b1, b2⟩ := area_all ds vs x2 q.2 fun e he => z e (List.mem_cons_of_mem _ he)
    have kA : ∀ b ∈ A, b ∈ A ++ B := fun b hb => List.mem_append.mpr (.inl hb)
    have kB : ∀ b ∈ B, b ∈ A ++ B := fun b hb => List.mem_append.mpr (.inr hb)
    refine ⟨A ++ B, fun u hu => ?_, fun b hb => ?_⟩
    · rcases List.mem_cons.mp hu with e | m
      · rw [e]
        exact a1.mono kA
      · exact (b1 u m).mono kB
    · rcases List.mem_append.mp hb with m | m
      · exact (a2 b m).mono kA
      · exact (b2 b m).mono kB
end
end
def hoOf (o : Obj) : Option HO := match o.data with
  | .seq vs _ => if (o.cls == Value.type "list") = true then some (.frz o (.lst (vs.toList.map toV))) else some (.frz o (.tup (vs.toList.map toV)))
  | _ => none
def argH (K : PySem.W.Frag) (h : Heap) (A : List Addr) : Hp := fun b => if b ∈ A then (if (K.lookup b).isNone = true then (h.get? b).bind hoOf else none) else none
def OnlyF (H : Hp) : Prop := ∀ b, H b = none ∨ ∃ o u, H b = some (.frz o u)
theorem hoOf_lst (vs : List Value) : hoOf { cls := .type "list", data := .seq vs.toArray } = some (.frz { cls := .type "list", data := .seq vs.toArray } (.lst (vs.map toV))) := by
  show (if (Value.type "list" == Value.type "list") = true then some (HO.frz { cls := .type "list", data := .seq vs.toArray } (.lst (vs.toArray.toList.map toV))) else some (HO.frz { cls := .type "list", data := .seq vs.toArray } (.tup (vs.toArray.toList.map toV)))) = _
  rw [if_pos (beq_self_eq_true _)]
theorem hoOf_tup (vs : List Value) : hoOf { cls := .type "tuple", data := .seq vs.toArray } = some (.frz { cls := .type "tuple", data := .seq vs.toArray } (.tup (vs.map toV))) := by
  show (if (Value.type "tuple" == Value.type "list") = true then some (HO.frz { cls := .type "tuple", data := .seq vs.toArray } (.lst (vs.toArray.toList.map toV))) else some (HO.frz { cls := .type "tuple", data := .seq vs.toArray } (.tup (vs.toArray.toList.map toV)))) = _
  rw [if_neg (by decide)]
section
variable {P : Program} {w : World} {K : PySem.W.Frag} {h : Heap} {A : List Addr}
theorem argH_at {b : Addr} {o : Obj} (hb : b ∈ A) (hk : K.lookup b = none) (e : h.get? b = some o) : argH K h A b = hoOf o := by
  unfold argH
  rw [if_pos hb, hk, if_pos (show (none : Option Obj).isNone = true from rfl), e] <;> rfl
theorem of_argH {b : Addr} {u : HO} (q : argH K h A b = some u) : b ∈ A ∧ K.lookup b = none := by
  unfold argH at q
  by_cases hb : b ∈ A
  · rw [if_pos hb] at q
    cases hk : K.lookup b with
    | none => exact ⟨hb, rfl⟩
    | some o =>
      rw [hk, if_neg (by simp)] at q
      cases q
  · rw [if_neg hb] at q
    cases q
theorem argH_is (ar : ∀ a ∈ A, ArgOb h A a) {b : Addr} {u : HO} (q : argH K h A b = some u) : K.lookup b = none ∧ ∃ vs : List Value, vs.length ≤ sizeLine ∧ (∀ u ∈ vs, OkU A u) ∧
    ((h.get? b = some { cls := .type "list", data := .seq vs.toArray } ∧ u = .frz { cls := .type "list", data := .seq vs.toArray } (.lst (vs.map toV))) ∨
     (h.get? b = some { cls := .type "tuple", data := .seq vs.toArray } ∧ u = .frz { cls := .type "tuple", data := .seq vs.toArray } (.tup (vs.map toV)))) := by
  obtain ⟨hb, hk⟩ := of_argH q
  obtain ⟨vs, h1, h2, h3⟩ := ar b hb
  refine ⟨hk, vs, h1, h2, ?_⟩
  rcases h3 with e | e
  · rw [argH_at hb hk e, hoOf_lst] at q
    exact .inl ⟨e, (Option.some.inj q).symm⟩
  · rw [argH_at hb hk e, hoOf_tup] at q
    exact .inr ⟨e, (Option.some.inj q).symm⟩
theorem argH_only (ar : ∀ a ∈ A, ArgOb h A a) : OnlyF (argH K h A) := fun b => by
  cases q : argH K h A b with
  | none => exact .inl rfl
  | some u =>
    obtain ⟨_, vs, _, _, ⟨_, e⟩ | ⟨_, e⟩⟩ := argH_is ar q
    · exact .inr ⟨_, _, by rw [e]⟩
    · exact .inr ⟨_, _, by rw [e]⟩
theorem argH_ok (ar : ∀ a ∈ A, ArgOb h A a) : HOk P w (argH K h A) h := fun b u q => by
  obtain ⟨_, vs, h1, h2, ⟨e, rfl⟩ | ⟨e, rfl⟩⟩ := argH_is ar q
  · exact ⟨e, by rw [List.length_map]; exact h1, vs, _, vals_toV h2, e⟩
  · exact ⟨e, by rw [List.length_map]; exact h1, vs, vals_toV h2, _, e, rfl, _, rfl⟩
theorem seq_inj {c c' : Value} {vs us : List Value} (e : (some { cls := c, data := .seq vs.toArray } : Option Obj) = some { cls := c', data := .seq us.toArray }) : c = c' ∧ vs = us := by
  have e1 := Option.some.inj e
  have e2 : c = c' := congrArg Obj.cls e1
  have e3 : Data.seq vs.toArray = Data.seq us.toArray := congrArg Obj.data e1
  injection e3 with e4
  refine ⟨e2, ?_⟩
  have e5 := congrArg Array.toList e4
  simpa using e5
theorem argL (KX : K.In h) (ar : ∀ a ∈ A, ArgOb h A a) {a : Addr} {vs : List Value} (ha : a ∈ A) (e : h.get? a = some { cls := .type "list", data := .seq vs.toArray }) : (∀ u ∈ vs, OkU A u) ∧ SqL K (argH K h A) a (vs.map toV) := by
  obtain ⟨us, h1, h2, h3⟩ := ar a ha
  have hu : us = vs := by
    rcases h3 with q | q
    · rw [e] at q
      exact (seq_inj q).2.symm
    · rw [e] at q
      exact absurd (Value.type.inj (seq_inj q).1) (by decide)
  subst hu
  refine ⟨h2, ?_⟩
  cases hk : K.lookup a with
  | none => exact .inl (.inr ⟨_, by rw [argH_at ha hk e, hoOf_lst]⟩)
  | some o =>
    have e2 := KX a o hk
    rw [e] at e2
    obtain rfl := Option.some.inj e2
    exact .inr ⟨_, us.toArray, _, hk, rfl, rfl, rfl, by rw [List.size_toArray]; exact h1, by simpa using vals_toV h2⟩
theorem argT (KX : K.In h) (ar : ∀ a ∈ A, ArgOb h A a) {a : Addr} {vs : List Value} (ha : a ∈ A) (e : h.get? a = some { cls := .type "tuple", data := .seq vs.toArray }) : (∀ u ∈ vs, OkU A u) ∧ SqT K (argH K h A) a (vs.map toV) := by
  obtain ⟨us, h1, h2, h3⟩ := ar a ha
  have hu : us = vs := by
    rcases h3 with q | q
    · rw [e] at q
      exact absurd (Value.type.inj (seq_inj q).1) (by decide)
    · rw [e] at q
      exact (seq_inj q).2.symm
  subst hu
  refine ⟨h2, ?_⟩
  cases hk : K.lookup a with
  | none => exact .inl (.inr ⟨_, by rw [argH_at ha hk e, hoOf_tup]⟩)
  | some o =>
    have e2 := KX a o hk
    rw [e] at e2
    obtain rfl := Option.some.inj e2
    exact .inr ⟨_, us.toArray, _, hk, rfl, rfl, by rw [List.size_toArray]; exact h1, by simpa using vals_toV h2⟩
mutual
theorem dw_one {Pm : Params} (KX : K.In h) (ar : ∀ a ∈ A, ArgOb h A a) : ∀ (d : WData) (v : Value), Well Pm h v d → plW d = true → OkU A v → Dw K (argH K h A) (toV v) d
  | .none, _, x, _, _ => by
    cases x
    exact .non
  | .bool b, _, x, _, _ => by
    cases x
    exact .bl b
  | .int i, _, x, _, _ => by
    cases x
    exact .int i
  | .str s, _, x, _, _ => by
    cases x
    exact .str s
  | .bytes b, _, x, _, _ => by
    cases x
    have z := Dw.byt (K := K) (H := argH K h A) b.toArray
    exact z
  | .list ds, _, x, p, hu => by
    obtain ⟨a, vs, rfl, ho, hall⟩ := well_list x
    obtain ⟨h2, hs⟩ := argL KX ar hu ho
    exact .lst hs (dw_all KX ar ds _ hall p h2)
  | .tuple ds, _, x, p, hu => by
    obtain ⟨a, vs, rfl, ho, hall⟩ := well_tuple x
    obtain ⟨h2, hs⟩ := argT KX ar hu ho
    exact .tup hs (dw_all KX ar ds _ hall p h2)
  | .float _, _, _, p, _ => Bool.noConfusion (show false = true from p)
  | .dict _, _, _, p, _ => Bool.noConfusion (show false = true from p)
  | .bytearray _, _, _, p, _ => Bool.noConfusion (show false = true from p)
  | .set _, _, _, p, _ => Bool.noConfusion (show false = true from p)
  | .frozenset _, _, _, p, _ => Bool.noConfusion (show false = true from p)
  | .obj _ _, _, _, p, _ => Bool.noConfusion (show false = true from p)
theorem dw_all {Pm : Params} (KX : K.In h) (ar : ∀ a ∈ A, ArgOb h A a) : ∀ (ds : List WData) (vs : List Value), WellAll Pm h vs ds → plWs ds = true → (∀ u ∈ vs, OkU A u) → DwAll K (argH K h A) (vs.map toV) ds
  | [], _, x, _, _ => by
    cases x
    exact .nil
  | d :: ds, _, x, p, hu => by
    obtain ⟨v, vs, rfl, x1, x2⟩ := well_cons x
    have q : plW d = true ∧ plWs ds = true := Bool.and_eq_true_iff.mp p
    exact .cons (dw_one KX ar d v x1 q.1 (hu _ (List.mem_cons_self ..))) (dw_all KX ar ds vs x2 q.2 fun u m => hu u (List.mem_cons_of_mem _ m))
end
end
theorem spec_call {P : Program} {w : World} {K : PySem.W.Frag} {mg mb : Str → Option Value} {CX : CXT} {k : Nat} {fa : Addr} {fd : FuncData} {ps : List Str} {sp : Sp} {s₁ : Shared} {vals : List Value} {ds : List WData} {R : PySem.W.WRecords} {cl : Str → Option Addr} {d0 : WData}
    (KX : K.In s₁.heap) (hns : s₁.heap.Ns mainGlobals mg) (hb : s₁.heap.Ns builtinsNs mb) (hbb : ∀ x : Str, x ≠ "__name__" → mb x = bootBuiltins x) (hlim : s₁.heap.NoLimit) (hg : s₁.gens = #[])
    (hwl : WellAll w.params s₁.heap vals ds) (hpl : plWs ds = true) (hwt : ∀ d ∈ ds, d.weight ≤ 1048576) (hr : Room k callerA)
    (F : ∀ base : Heap, K.In base → base.Ns mainGlobals mg → FnOk P w K mg base CX k fa fd ps sp) (hbind : ∀ (s : Shared) (us : List Value), us.length = ps.length → BindsTo s fd ⟨us, []⟩ (ps.zip us)) (hlen : ds.length = ps.length)
    (hsp : ∀ (H : Hp) (xs : List V), OnlyF H → DwAll K H xs ds → sp xs H (fun v H' => Dw K H' v d0) fun _ _ _ => False)
    (hCX : ∀ H e s', CX [] H s₁ (fun _ _ _ => False) e s' → False) :
    codeAny (model P w) callerA (.call (.ref fa) ⟨vals, []⟩) (fun r s' => ∃ u as, r = .ok (.ret u) ∧ ReadsW R cl s'.heap u d0 as ∧ OldK s₁.heap s'.heap ∧ s'.os = s₁.os ∧ AllBare s'.gens) s₁ := by
  obtain ⟨A, ho, ar⟩ := area_all ds vals hwl hpl hwt
  have hO : OnlyF (argH K s₁.heap A) := argH_only ar
  have hok : HOk P w (argH K s₁.heap A) s₁.heap := argH_ok ar
  have hS := dw_all KX ar ds vals hwl hpl ho
  have hV := vals_toV ho
  have hK : ∀ b u, argH K s₁.heap A b = some u → K.lookup b = none := fun b u q => (argH_is ar q).1
  have noA : ∀ {b : Addr} {o : Obj} {es : Array DictEntry} {ep : Nat}, s₁.heap.get? b = some o → o.data = .dict es ep → argH K s₁.heap A b = none := fun {b o es ep} e d => by
    cases q : argH K s₁.heap A b with
    | none => rfl
    | some u =>
      obtain ⟨_, vs, _, _, ⟨e2, _⟩ | ⟨e2, _⟩⟩ := argH_is ar q
      · rw [e2] at e
        cases e
        have d' : Data.seq vs.toArray _ = Data.dict es ep := d
        cases d'
      · rw [e2] at e
        cases e
        have d' : Data.seq vs.toArray _ = Data.dict es ep := d
        cases d'
  generalize argH K s₁.heap A = H at hO hok hS hK noA
  have base_of : ∀ {b : Addr} {o : Obj}, s₁.heap.get? b = some o → H b = none → (hidT s₁.heap H).get? b = some o := fun e n => hidT_get e n
  have nsK : ∀ {b : Addr} {m : Str → Option Value}, s₁.heap.Ns b m → (hidT s₁.heap H).Ns b m := fun {b m} ⟨o, es, ep, e, d, r⟩ => ⟨o, es, ep, base_of e (noA e d), d, r⟩
  have nK : ∀ b o, K.lookup b = some o → H b = none := fun b o e => by
    cases q : H b with
    | none => rfl
    | some u =>
      rw [hK b u q] at e
      cases e
  have hKb : K.In (hidT s₁.heap H) := fun b o e => base_of (KX b o e) (nK b o e)
  have hM : Mod K mg (hidT s₁.heap H) := ⟨hKb, nsK hns, ⟨mb, nsK hb, hbb⟩, let ⟨mc, h1, h2⟩ := hlim; ⟨mc, nsK h1, h2⟩⟩
  have e0 : Env0 P w K mg (hidT s₁.heap H) callerA [] s₁ H := ⟨rfl, hM, fun b o e => of_hidT e, Nat.le_of_eq (hidT_size _ _), trivial, fun b hb => absurd (show b ∈ ([] : List Addr) from hb) (by simp), hok, .of_eq hg⟩
  have hl : vals.length = ps.length := by rw [wellAll_len hwl]; exact hlen
  refine codeAny_mono ((F _ hKb (nsK hns)).run callerA [] s₁ H ⟨vals, []⟩ vals (vals.map toV) _ _ hr e0 (hbind s₁ vals hl) hV (hsp H _ hO hS)) fun r s' x => ?_
  cases r with
  | error e => exact (hCX H e s' x).elim
  | ok fl =>
    cases fl with
    | next => exact False.elim x
    | brk => exact False.elim x
    | cont => exact False.elim x
    | ret u =>
      obtain ⟨v, H', os, bare, un, hok', r', q⟩ := x
      have kept : ∀ b o, s₁.heap.get? b = some o → s'.heap.get? b = some o := fun b o e => by
        cases q2 : H b with
        | none => exact un.keep b o e q2 (by intro z; exact absurd (show b ∈ ([] : List Addr) from z) (by simp)) (by simp)
        | some u2 =>
          rcases hO b with z | ⟨ob, u3, z⟩
          · rw [q2] at z
            cases z
          · have z2 := un.frzs b ob _ z
            obtain ⟨e1, _⟩ := hok b _ z
            obtain ⟨e2, _⟩ := hok' b _ z2
            rw [e] at e1
            cases e1
            exact e2
      have KX' : K.In s'.heap := fun b o e => kept b o (KX b o e)
      obtain ⟨as, hrd⟩ := Dw.reads (R := R) (cl := cl) hok' KX' d0 v u q r'
      exact ⟨u, as, rfl, hrd, OldK.of_keep kept, os, bare⟩
theorem layable_weight {ds : List WData} (h : WData.layableAll ds = true) : ∀ d ∈ ds, d.weight ≤ 1048576 := fun d hd =>
  (PySem.W.layableW_iff.mp (List.all_eq_true.mp h d hd)).2.2
theorem encAll_len : ∀ (cs : List Codec) (a : Codec.denoteAll cs), (Codec.encAll cs a).length = cs.length
  | [], _ => rfl
  | c :: cs, a => by
    show (Codec.encAll cs a.2).length + 1 = cs.length + 1
    rw [encAll_len cs a.2]
theorem walk_spec {r : OpenSpec} {k : Nat} {q : Program} {loose : List Str} {XP : (Str → Option Value) → Heap → Prop} {YP : World → Heap → Prop} {d : DefRec} {K : Params → PySem.W.Frag} {CX : World → CXT} {ps : List Str} {sp : World → Sp}
    (hwell : r.wellSaid = true) (hdf : d.params.defaults = []) (hlen : r.args.length = ps.length) (hr : Room k callerA)
    (hY : ∀ (w : World) (h : Heap), YP w h → (K w.params).In h)
    (F : ∀ (w : World) (mg : Str → Option Value) (fa : Addr) (h : Heap), YP w h → (K w.params).In h → h.Ns mainGlobals mg → mg d.name = some (.ref fa) →
      ∃ fd : FuncData, (∀ (s : Shared) (us : List Value), us.length = ps.length → BindsTo s fd ⟨us, []⟩ (ps.zip us)) ∧
        ∀ base : Heap, (K w.params).In base → base.Ns mainGlobals mg → FnOk r.prog w (K w.params) mg base (CX w) k fa fd ps (sp w))
    (hsp : ∀ (w : World) (H : Hp) (xs : List V) (a : Codec.denoteAll r.args), OnlyF H → Codec.withinAll r.args a = true → Codec.app r.args r.asked a = true → DwAll (K w.params) H xs (Codec.encAll r.args a) →
      sp w xs H (fun v H' => Dw (K w.params) H' v (r.ret.enc (Codec.app r.args r.f a))) fun _ _ _ => False)
    (hCX : ∀ (w : World) (H : Hp) (s : Shared) (e : Value) (s' : Shared), CX w [] H s (fun _ _ _ => False) e s' → False) :
    PySem.W.WalkOS q loose XP YP r d [] (fun f vs => PySem.call f vs) := by
  intro w s_0 s₁ mg mb G Y fa o pm cd doc dV kV ho hd hcd hD hmg hg args vals as hpre hlay hrd hwl hlo
  obtain ⟨a, e1, e2⟩ := PySem.W.os_pre_some hpre
  obtain ⟨e3, hwi⟩ := Codec.encAll_of_decAll r.args args a e1
  subst e3
  have KX := hY w _ Y
  obtain ⟨fd, hb, hF⟩ := F w mg fa _ Y KX G.T.g hmg
  refine PySem.W.enter_call (codeAny_mono (spec_call (R := []) (cl := classAt s_0.heap) (d0 := r.ret.enc (Codec.app r.args r.f a)) KX G.T.g G.T.b G.T.builtins G.T.nolimit hg hwl (pl_encAll _ _) (layable_weight hlay) hr hF hb (by rw [encAll_len]; exact hlen)
    (fun H xs hO hS => hsp w H xs a hO hwi e2 hS) fun H e s' => hCX w H s₁ e s') fun r' s' hq => ?_)
  obtain ⟨u, as', rfl, h1, h2, h3, h4⟩ := hq
  exact ⟨.inl ⟨u, _, as', rfl, fun _ => rfl, h1, (OpenSpec.post_iff hwell hwi _ _).mpr rfl, fun z => Bool.noConfusion (show false = true from z)⟩, h2, h3, h4⟩
theorem walk_specK {r : OpenSpec} {k : Nat} {q : Program} {loose : List Str} {XP : (Str → Option Value) → Heap → Prop} {YP : World → Heap → Prop} {d : DefRec} {K : Params → PySem.W.Frag} {CX : CXT} {ps : List Str} {sp : PySem.W.Frag → Sp}
    (hwell : r.wellSaid = true) (hdf : d.params.defaults = []) (hlen : r.args.length = ps.length) (hr : Room k callerA)
    (hY : ∀ (w : World) (h : Heap), YP w h → (K w.params).In h)
    (F : ∀ (w : World) (mg : Str → Option Value) (fa : Addr) (h : Heap), YP w h → (K w.params).In h → h.Ns mainGlobals mg → mg d.name = some (.ref fa) →
      ∃ fd : FuncData, (∀ (s : Shared) (us : List Value), us.length = ps.length → BindsTo s fd ⟨us, []⟩ (ps.zip us)) ∧
        ∀ base : Heap, (K w.params).In base → base.Ns mainGlobals mg → FnOk r.prog w (K w.params) mg base CX k fa fd ps (sp (K w.params)))
    (hsp : ∀ (K : PySem.W.Frag) (H : Hp) (xs : List V) (a : Codec.denoteAll r.args), OnlyF H → Codec.withinAll r.args a = true → Codec.app r.args r.asked a = true → DwAll K H xs (Codec.encAll r.args a) →
      sp K xs H (fun v H' => Dw K H' v (r.ret.enc (Codec.app r.args r.f a))) fun _ _ _ => False)
    (hCX : ∀ (H : Hp) (s : Shared) (e : Value) (s' : Shared), CX [] H s (fun _ _ _ => False) e s' → False) :
    PySem.W.WalkOS q loose XP YP r d [] (fun f vs => PySem.call f vs) :=
  walk_spec (K := K) (CX := fun _ => CX) (sp := fun w => sp (K w.params)) hwell hdf hlen hr hY F (fun w H xs a h1 h2 h3 h4 => hsp (K w.params) H xs a h1 h2 h3 h4) fun _ H s e s' => hCX H s e s'
end L2

end
section
namespace Gm
open Gh
theorem cutBy_hit (c : UInt8) (p n : Nat) (w r : Bytes) : cutBy c p n w (c :: r) = (p, w.reverse) :: cutBy c (p + n + 1) 0 [] r := by
  rw [cutBy, if_pos rfl]
theorem cutBy_miss {c x : UInt8} (h : x ≠ c) (p n : Nat) (w r : Bytes) : cutBy c p n w (x :: r) = cutBy c p (n + 1) (x :: w) r := by
  rw [cutBy, if_neg h]
theorem cutBy_nil (c : UInt8) (p n : Nat) (w : Bytes) : cutBy c p n w [] = [(p, w.reverse)] := rfl
theorem cutBy_run (c : UInt8) : ∀ (b : Bytes) (p n : Nat) (w : Bytes), cutBy c p n w b = (p, w.reverse ++ b.takeWhile (fun x => decide (x ≠ c))) ::
    (match b.dropWhile (fun x => decide (x ≠ c)) with
      | [] => []
      | _ :: r => cutBy c (p + (n + (b.takeWhile (fun x => decide (x ≠ c))).length) + 1) 0 [] r)
  | [], p, n, w => by simp [cutBy_nil]
  | x :: r, p, n, w => by
    by_cases h : x = c
    · subst h
      rw [cutBy_hit]
      simp
    · rw [cutBy_miss h, cutBy_run c r p (n + 1) (x :: w)]
      have e1 : (x :: r).takeWhile (fun x => decide (x ≠ c)) = x :: r.takeWhile (fun x => decide (x ≠ c)) := by simp [h]
      have e2 : (x :: r).dropWhile (fun x => decide (x ≠ c)) = r.dropWhile (fun x => decide (x ≠ c)) := by simp [h]
      rw [e1, e2]
      have e3 : p + (n + 1 + (r.takeWhile (fun x => decide (x ≠ c))).length) + 1 = p + (n + (x :: r.takeWhile (fun x => decide (x ≠ c))).length) + 1 := by
        rw [List.length_cons]; omega
      rw [e3]
      simp only [List.reverse_cons, List.append_assoc, List.cons_append, List.nil_append]
theorem cut_run (c : UInt8) (p : Nat) (b : Bytes) : cut c p [] b = (p, b.takeWhile (fun x => decide (x ≠ c))) ::
    (match b.dropWhile (fun x => decide (x ≠ c)) with
      | [] => []
      | _ :: r => cut c (p + (b.takeWhile (fun x => decide (x ≠ c))).length + 1) [] r) := by
  have e := cutBy_run c b p 0 []
  simpa [cut] using e
theorem cut_ne (c : UInt8) (p : Nat) (b : Bytes) : cut c p [] b ≠ [] := by rw [cut_run]; exact fun h => nomatch h
def sl (w : Bytes) (i : Nat) : UInt8 := match w[i]? with
  | some c => if isSmall c = true then c else 0
  | none => 0
def numM (d : Bytes) : Nat := if d.length = 0 ∨ 3 < d.length ∨ d.head? = some 48 then 0 else numberOf d
def dsM (w : Bytes) : Nat := if sl w 1 = 0 then 1 else 2
def digM (w : Bytes) : Bytes := (w.drop (dsM w)).takeWhile isDigit
def deM (w : Bytes) : Nat := dsM w + (digM w).length
def neM (w : Bytes) : Nat := if sl w (deM w) = 0 then deM w else deM w + 1
def keyM (w : Bytes) : Option Name := match w with
  | [] => none
  | c :: _ => if isBig c = true ∧ numM (digM w) ≠ 0 ∧ neM w = w.length then some ⟨c, sl w 1, numM (digM w), sl w (deM w)⟩ else none
theorem u8_ext {a b : UInt8} (h : a.toNat = b.toNat) : a = b := UInt8.toNat_inj.mp h
theorem small_ne0 {c : UInt8} (h : isSmall c = true) : c ≠ 0 := by
  intro e; subst e; exact absurd h (by decide)
theorem sl_ne0 {w : Bytes} {i : Nat} (h : sl w i ≠ 0) : w[i]? = some (sl w i) ∧ isSmall (sl w i) = true := by
  unfold sl at h ⊢
  cases e : w[i]? with
  | none => rw [e] at h; exact absurd rfl h
  | some c =>
    rw [e] at h
    simp only at h ⊢
    by_cases hs : isSmall c = true
    · rw [if_pos hs]; exact ⟨rfl, hs⟩
    · rw [if_neg hs] at h; exact absurd rfl h
theorem digit_iff {c : UInt8} : isDigit c = true ↔ 48 ≤ c.toNat ∧ c.toNat ≤ 57 := by simp [isDigit]
theorem decimalFrom_small (f n : Nat) (h : n < 10) : decimalFrom (f + 1) n = [UInt8.ofNat (48 + n)] := by
  rw [decimalFrom, if_pos h, Nat.mod_eq_of_lt h]; rfl
theorem decimalFrom_big (f n : Nat) (h : ¬ n < 10) : decimalFrom (f + 1) n = decimalFrom f (n / 10) ++ [UInt8.ofNat (48 + n % 10)] := by
  rw [decimalFrom, if_neg h]
theorem ofNat_digit {c : UInt8} {k : Nat} (h : c.toNat = 48 + k) : UInt8.ofNat (48 + k) = c := by
  rw [← h]; exact UInt8.ofNat_toNat
theorem dec_num {d : Bytes} (h1 : d ≠ []) (h2 : d.length ≤ 3) (h3 : d.head? ≠ some 48) (h4 : ∀ c ∈ d, isDigit c = true) : decimal (numberOf d) = d ∧ 1 ≤ numberOf d ∧ numberOf d ≤ 999 := by
  match d, h1, h2, h3, h4 with
  | [a], _, _, h3, h4 =>
    have ha := digit_iff.mp (h4 a (by simp))
    have na : a.toNat ≠ 48 := fun e => h3 (by rw [List.head?_cons]; exact congrArg some (u8_ext e))
    have en : numberOf [a] = a.toNat - 48 := by simp [numberOf]
    rw [en]
    refine ⟨?_, by omega, by omega⟩
    rw [decimal, decimalFrom_small _ _ (by omega), ofNat_digit (c := a) (by omega)]
  | [a, b], _, _, h3, h4 =>
    have ha := digit_iff.mp (h4 a (by simp))
    have hb := digit_iff.mp (h4 b (by simp))
    have na : a.toNat ≠ 48 := fun e => h3 (by rw [List.head?_cons]; exact congrArg some (u8_ext e))
    obtain ⟨x, hx⟩ : ∃ x, a.toNat = 48 + x := ⟨a.toNat - 48, by omega⟩
    obtain ⟨y, hy⟩ : ∃ y, b.toNat = 48 + y := ⟨b.toNat - 48, by omega⟩
    have en : numberOf [a, b] = 10 * x + y := by simp [numberOf, hx, hy]
    rw [en]
    refine ⟨?_, by omega, by omega⟩
    obtain ⟨f, hf⟩ : ∃ f, 10 * x + y = f + 1 := ⟨10 * x + y - 1, by omega⟩
    rw [decimal, decimalFrom_big _ _ (by omega), show (10 * x + y) / 10 = x by omega, show (10 * x + y) % 10 = y by omega, hf, decimalFrom_small _ _ (by omega), ofNat_digit hx, ofNat_digit hy]
    rfl
  | [a, b, c], _, _, h3, h4 =>
    have ha := digit_iff.mp (h4 a (by simp))
    have hb := digit_iff.mp (h4 b (by simp))
    have hc := digit_iff.mp (h4 c (by simp))
    have na : a.toNat ≠ 48 := fun e => h3 (by rw [List.head?_cons]; exact congrArg some (u8_ext e))
    obtain ⟨x, hx⟩ : ∃ x, a.toNat = 48 + x := ⟨a.toNat - 48, by omega⟩
    obtain ⟨y, hy⟩ : ∃ y, b.toNat = 48 + y := ⟨b.toNat - 48, by omega⟩
    obtain ⟨z, hz⟩ : ∃ z, c.toNat = 48 + z := ⟨c.toNat - 48, by omega⟩
    have en : numberOf [a, b, c] = 10 * (10 * x + y) + z := by simp [numberOf, hx, hy, hz]
    rw [en]
    refine ⟨?_, by omega, by omega⟩
    obtain ⟨f, hf⟩ : ∃ f, 10 * (10 * x + y) + z = f + 1 + 1 := ⟨10 * (10 * x + y) + z - 2, by omega⟩
    rw [decimal, decimalFrom_big _ _ (by omega), show (10 * (10 * x + y) + z) / 10 = 10 * x + y by omega, show (10 * (10 * x + y) + z) % 10 = z by omega, hf, decimalFrom_big _ _ (by omega),
      show (10 * x + y) / 10 = x by omega, show (10 * x + y) % 10 = y by omega, decimalFrom_small _ _ (by omega), ofNat_digit hx, ofNat_digit hy, ofNat_digit hz]
    rfl
  | _ :: _ :: _ :: _ :: _, _, h2, _, _ => simp at h2
theorem numM_ne0 {d : Bytes} (h4 : ∀ c ∈ d, isDigit c = true) : numM d ≠ 0 ↔ d ≠ [] ∧ d.length ≤ 3 ∧ d.head? ≠ some 48 := by
  unfold numM
  by_cases h : d.length = 0 ∨ 3 < d.length ∨ d.head? = some 48
  · rw [if_pos h]
    constructor
    · intro q; exact absurd rfl q
    · rintro ⟨a, b, c⟩
      rcases h with h | h | h
      · exact absurd (List.length_eq_zero_iff.mp h) a
      · omega
      · exact absurd h c
  · rw [if_neg h]
    have h1 : d ≠ [] := fun e => h (.inl (by rw [e]; rfl))
    have h2 : d.length ≤ 3 := Nat.le_of_not_lt fun e => h (.inr (.inl e))
    have h3 : d.head? ≠ some 48 := fun e => h (.inr (.inr e))
    exact ⟨fun _ => ⟨h1, h2, h3⟩, fun _ => by have := (dec_num h1 h2 h3 h4).2.1; omega⟩
theorem numM_eq {d : Bytes} (h : numM d ≠ 0) : numM d = numberOf d := by
  unfold numM at h ⊢
  split at h
  · exact absurd rfl h
  · rw [if_neg (by assumption)]
theorem mem_takeWhile {α : Type} {p : α → Bool} : ∀ {l : List α} {x : α}, x ∈ l.takeWhile p → p x = true
  | [], x, h => by simp at h
  | a :: l, x, h => by
    by_cases ha : p a = true
    · rw [List.takeWhile_cons_of_pos ha] at h
      rcases List.mem_cons.mp h with rfl | h
      · exact ha
      · exact mem_takeWhile h
    · rw [List.takeWhile_cons_of_neg ha] at h; simp at h
theorem takeWhile_drop {α : Type} (p : α → Bool) : ∀ (l : List α), l = l.takeWhile p ++ l.drop (l.takeWhile p).length
  | [] => rfl
  | a :: l => by
    by_cases ha : p a = true
    · rw [List.takeWhile_cons_of_pos ha]
      show a :: l = a :: (l.takeWhile p ++ l.drop (l.takeWhile p).length)
      rw [← takeWhile_drop p l]
    · rw [List.takeWhile_cons_of_neg ha]; rfl
end Gm

end
section
namespace Gm
open Gh
def bodyM (w : Bytes) (c s : UInt8) (d k : Bytes) : Option Name :=
  if d ≠ [] ∧ d.length ≤ 3 ∧ d.head? ≠ some 48 ∧ k.length ≤ 1 ∧ (Name.mk c s (numberOf d) (k.headD 0)).right = true ∧ (Name.mk c s (numberOf d) (k.headD 0)).text = w then some ⟨c, s, numberOf d, k.headD 0⟩ else none
theorem drop_ds (c : UInt8) (r : Bytes) : (if sl (c :: r) 1 = 0 then r else r.drop 1) = (c :: r).drop (dsM (c :: r)) := by
  unfold dsM
  split <;> rfl
theorem nameOf_cons (c : UInt8) (r : Bytes) : nameOf (c :: r) = bodyM (c :: r) c (sl (c :: r) 1) (digM (c :: r)) ((c :: r).drop (deM (c :: r))) := by
  unfold deM
  rw [← List.drop_drop]
  unfold digM
  rw [← drop_ds]
  cases r <;> rfl
theorem digM_digits (w : Bytes) : ∀ c ∈ digM w, isDigit c = true := fun _ h => mem_takeWhile h
theorem keyM_nameOf (w : Bytes) : nameOf w = keyM w := by
  cases w with
  | nil => rfl
  | cons c r =>
    rw [nameOf_cons]
    unfold bodyM keyM
    simp only
    have hdig := digM_digits (c :: r)
    have hsplit : (c :: r).drop (dsM (c :: r)) = digM (c :: r) ++ (c :: r).drop (deM (c :: r)) := by
      have e := takeWhile_drop isDigit ((c :: r).drop (dsM (c :: r)))
      rw [List.drop_drop] at e
      exact e
    generalize hw : c :: r = w at *
    have hw0 : w.take 1 = [c] := by rw [← hw]; rfl
    have hlen : w.length = r.length + 1 := by rw [← hw]; rfl
    -- the head of the word
    have hhead : w.take (dsM w) = c :: (if sl w 1 = 0 then [] else [sl w 1]) ∧ dsM w ≤ w.length := by
      unfold dsM
      by_cases h : sl w 1 = 0
      · rw [if_pos h, if_pos h]; exact ⟨hw0, by omega⟩
      · rw [if_neg h, if_neg h]
        have e := (sl_ne0 h).1
        have hl := (List.getElem?_eq_some_iff.mp e).1
        obtain ⟨x, r', rfl⟩ : ∃ x r', r = x :: r' := by
          cases r with
          | nil => simp at hlen; omega
          | cons x r' => exact ⟨x, r', rfl⟩
        subst hw
        have ex : x = sl (c :: x :: r') 1 := Option.some.inj e
        rw [← ex]
        exact ⟨rfl, by simp⟩
    have hwall : w = w.take (dsM w) ++ (digM w ++ w.drop (deM w)) := by rw [← hsplit]; exact (List.take_append_drop _ _).symm
    have hdl : deM w ≤ w.length := by
      have := congrArg List.length hwall
      rw [List.length_append, List.length_append, List.length_take, Nat.min_eq_left hhead.2] at this
      unfold deM; omega
    have hkl : (w.drop (deM w)).length = w.length - deM w := List.length_drop
    have hk0 : w[deM w]? = (w.drop (deM w)).head? := by rw [List.head?_drop]
    refine Eq.symm ?_
    by_cases hnum : numM (digM w) ≠ 0
    · obtain ⟨n1, n2, n3⟩ := (numM_ne0 hdig).mp hnum
      obtain ⟨m1, m2, m3⟩ := dec_num n1 n2 n3 hdig
      have hne := numM_eq hnum
      have hsm : (sl w 1 == 0 || isSmall (sl w 1)) = true := by
        by_cases h : sl w 1 = 0
        · rw [h]; rfl
        · rw [(sl_ne0 h).2, Bool.or_true]
      by_cases hb : isBig c = true
      · by_cases hke : neM w = w.length
        · rw [if_pos ⟨hb, hnum, hke⟩]
          have key : (w.drop (deM w)).length ≤ 1 ∧ (w.drop (deM w)).headD 0 = sl w (deM w) ∧ w.drop (deM w) = (if sl w (deM w) = 0 then [] else [sl w (deM w)]) := by
            unfold neM at hke
            by_cases h : sl w (deM w) = 0
            · rw [if_pos h] at hke
              have e0 : w.drop (deM w) = [] := by rw [hke]; exact List.drop_length
              rw [e0, h]; exact ⟨by simp, rfl, rfl⟩
            · rw [if_neg h] at hke
              obtain ⟨e1, _⟩ := sl_ne0 h
              have l1 : (w.drop (deM w)).length = 1 := by omega
              obtain ⟨x, hx⟩ := List.length_eq_one_iff.mp l1
              rw [hk0, hx] at e1
              have ex : x = sl w (deM w) := Option.some.inj e1
              rw [hx, if_neg h, ex]; exact ⟨by simp, rfl, rfl⟩
          obtain ⟨k1, k2, k3⟩ := key
          have hks : (sl w (deM w) == 0 || isSmall (sl w (deM w))) = true := by
            by_cases h : sl w (deM w) = 0
            · rw [h]; rfl
            · rw [(sl_ne0 h).2, Bool.or_true]
          rw [k2, hne, if_pos]
          refine ⟨n1, n2, n3, k1, ?_, ?_⟩
          · simp only [Name.right, hb, hsm, hks, m2, m3, decide_true, Bool.and_self]
          · show c :: ((if sl w 1 = 0 then [] else [sl w 1]) ++ (decimal (numberOf (digM w)) ++ (if sl w (deM w) = 0 then [] else [sl w (deM w)]))) = w
            rw [m1, ← k3]
            conv => rhs; rw [hwall, hhead.1]
            rfl
        · rw [if_neg (fun q => hke q.2.2), if_neg]
          rintro ⟨_, _, _, k1, k2, k3⟩
          apply hke
          unfold neM
          -- the kind
          cases hd : w.drop (deM w) with
          | nil =>
            rw [hd] at hkl
            have hz : sl w (deM w) = 0 := by unfold sl; rw [hk0, hd]; rfl
            rw [if_pos hz]; simp at hkl; omega
          | cons x r2 =>
            rw [hd] at k1 hkl k2 k3
            have r2e : r2 = [] := by cases r2 with
              | nil => rfl
              | cons _ _ => simp at k1
            subst r2e
            simp only [List.length_cons, List.length_nil] at hkl
            have hgx : w[deM w]? = some x := by rw [hk0, hd]; rfl
            by_cases hx : isSmall x = true
            · have : sl w (deM w) = x := by unfold sl; rw [hgx]; exact if_pos hx
              rw [this, if_neg (small_ne0 hx)]; omega
            · exfalso
              simp only [Name.right, List.headD_cons, Bool.and_eq_true, Bool.or_eq_true, beq_iff_eq] at k2
              have x0 : x = 0 := by
                rcases k2.2.2.2.2 with h | h
                · exact h
                · exact absurd h hx
              subst x0
              have := congrArg List.length k3
              simp only [Name.text, List.headD_cons, List.length_cons, List.length_append] at this
              rw [m1] at this
              have e5 := congrArg List.length hhead.1
              rw [List.length_take, Nat.min_eq_left hhead.2, List.length_cons] at e5
              simp at this
              unfold deM at hkl
              omega
      · rw [if_neg (fun q => hb q.1), if_neg]
        rintro ⟨_, _, _, _, k2, _⟩
        simp only [Name.right, Bool.and_eq_true] at k2
        exact hb k2.1
    · rw [if_neg (fun q => hnum q.2.1), if_neg]
      rintro ⟨h1, h2, h3, _⟩
      exact hnum ((numM_ne0 hdig).mpr ⟨h1, h2, h3⟩)
theorem nameOf_text {w : Bytes} {n : Name} (h : nameOf w = some n) : n.text = w := by
  cases w with
  | nil => cases h
  | cons c r =>
    rw [nameOf_cons] at h
    unfold bodyM at h
    split at h
    · rename_i q
      rw [← Option.some.inj h]
      exact q.2.2.2.2.2
    · cases h
end Gm

end
section
namespace Gm
open Gh
def wholeFault (d : Draft) (p : Nat) : Option Fault := if d.rows = [] then some (1, p) else if d.sign.shape.tight = false then some (4, d.place) else none
def prevName (z : Reading) : Option Name := z.now.map (·.name)
def nameFault (prev : Option Name) (e : Nat) : List (Nat × Bytes) → Option Fault
  | [] => some (1, e)
  | w :: _ => match nameOf w.2 with
    | none => some (1, w.1)
    | some n => match prev with
      | none => none
      | some m => if m.before n = true then none else some (2, w.1)
def soundsFault (had : List Bytes) (u : List (Nat × Bytes)) : Option Fault := match soundsAt had u with
  | .error f => some f
  | .ok _ => none
def count (z : Reading) : Nat := z.done.length + (match z.now with | none => 0 | some _ => 1)
def closedFault (z : Reading) (p : Nat) : Option Fault := match z.now with
  | none => none
  | some d => wholeFault d p
def signFault (z : Reading) (p e : Nat) (r : List (Nat × Bytes)) : Option Fault :=
  match closedFault z p with
  | some f => some f
  | none => match nameFault (prevName z) e r with
    | some f => some f
    | none => match soundsFault [] (r.drop 1) with
      | some f => some f
      | none => if count z = 512 then some (3, p) else none
def doneAll (z : Reading) : Signs := match z.now with
  | none => z.done
  | some d => z.done ++ [d.sign]
def cellB (b : Bool) : UInt8 := if b = true then 35 else 46
def cellBytes (r : List Bool) : Bytes := r.map cellB
def badCell : Bytes → Nat → Option Nat
  | [], _ => none
  | c :: r, p => if c = 35 ∨ c = 46 then badCell r (p + 1) else some p
def rowFault (p : Nat) (l : Bytes) (rows : List (List Bool)) : Option Fault := match badCell l p with
  | some q => some (1, q)
  | none => if 32 < l.length ∨ (rows ≠ [] ∧ l.length ≠ (rows.headD []).length) then some (5, p) else if rows.length = 32 then some (3, p) else none
structure GoodD (d : Draft) : Prop where
  nm : nameOf d.name.text = some d.name
  wid : ∀ r ∈ d.rows, r.length = (d.rows.headD []).length
  lo : ∀ r ∈ d.rows, 1 ≤ r.length
  hi : ∀ r ∈ d.rows, r.length ≤ 32
  high : d.rows.length ≤ 32
  snd : d.sounds.length ≤ 8
structure Good (z : Reading) : Prop where
  now : ∀ d, z.now = some d → GoodD d
  none : z.now = none → z.done = []
  names : ∀ s ∈ z.done, nameOf s.name.text = some s.name
  cnt : count z ≤ 512
theorem closed_of {z : Reading} {p : Nat} : z.closed p = match closedFault z p with
    | some f => .error f
    | none => .ok (doneAll z) := by
  unfold Reading.closed closedFault doneAll wholeFault
  cases z.now with
  | none => rfl
  | some d =>
    simp only
    by_cases h1 : d.rows = []
    · rw [if_pos h1, if_pos h1]; rfl
    · rw [if_neg h1, if_neg h1]
      by_cases h2 : d.sign.shape.tight = false
      · rw [if_pos h2, if_pos h2]; rfl
      · rw [if_neg h2, if_neg h2]
theorem doneAll_length (z : Reading) : (doneAll z).length = count z := by
  unfold doneAll count
  cases z.now <;> simp
theorem doneAll_last {z : Reading} (g : Good z) : (doneAll z).getLast?.map (·.name) = prevName z := by
  unfold doneAll prevName
  cases h : z.now with
  | none => simp only; rw [g.none h]; rfl
  | some d => simp [Draft.sign]
theorem soundsAt_len : ∀ {u : List (Nat × Bytes)} {had s : List Bytes}, soundsAt had u = .ok s → had.length ≤ 8 → s.length ≤ 8
  | [], had, s, h, hl => by
    rw [soundsAt] at h; cases h; exact hl
  | x :: r, had, s, h, hl => by
    rw [soundsAt] at h
    split at h
    · cases h
    · split at h
      · cases h
      · split at h
        · cases h
        · rename_i q
          exact soundsAt_len h (by rw [List.length_append]; simp [SOUNDS] at q; simp; omega)
def signLine (z : Reading) (p e : Nat) (r : List (Nat × Bytes)) : Except Fault Reading := match signFault z p e r with
  | some f => .error f
  | none => match r with
    | [] => .error (1, e)
    | w :: u => match nameOf w.2, soundsAt [] u with
      | some n, .ok s => .ok ⟨doneAll z, some ⟨p, n, s, []⟩⟩
      | _, _ => .error (1, e)
def rowLine (z : Reading) (p : Nat) (l : Bytes) : Except Fault Reading := match z.now with
  | none => .error (1, p)
  | some d => if l = [] then .error (1, p) else match rowFault p l d.rows with
    | some f => .error f
    | none => .ok ⟨z.done, some { d with rows := d.rows ++ [l.map (· == 35)] }⟩
theorem cellsAt_eq : ∀ (l : Bytes) (p : Nat), cellsAt p l = match badCell l p with
    | some q => .error (1, q)
    | none => .ok (l.map (· == 35))
  | [], p => rfl
  | c :: r, p => by
    rw [cellsAt, badCell]
    by_cases h : c = 35 ∨ c = 46
    · rw [if_pos h, if_pos h, cellsAt_eq r (p + 1)]
      cases badCell r (p + 1) <;> rfl
    · rw [if_neg h, if_neg h]; rfl
theorem badCell_none : ∀ {l : Bytes} {p : Nat}, badCell l p = none → cellBytes (l.map (· == 35)) = l
  | [], _, _ => rfl
  | c :: r, p, h => by
    rw [badCell] at h
    split at h
    · rename_i q
      have ih := badCell_none h
      show cellB (c == 35) :: cellBytes (r.map (· == 35)) = c :: r
      rw [ih]
      rcases q with rfl | rfl <;> rfl
    · cases h
theorem lineAt_eq {z : Reading} (g : Good z) (p e : Nat) (l : Bytes) : lineAt z p e l = match cut 32 p [] l with
    | [] => .error (1, p)
    | first :: r => if first.2 = SIGN then signLine z p e r else rowLine z p l := by
  unfold lineAt
  cases hc : cut 32 p [] l with
  | nil => rfl
  | cons first r =>
    simp only
    by_cases hs : first.2 = SIGN
    · rw [if_pos hs, if_pos hs, closed_of]
      unfold signLine signFault
      cases closedFault z p with
      | some f => rfl
      | none =>
        simp only
        show (match r with
          | [] => fault 1 e
          | w :: u => match nameOf w.2 with
            | none => fault 1 w.1
            | some n => if (match (doneAll z).getLast? with
                | some s => s.name.before n
                | none => true) = false then fault 2 w.1
              else do
                let s ← soundsAt [] u
                if SIGNS ≤ (doneAll z).length then fault 3 p else return (⟨doneAll z, some ⟨p, n, s, []⟩⟩ : Reading)) = _
        cases r with
        | nil => rfl
        | cons w u =>
          simp only [nameFault, List.drop_succ_cons, List.drop_zero]
          cases hn : nameOf w.2 with
          | none => rfl
          | some n =>
            simp only
            have hl := doneAll_last g
            have key : (match (doneAll z).getLast? with
                | some s => s.name.before n
                | none => true) = (match prevName z with
                | none => true
                | some m => m.before n) := by
              rw [← hl]
              cases (doneAll z).getLast? <;> rfl
            rw [key]
            have rest : (do
                let s ← soundsAt [] u
                if SIGNS ≤ (doneAll z).length then fault 3 p else return (⟨doneAll z, some ⟨p, n, s, []⟩⟩ : Reading)) =
              (match (match soundsFault [] u with
                | some f => some f
                | none => if count z = 512 then some (3, p) else none) with
              | some f => .error f
              | none => match soundsAt [] u with
                | .ok s => .ok ⟨doneAll z, some ⟨p, n, s, []⟩⟩
                | _ => .error (1, e)) := by
              unfold soundsFault
              cases soundsAt [] u with
              | error f => rfl
              | ok s =>
                simp only
                rw [doneAll_length]
                have c1 := g.cnt
                by_cases h : count z = 512
                · rw [if_pos h]
                  show (if SIGNS ≤ count z then fault 3 p else _) = _
                  rw [if_pos (by show 512 ≤ count z; omega)]; rfl
                · rw [if_neg h]
                  show (if SIGNS ≤ count z then fault 3 p else _) = _
                  rw [if_neg (by show ¬ 512 ≤ count z; omega)]; rfl
            cases hp : prevName z with
            | none =>
              simp only
              rw [if_neg (by simp), rest]
              cases soundsFault [] u with
              | some f => rfl
              | none =>
                simp only
                by_cases h : count z = 512
                · simp only [if_pos h]
                · simp only [if_neg h]
                  cases soundsAt [] u <;> rfl
            | some m =>
              simp only
              by_cases hb : m.before n = true
              · rw [if_pos hb, if_neg (by rw [hb]; simp), rest]
                simp only
                cases soundsFault [] u with
                | some f => rfl
                | none =>
                  simp only
                  by_cases h : count z = 512
                  · simp only [if_pos h]
                  · simp only [if_neg h]
                    cases soundsAt [] u <;> rfl
              · rw [if_neg hb, if_pos (by simpa using hb)]; rfl
    · rw [if_neg hs, if_neg hs]
      unfold rowLine
      cases hn : z.now with
      | none => rfl
      | some d =>
        simp only
        by_cases hl : l = []
        · rw [if_pos hl, if_pos hl]; rfl
        · rw [if_neg hl, if_neg hl, cellsAt_eq]
          unfold rowFault
          cases hb : badCell l p with
          | some q => rfl
          | none =>
            simp only
            show (if (match d.rows with
              | [] => decide (SIDE < (l.map (· == 35)).length)
              | a :: _ => (l.map (· == 35)).length != a.length) = true then fault 5 p
              else if SIDE ≤ d.rows.length then fault 3 p else return (⟨z.done, some { d with rows := d.rows ++ [l.map (· == 35)] }⟩ : Reading)) = _
            have gd := g.now d hn
            have e1 : ((match d.rows with
              | [] => decide (SIDE < (l.map (· == 35)).length)
              | a :: _ => (l.map (· == 35)).length != a.length) = true) ↔ (32 < l.length ∨ (d.rows ≠ [] ∧ l.length ≠ (d.rows.headD []).length)) := by
              cases hr : d.rows with
              | nil => simp [SIDE]
              | cons a rs =>
                have := gd.hi a (by rw [hr]; simp)
                simp
                omega
            have e2 : (SIDE ≤ d.rows.length) ↔ d.rows.length = 32 := by
              have := gd.high
              show 32 ≤ _ ↔ _
              omega
            by_cases h1 : 32 < l.length ∨ (d.rows ≠ [] ∧ l.length ≠ (d.rows.headD []).length)
            · rw [if_pos h1, if_pos (e1.mpr h1)]; rfl
            · rw [if_neg h1, if_neg (fun q => h1 (e1.mp q))]
              by_cases h2 : d.rows.length = 32
              · rw [if_pos h2, if_pos (e2.mpr h2)]; rfl
              · rw [if_neg h2, if_neg (fun q => h2 (e2.mp q))]; rfl
end Gm

end
section
namespace Gm
open Gh
theorem good_start : Good ⟨[], none⟩ := ⟨fun d h => (by cases h), fun _ => rfl, fun s h => (by simp at h), (by simp [count])⟩
theorem good_sign {z z' : Reading} {p e : Nat} {r : List (Nat × Bytes)} (g : Good z) (h : signLine z p e r = .ok z') : ∃ w u n s, r = w :: u ∧ nameOf w.2 = some n ∧ soundsAt [] u = .ok s ∧ signFault z p e r = none ∧ z' = ⟨doneAll z, some ⟨p, n, s, []⟩⟩ ∧ Good z' := by
  unfold signLine at h
  cases hf : signFault z p e r with
  | some f => rw [hf] at h; cases h
  | none =>
    rw [hf] at h
    simp only at h
    cases r with
    | nil => cases h
    | cons w u =>
      simp only at h
      cases hn : nameOf w.2 with
      | none => rw [hn] at h; cases h
      | some n =>
        rw [hn] at h
        cases hs : soundsAt [] u with
        | error f => rw [hs] at h; cases h
        | ok s =>
          rw [hs] at h
          simp only at h
          cases h
          refine ⟨w, u, n, s, rfl, hn, hs, rfl, rfl, ?_⟩
          have hcnt : count z ≠ 512 := by
            intro hc
            unfold signFault at hf
            split at hf
            · cases hf
            · split at hf
              · cases hf
              · split at hf
                · cases hf
                · rw [if_pos hc] at hf; cases hf
          refine ⟨fun d hd => ?_, fun hd => (by cases hd), fun t ht => ?_, ?_⟩
          · cases hd
            exact ⟨by show nameOf n.text = some n; rw [nameOf_text hn]; exact hn, fun r hr => (by cases hr), fun r hr => (by cases hr), fun r hr => (by cases hr), (by simp), soundsAt_len hs (by simp)⟩
          · have ht' : t ∈ doneAll z := ht
            unfold doneAll at ht'
            cases hz : z.now with
            | none => rw [hz] at ht'; exact g.names t ht'
            | some d =>
              rw [hz] at ht'
              rcases List.mem_append.mp ht' with q | q
              · exact g.names t q
              · rw [List.mem_singleton.mp q]; exact (g.now d hz).nm
          · show (doneAll z).length + 1 ≤ 512
            rw [doneAll_length]
            have := g.cnt
            omega
theorem rowFault_none {p : Nat} {l : Bytes} {rows : List (List Bool)} (h : rowFault p l rows = none) : badCell l p = none ∧ l.length ≤ 32 ∧ (rows ≠ [] → l.length = (rows.headD []).length) ∧ rows.length ≠ 32 := by
  unfold rowFault at h
  cases hb : badCell l p with
  | some q => rw [hb] at h; cases h
  | none =>
    rw [hb] at h
    simp only at h
    split at h
    · cases h
    · rename_i h1
      split at h
      · cases h
      · rename_i h2
        refine ⟨rfl, Nat.le_of_not_lt fun q => h1 (.inl q), fun q => ?_, h2⟩
        exact Decidable.byContradiction fun r => h1 (.inr ⟨q, r⟩)
theorem good_row {z z' : Reading} {p : Nat} {l : Bytes} (g : Good z) (h : rowLine z p l = .ok z') : ∃ d, z.now = some d ∧ l ≠ [] ∧ rowFault p l d.rows = none ∧ z' = ⟨z.done, some { d with rows := d.rows ++ [l.map (· == 35)] }⟩ ∧ Good z' := by
  unfold rowLine at h
  cases hz : z.now with
  | none => rw [hz] at h; cases h
  | some d =>
    rw [hz] at h
    simp only at h
    by_cases hl : l = []
    · rw [if_pos hl] at h; cases h
    · rw [if_neg hl] at h
      cases hf : rowFault p l d.rows with
      | some f => rw [hf] at h; cases h
      | none =>
        rw [hf] at h
        simp only at h
        cases h
        obtain ⟨_, h2, h3, h4⟩ := rowFault_none hf
        have gd := g.now d hz
        have hl1 : 1 ≤ l.length := by cases l with
          | nil => exact absurd rfl hl
          | cons _ _ => simp
        have hhead : ((d.rows ++ [l.map (· == 35)]).headD []).length = l.length := by
          cases hr : d.rows with
          | nil => simp
          | cons a rs => rw [h3 (by rw [hr]; simp), hr]; rfl
        refine ⟨d, rfl, hl, hf, rfl, fun d' hd' => ?_, fun q => (by cases q), g.names, ?_⟩
        · cases hd'
          refine ⟨gd.nm, fun r hr => ?_, fun r hr => ?_, fun r hr => ?_, ?_, gd.snd⟩
          · show r.length = ((d.rows ++ [l.map (· == 35)]).headD []).length
            rw [hhead]
            rcases List.mem_append.mp hr with q | q
            · rw [gd.wid r q]
              exact (h3 (by intro z; rw [z] at q; cases q)).symm
            · rw [List.mem_singleton.mp q]; simp
          · rcases List.mem_append.mp hr with q | q
            · exact gd.lo r q
            · rw [List.mem_singleton.mp q]; simpa using hl1
          · rcases List.mem_append.mp hr with q | q
            · exact gd.hi r q
            · rw [List.mem_singleton.mp q]; simpa using h2
          · show (d.rows ++ [l.map (· == 35)]).length ≤ 32
            have := gd.high
            simp; omega
        · have := g.cnt
          unfold count at this ⊢
          rw [hz] at this
          exact this
theorem takeWhile_all {α : Type} {p : α → Bool} : ∀ {l : List α}, (∀ c ∈ l, p c = true) → l.takeWhile p = l ∧ l.dropWhile p = []
  | [], _ => ⟨rfl, rfl⟩
  | a :: l, h => by
    have ha := h a (by simp)
    obtain ⟨h1, h2⟩ := takeWhile_all (p := p) (l := l) fun c hc => h c (by simp [hc])
    rw [List.takeWhile_cons_of_pos ha, List.dropWhile_cons_of_pos ha, h1, h2]
    exact ⟨rfl, rfl⟩
theorem takeWhile_stop {α : Type} {p : α → Bool} {x : α} {r : List α} (hx : p x = false) : ∀ {l : List α}, (∀ c ∈ l, p c = true) → (l ++ x :: r).takeWhile p = l ∧ (l ++ x :: r).dropWhile p = x :: r
  | [], _ => by simp [hx]
  | a :: l, h => by
    have ha := h a (by simp)
    obtain ⟨h1, h2⟩ := takeWhile_stop (r := r) hx (l := l) fun c hc => h c (by simp [hc])
    rw [List.cons_append, List.takeWhile_cons_of_pos ha, List.dropWhile_cons_of_pos ha, h1, h2]
    exact ⟨rfl, rfl⟩
theorem lines_end (z : Reading) (p : Nat) : linesAt z (cut LF p [] []) = .ok z := by
  rw [cut_run]; rfl
theorem lines_last (z : Reading) (p : Nat) {b : Bytes} (hb : b ≠ []) (h : ∀ c ∈ b, c ≠ 10) : linesAt z (cut LF p [] b) = match lineAt z p (p + b.length) b with
    | .error f => .error f
    | .ok _ => .error (1, p + b.length) := by
  obtain ⟨h1, h2⟩ := takeWhile_all (p := fun x => decide (x ≠ LF)) (l := b) fun c hc => decide_eq_true (h c hc)
  rw [cut_run, h1, h2]
  show (if b = [] then _ else _) = _
  rw [if_neg hb]
  rfl
theorem lines_more (z : Reading) (p : Nat) {l r : Bytes} (h : ∀ c ∈ l, c ≠ 10) : linesAt z (cut LF p [] (l ++ 10 :: r)) = match lineAt z p (p + l.length) l with
    | .error f => .error f
    | .ok y => linesAt y (cut LF (p + l.length + 1) [] r) := by
  obtain ⟨h1, h2⟩ := takeWhile_stop (p := fun x => decide (x ≠ LF)) (x := 10) (r := r) (by simp [LF]) (l := l) fun c hc => decide_eq_true (h c hc)
  rw [cut_run, h1, h2]
  simp only
  cases hc : cut LF (p + l.length + 1) [] r with
  | nil => exact absurd hc (cut_ne _ _ _)
  | cons a rest =>
    show (do
      let y ← lineAt z p (p + l.length) l
      linesAt y (a :: rest)) = _
    cases lineAt z p (p + l.length) l <;> rfl
def textEndFault (z : Reading) (n : Nat) : Option Fault := match z.now with
  | none => some (1, n)
  | some d => wholeFault d n
def fin (n : Nat) (r : Except Fault Reading) : Except Fault Signs := match r with
  | .error f => .error f
  | .ok z => match z.closed n with
    | .error f => .error f
    | .ok l => if l = [] then .error (1, n) else .ok l
theorem readList_fin (t : Bytes) : readList t = fin t.length (linesAt ⟨[], none⟩ (cut LF 0 [] t)) := by
  unfold readList fin
  cases linesAt ⟨[], none⟩ (cut LF 0 [] t) with
  | error f => rfl
  | ok z =>
    show (do
      let l ← z.closed t.length
      if l = [] then fault 1 t.length else return l) = (match z.closed t.length with
    | .error f => .error f
    | .ok l => if l = [] then .error (1, t.length) else .ok l)
    cases z.closed t.length <;> rfl
theorem fin_ok {z : Reading} (g : Good z) (n : Nat) : fin n (.ok z) = match textEndFault z n with
    | some f => .error f
    | none => .ok (doneAll z) := by
  unfold fin
  simp only
  rw [closed_of]
  unfold closedFault textEndFault doneAll
  cases hz : z.now with
  | none =>
    simp only
    rw [if_pos (g.none hz)]
  | some d =>
    simp only
    cases wholeFault d n with
    | some f => rfl
    | none => simp
theorem any_range_getD {α : Type} (f : α → Bool) (e : α) : ∀ l : List α, ((List.range l.length).any fun i => f (l.getD i e)) = l.any f
  | [] => rfl
  | a :: l => by
    rw [List.length_cons, List.range_succ_eq_map, List.any_cons, List.any_map, List.any_cons, ← any_range_getD f e l]
    rfl
def bareRim (rows : List (List Bool)) : Bool := !((rows.headD []).any id && ((rows.getLastD []).any id && (rows.any (fun r => r.headD false) && rows.any (fun r => r.getLastD false))))
theorem getD_zero {α : Type} (l : List α) (e : α) : l.getD 0 e = l.headD e := by cases l <;> rfl
theorem getD_last {α : Type} (l : List α) (e : α) : l.getD (l.length - 1) e = l.getLastD e := by
  cases l with
  | nil => rfl
  | cons a l =>
    rw [List.getLastD_eq_getLast?, List.getLast?_eq_getElem?, List.getD_eq_getElem?_getD]
theorem any_congr_mem {α : Type} {f g : α → Bool} : ∀ {l : List α}, (∀ x ∈ l, f x = g x) → l.any f = l.any g
  | [], _ => rfl
  | a :: l, h => by
    rw [List.any_cons, List.any_cons, h a (by simp), any_congr_mem fun x hx => h x (by simp [hx])]
theorem tight_eq {d : Draft} (g : GoodD d) (hr : d.rows ≠ []) : d.sign.shape.tight = !bareRim d.rows := by
  unfold bareRim
  rw [Bool.not_not]
  obtain ⟨a, rs, e⟩ : ∃ a rs, d.rows = a :: rs := by
    cases h : d.rows with
    | nil => exact absurd h hr
    | cons a rs => exact ⟨a, rs, rfl⟩
  have hw : (d.rows.headD []).length = a.length := by rw [e]; rfl
  have row : ∀ r ∈ d.rows, ((List.range (d.rows.headD []).length).any fun x => r.getD x false) = r.any id := by
    intro r hr
    rw [← g.wid r hr]
    exact any_range_getD id false r
  have m0 : d.rows.getD 0 [] ∈ d.rows := by rw [e]; simp
  have ml : d.rows.getD (d.rows.length - 1) [] ∈ d.rows := by
    rw [getD_last, e, List.getLastD_eq_getLast?, List.getLast?_cons]
    simp only [Option.getD_some]
    cases rs with
    | nil => simp
    | cons b rs' =>
      have : (b :: rs').getLast? = some ((b :: rs').getLast (by simp)) := List.getLast?_eq_some_getLast (by simp)
      rw [this]
      exact List.mem_cons_of_mem _ (List.getLast_mem _)
  show (d.sign.shape.rowHas 0 && (d.sign.shape.rowHas (d.rows.length - 1) && (d.sign.shape.columnHas 0 && d.sign.shape.columnHas ((d.rows.headD []).length - 1)))) = _
  have r0 : d.sign.shape.rowHas 0 = (d.rows.headD []).any id := by
    rw [← getD_zero]; exact row _ m0
  have rl : d.sign.shape.rowHas (d.rows.length - 1) = (d.rows.getLastD []).any id := by
    rw [← getD_last]; exact row _ ml
  have c0 : d.sign.shape.columnHas 0 = d.rows.any (fun r => r.headD false) := by
    show ((List.range d.rows.length).any fun y => (d.rows.getD y []).getD 0 false) = _
    rw [any_range_getD (fun r : List Bool => r.getD 0 false) [] d.rows]
    exact any_congr_mem fun x _ => getD_zero x false
  have cl : d.sign.shape.columnHas ((d.rows.headD []).length - 1) = d.rows.any (fun r => r.getLastD false) := by
    show ((List.range d.rows.length).any fun y => (d.rows.getD y []).getD ((d.rows.headD []).length - 1) false) = _
    rw [any_range_getD (fun r : List Bool => r.getD ((d.rows.headD []).length - 1) false) [] d.rows]
    refine any_congr_mem fun x hx => ?_
    rw [← g.wid x hx]
    exact getD_last x false
  rw [r0, rl, c0, cl]
end Gm

end
section
namespace Gm
open Gh
structure GoodS (s : Sign) : Prop where
  nm : nameOf s.name.text = some s.name
  high : s.shape.high = s.shape.rows.length
  wide : ∀ r ∈ s.shape.rows, r.length = s.shape.wide
  ne : s.shape.rows ≠ []
  w1 : 1 ≤ s.shape.wide
  w32 : s.shape.wide ≤ 32
  h32 : s.shape.high ≤ 32
  snd : s.sounds.length ≤ 8
  ltr : ∀ w ∈ s.sounds, w.length ≤ 8
  tight : s.shape.tight = true
structure GoodT (z : Reading) : Prop where
  done : ∀ s ∈ z.done, GoodS s
  now : ∀ d, z.now = some d → ∀ w ∈ d.sounds, w.length ≤ 8
theorem good_of_whole {d : Draft} {p : Nat} (g : GoodD d) (hl : ∀ w ∈ d.sounds, w.length ≤ 8) (h : wholeFault d p = none) : GoodS d.sign := by
  unfold wholeFault at h
  split at h
  · cases h
  rename_i h1
  split at h
  · cases h
  rename_i h2
  obtain ⟨a, rs, e⟩ : ∃ a rs, d.rows = a :: rs := by
    cases h : d.rows with
    | nil => exact absurd h h1
    | cons a rs => exact ⟨a, rs, rfl⟩
  have ea : (d.rows.headD []).length = a.length := by rw [e]; rfl
  have ma : a ∈ d.rows := by rw [e]; simp
  exact ⟨g.nm, rfl, fun r hr => g.wid r hr, h1, by show 1 ≤ (d.rows.headD []).length; rw [ea]; exact g.lo a ma, by show (d.rows.headD []).length ≤ 32; rw [ea]; exact g.hi a ma, g.high, g.snd, hl, by simpa using h2⟩
theorem goodT_all {z : Reading} {p : Nat} (g : Good z) (gt : GoodT z) (h : closedFault z p = none) : ∀ s ∈ doneAll z, GoodS s := by
  unfold doneAll closedFault at *
  cases hz : z.now with
  | none => intro s hs; exact gt.done s hs
  | some d =>
    rw [hz] at h
    intro s hs
    rcases List.mem_append.mp hs with hs | hs
    · exact gt.done s hs
    · rw [List.mem_singleton.mp hs]; exact good_of_whole (g.now d hz) (gt.now d hz) h
theorem soundsAt_ltr : ∀ {u : List (Nat × Bytes)} {had s : List Bytes}, soundsAt had u = .ok s → (∀ w ∈ had, w.length ≤ 8) → ∀ w ∈ s, w.length ≤ 8
  | [], had, s, h, hl => by
    rw [soundsAt] at h; cases h; exact hl
  | x :: r, had, s, h, hl => by
    rw [soundsAt] at h
    split at h
    · cases h
    · rename_i hx
      split at h
      · cases h
      · split at h
        · cases h
        · refine soundsAt_ltr h fun w hw => ?_
          rcases List.mem_append.mp hw with hw | hw
          · exact hl w hw
          · rw [List.mem_singleton.mp hw]
            unfold isSound at hx
            simp [LETTERS] at hx
            exact of_decide_eq_true hx.2.1
theorem goodT_line {z z' : Reading} {p e : Nat} {l : Bytes} (g : Good z) (gt : GoodT z) (h : lineAt z p e l = .ok z') : Good z' ∧ GoodT z' := by
  rw [lineAt_eq g] at h
  split at h
  · cases h
  · split at h
    · obtain ⟨w, u, n, s, _, _, h3, h4, rfl, g'⟩ := good_sign g h
      refine ⟨g', ?_, fun d hd => ?_⟩
      · have hc : closedFault z p = none := by
          unfold signFault at h4
          split at h4
          · cases h4
          · assumption
        exact goodT_all g gt hc
      · cases hd
        exact soundsAt_ltr h3 (by simp)
    · obtain ⟨d, h1, _, _, rfl, g'⟩ := good_row g h
      refine ⟨g', gt.done, fun d' hd => ?_⟩
      cases hd
      exact gt.now d h1
theorem goodT_lines : ∀ (ls : List (Nat × Bytes)) {z z' : Reading}, Good z → GoodT z → linesAt z ls = .ok z' → Good z' ∧ GoodT z'
  | [], z, z', g, gt, h => by
    rw [linesAt] at h; cases h; exact ⟨g, gt⟩
  | [x], z, z', g, gt, h => by
    rw [linesAt] at h
    split at h
    · cases h; exact ⟨g, gt⟩
    · split at h <;> cases h
  | x :: y :: r, z, z', g, gt, h => by
    have e : linesAt z (x :: y :: r) = (do
      let y' ← lineAt z x.1 (x.1 + x.2.length) x.2
      linesAt y' (y :: r)) := by
      rw [linesAt]
      intro a; cases a
    rw [e] at h
    cases hl : lineAt z x.1 (x.1 + x.2.length) x.2 with
    | error f => rw [hl] at h; cases h
    | ok z1 =>
      rw [hl] at h
      obtain ⟨g1, gt1⟩ := goodT_line g gt hl
      exact goodT_lines (y :: r) g1 gt1 h
theorem readList_good {t : Bytes} {l : Signs} (h : readList t = .ok l) : ∀ s ∈ l, GoodS s := by
  rw [readList_fin] at h
  cases hl : linesAt ⟨[], none⟩ (cut LF 0 [] t) with
  | error f => rw [hl] at h; cases h
  | ok z =>
    rw [hl] at h
    obtain ⟨g, gt⟩ := goodT_lines _ good_start ⟨fun s hs => (by cases hs), fun d hd => (by cases hd)⟩ hl
    rw [fin_ok g] at h
    split at h
    · cases h
    · rename_i ht
      cases h
      refine goodT_all (p := t.length) g gt ?_
      unfold textEndFault at ht
      unfold closedFault
      cases hz : z.now with
      | none => rfl
      | some d => rw [hz] at ht; exact ht
theorem nameOf_len {w : Bytes} {n : Name} (h : nameOf w = some n) : w.length ≤ 6 := by
  cases w with
  | nil => simp
  | cons c r =>
    rw [nameOf_cons] at h
    unfold bodyM at h
    split at h
    · rename_i hc
      obtain ⟨_, h2, _, h4, _⟩ := hc
      have e : (c :: r).drop (deM (c :: r)) = ((c :: r).drop (dsM (c :: r))).drop (digM (c :: r)).length := by
        rw [List.drop_drop]; rfl
      rw [List.length_drop] at h4
      have : deM (c :: r) ≤ 5 := by
        unfold deM
        have : dsM (c :: r) ≤ 2 := by unfold dsM; split <;> omega
        omega
      omega
    · cases h
end Gm

end
section
namespace Gm
open Gh
end Gm

end
section
set_option linter.all false
namespace Gm
open Gh
abbrev IC := Int × Int
end Gm

end
section
set_option linter.all false
namespace Gm
open Gh
end Gm

end
section
set_option Elab.async false
set_option linter.all false
set_option maxRecDepth 100000
set_option maxHeartbeats 2000000
namespace Pg
open PySem PySem.Spec PyProof.Rows L2

abbrev rLt : R2 := rI0 fun i j => V.bl (decide (i < j))
abbrev rLe : R2 := rI0 fun i j => V.bl (decide (i ≤ j))
abbrev rGt : R2 := rI0 fun i j => V.bl (decide (j < i))
abbrev rGe : R2 := rI0 fun i j => V.bl (decide (j ≤ i))
abbrev rPlus : R2 := rI0 fun i j => V.int (i + j)
abbrev rMinus : R2 := rI0 fun i j => V.int (i - j)
abbrev rTimes : R2 := rI CMul fun i j => V.int (i * j)
abbrev rNeg : V → Hp → VK → Prop := rU fun i => V.int (-i)
abbrev rIsN : R2 := fun x y H Q => y = .non ∧ Q (.bl (decide (x = .non))) H
abbrev rNotN : R2 := fun x y H Q => y = .non ∧ Q (.bl (!decide (x = .non))) H
abbrev rLen (K : PySem.W.Frag) : List V → Hp → VK → Prop := fun xs H Q => ∃ x n, xs = [x] ∧ LenV K x H n ∧ Q (.int n) H
abbrev rTupOf (K : PySem.W.Frag) : List V → Hp → VK → Prop := fun xs H Q => ∃ p ys, xs = [.ref p] ∧ ((SqL K H p ys ∧ ∀ l, H l = none → Q (.ref l) (upd H l (.tup ys))) ∨ (SqT K H p ys ∧ Q (.ref p) H))
def GV (mg : Str → Option Value) (x : Str) (v : V) : Prop := ∃ u, mg x = some u ∧ RelV v u
theorem pe_gv {X : Cx} {x : Str} {v : V} {pos : Pos} (h : GV X.mg x v) (hg : Gl X x) (hd : (x == ("__debug__" : Str)) = false := by decide) : PE X (.Name x pos) (tC v) := by
  obtain ⟨u, e, r⟩ := h
  exact pe_glob hg e r hd
def OkF (P : Program) (w : World) (K : PySem.W.Frag) (mg : Str → Option Value) (base : Heap) (k : Nat) (x : Str) (ps : List Str) (sp : Sp) : Prop :=
  ∃ (f : Addr) (fd : FuncData), FnOk P w K mg base CX0 k f fd ps sp ∧ mg x = some (.ref f) ∧ PySem.W.keepIn K (.ref f) = true ∧ Binds K fd ps []
def OkC (P : Program) (w : World) (K : PySem.W.Frag) (mg : Str → Option Value) (base : Heap) (k : Nat) (x : Str) (C : Addr) (ps : List Str) (sp : Sp) : Prop :=
  ∃ (f : Addr) (fd : FuncData), Mk K C f ∧ FnOk P w K mg base CX0 k f fd ps sp ∧ mg x = some (.ref C) ∧ Binds K fd ps []
section
variable {X : Cx} {k : Nat} {x : Str} {C : Addr} {ps : List Str} {sp : Sp} {p pos : Pos} {e : Expr} {es : List Expr} {t : TA}
theorem pe_callF (O : OkF X.prog X.w X.K X.mg X.base k x ps sp) (hr : Room k X.A) (hg : Gl X x) (ha : PA X (e :: es) t) (hdb : (x == ("__debug__" : Str)) = false := by decide)
    (he : starEach (e :: es) X.env = (false, eval e X.env) :: starEach es X.env := by rfl) (hpl : (backTo pos (starEach es X.env)).any (·.1) = false := by rfl) : PE X (.Call (.Name x p) (e :: es) [] pos) (tCall sp [] E0 t) := by
  obtain ⟨f, fd, G, m, kp, b⟩ := O
  exact pe_call G hr hg m kp b .nil pass0 ha hdb he hpl
theorem pe_makeF (O : OkC X.prog X.w X.K X.mg X.base k x C ps sp) (hr : Room (k + 1) X.A) (hg : Gl X x) (ha : PA X (e :: es) t) (hdb : (x == ("__debug__" : Str)) = false := by decide)
    (he : starEach (e :: es) X.env = (false, eval e X.env) :: starEach es X.env := by rfl) (hpl : (backTo pos (starEach es X.env)).any (·.1) = false := by rfl) : PE X (.Call (.Name x p) (e :: es) [] pos) (tMake C sp [] E0 t) := by
  obtain ⟨f, fd, M, G, m, b⟩ := O
  exact pe_make M G hr hg m b .nil pass0 ha hdb he hpl
end

def lexLe : List Int → List Int → Bool
  | [], _ => true
  | _ :: _, [] => false
  | x :: xs, y :: ys => if x = y then lexLe xs ys else decide (x < y)
theorem lexLe_cons (x y : Int) (xs ys : List Int) : lexLe (x :: xs) (y :: ys) = if x = y then lexLe xs ys else decide (x < y) := rfl
theorem rcLe_int (A : Around) (s : Shared) (a : Int) (t : Tok) (c : Int) (u : Tok) (prog : Program) (w : World) (E : Value → Shared → Prop) (Q : Value → Shared → Prop) (h : Q (.bool (decide (a ≤ c))) s) :
    wpAny (model prog w) A (richCompare .LtE (.int a t) (.int c u)) Q E s :=
  (PyProof.Rows.le_int h : wpAny (model prog w) A (compareOp .LtE (.int a t) (.int c u)) Q E s)
section
open PySem.SeqAt
open PySem.AutoSeq1 (wpAny_loadPart')
open PySem.MeetsSeq PySem.MeetsSeq2 PySem.MeetsSeq3
theorem tuple_le_ints (l b : Addr) (items items2 : Array Value) (n n2 : Nat) (dd dd2 : Option Addr) (sl sl2 : Array (Option Value)) (ns ms : List Int) (hi : IntsAre items.toList ns) (hj : IntsAre items2.toList ms) :
    Meets (Builtin.«tuple.__le__» ⟨[.ref l, .ref b], []⟩)
      (fun _ R s => s.heap.get? l = some { cls := .type "tuple", dict := dd, data := .seq items n, slots := sl } ∧ s.heap.get? b = some { cls := .type "tuple", dict := dd2, data := .seq items2 n2, slots := sl2 } ∧
        R (.ok (.ret (.bool (lexLe ns ms)))) s) :=
  .of_wp fun prog w A R s h => by
    obtain ⟨hp, g, d, tk, os⟩ := s; obtain ⟨hl, hb, h⟩ := h
    have f2 := AutoSeq1.sub_tuple_tuple
    have z1 : items.size = ns.length := by rw [← hi.length]; simp
    have z2 : items2.size = ms.length := by rw [← hj.length]; simp
    wp_walk using wpAny_loadPart' hl, wpAny_loadPart' hb, wpAny_forIn_list _ (fun rest b s' => b.1 = none ∧ s' = ⟨hp, g, d, tk, os⟩ ∧ ∃ (vs ws : List Value) (ns' ms' : List Int), rest = vs.zip ws ∧
      IntsAre vs ns' ∧ IntsAre ws ms' ∧ ns'.length + items2.size = ms'.length + items.size ∧ R (.ok (.ret (.bool (lexLe ns' ms')))) ⟨hp, g, d, tk, os⟩) _
    case turn =>
      rintro ⟨y, x⟩ rest b s' ⟨hb', rfl, vs, ws, ns', ms', hz, hvi, hwi, hlen, hR⟩
      cases hvi with
      | nil => rw [List.zip_nil_left] at hz; cases hz
      | cons a t hvi' =>
        cases hwi with
        | nil => rw [List.zip_nil_right] at hz; cases hz
        | cons c u hwi' =>
          rw [List.zip_cons_cons] at hz
          injection hz with hyx hrest
          injection hyx with hy hx
          subst hy hx
          rw [lexLe_cons] at hR
          simp only [List.length_cons] at hlen
          obtain ⟨e, he, hiff⟩ := HT.eqAt_int A.in1 ⟨hp, g, d, tk, os⟩ a t c u
          refine wpAny_bind (he prog w _ _ ?_)
          cases e with
          | true =>
            rw [if_pos (hiff.mp rfl)] at hR
            wp_walk
            exact ⟨rfl, rfl, _, _, _, _, hrest, hvi', hwi', by omega, hR⟩
          | false =>
            have hne : ¬ a = c := fun q => absurd (hiff.mpr q) Bool.false_ne_true
            rw [if_neg hne] at hR
            have hd : decide (a < c) = decide (a ≤ c) := by
              by_cases q : a ≤ c
              · rw [decide_eq_true q, decide_eq_true (by omega)]
              · rw [decide_eq_false q, decide_eq_false (by omega)]
            rw [hd] at hR
            have hri := rcLe_int A.in1 ⟨hp, g, d, tk, os⟩ a t c u prog w
            wp_walk using hri
            exact ⟨_, rfl, by simpa using hR⟩
    case fin =>
      rintro ⟨b1, b2⟩ s' ⟨hb', rfl, vs, ws, ns', ms', hz, hvi, hwi, hlen, hR⟩
      simp only at hb'
      subst hb'
      have hv : lexLe ns' ms' = decide (items.size ≤ items2.size) := by
        cases hvi with
        | nil =>
          simp only [List.length_nil] at hlen
          exact (decide_eq_true (by omega)).symm
        | cons a t hv =>
          cases hwi with
          | nil =>
            simp only [List.length_nil, List.length_cons] at hlen
            exact (decide_eq_false (by omega)).symm
          | cons c u hw =>
            rw [List.zip_cons_cons] at hz
            cases hz
      rw [hv] at hR
      wp_walk
      exact ⟨_, rfl, by simpa [Builtin.Tuple.tupleCompareSizes] using hR⟩
    case h =>
      exact ⟨rfl, rfl, items.toList, items2.toList, ns, ms, rfl, hi, hj, by omega, h⟩
end
section
variable {prog : Program} {w : World} {A : Around} {E : Value → Shared → Prop} {s : Shared}
theorem le_tupInts {l b : Addr} {items items2 : Array Value} {ns ms : List Int} {Q : Value → Shared → Prop} (hl : IsTup s.heap l items) (hb : IsTup s.heap b items2) (hi : IntsAre items.toList ns) (hj : IntsAre items2.toList ms)
    (hu : A.units < cLine) (h : Q (.bool (lexLe ns ms)) s) : wpAny (model prog w) A (compareOp .LtE (.ref l) (.ref b)) Q E s := by
  obtain ⟨⟨cls, dd, data, sl⟩, ho, hc, n, hd⟩ := id hl
  obtain ⟨⟨cls2, dd2, data2, sl2⟩, ho2, hc2, n2, hd2⟩ := id hb
  simp only at hc hd hc2 hd2
  subst hc hd hc2 hd2
  exact richCompare_meets_room (op := .LtE) ⟨_, ho, rfl⟩ ⟨_, ho2, rfl⟩ PySem.F.slot_tuple_le PySem.F.entry_tuple_le (PySem.F.args_tuple_le_2 _ _) (tuple_le_ints l b items items2 n n2 dd dd2 sl sl2 ns ms hi hj)
    ⟨ho, ho2, show Value.bool (lexLe ns ms) ≠ Value.notImplemented ∧ Q (.bool (lexLe ns ms)) s from ⟨(fun x => nomatch x), h⟩⟩ hu
end
section
variable {X : Cx}
def rLeT (K : PySem.W.Frag) : R2 := fun x y H Q => ∃ a b ns ms, x = .ref a ∧ y = .ref b ∧ SqT K H a (ns.map V.int) ∧ SqT K H b (ms.map V.int) ∧ Q (.bl (lexLe ns ms)) H
theorem op_leT (hu : X.A.units < cLine) : OpR X (compareOp .LtE) (rLeT X.K) := by
  intro pins s σ H x y v u Q I rx ry h
  obtain ⟨a, b, ns, ms, rfl, rfl, ha, hb, q⟩ := h
  cases rx
  cases ry
  obtain ⟨its, r1, p1, _⟩ := I.tuple ha
  obtain ⟨its2, r2, p2, _⟩ := I.tuple hb
  exact le_tupInts p1 p2 (intsAre_of r1) (intsAre_of r2) hu ⟨.bl (lexLe ns ms), H, I, rfl, q⟩

def dI (ns : List Int) : PyData := .list (ns.map PyData.int)
theorem dpAll_ints {K : PySem.W.Frag} {H : Hp} : ∀ ns : List Int, DpAll K H (ns.map V.int) (ns.map PyData.int)
  | [] => .nil
  | n :: ns => .cons (.int n) (dpAll_ints ns)
theorem dp_ints {K : PySem.W.Frag} {H : Hp} {a : Addr} {ns : List Int} (h : SqL K H a (ns.map V.int)) : Dp K H (.ref a) (dI ns) := .lst h (dpAll_ints ns)
theorem canAll_ints : ∀ ns : List Int, PyData.canLayAll0 (ns.map PyData.int) = true
  | [] => rfl
  | n :: ns => by
    rw [List.map_cons, PyData.canLayAll0, canAll_ints ns]; rfl
theorem depth_ints : ∀ ns : List Int, PyData.depthAll (ns.map PyData.int) = 0
  | [] => rfl
  | n :: ns => by
    rw [List.map_cons, PyData.depthAll, depth_ints ns]; rfl
theorem shaped_dI (ns : List Int) : SeqAt.shaped (dI ns) = true := by
  unfold SeqAt.shaped dI
  rw [PyData.canLay0, canAll_ints, PyData.depth, depth_ints]; rfl
theorem eqvAll_ints : ∀ ns ms : List Int, PyData.eqvAll (ns.map PyData.int) (ms.map PyData.int) = decide (ns = ms)
  | [], [] => by simp [PyData.eqvAll]
  | [], m :: ms => by simp [PyData.eqvAll]
  | n :: ns, [] => by simp [PyData.eqvAll]
  | n :: ns, m :: ms => by
    rw [List.map_cons, List.map_cons, PyData.eqvAll, eqvAll_ints ns ms, PyData.eqv]
    by_cases h : n = m
    · subst h; simp
    · simp [h]
theorem eqv_dI (ns ms : List Int) : PyData.eqv (dI ns) (dI ms) = decide (ns = ms) := by
  unfold dI; rw [PyData.eqv]; exact eqvAll_ints ns ms
def dT (ns : List Int) : PyData := .tuple (ns.map PyData.int)
theorem eqT {K : PySem.W.Frag} {H : Hp} {a b : Addr} {ns ms : List Int} {Q : VK} (ha : SqT K H a (ns.map V.int)) (hb : SqT K H b (ms.map V.int)) (q : Q (.bl (decide (ns = ms))) H) : rEqD K (.ref a) (.ref b) H Q := by
  have sh : ∀ l : List Int, SeqAt.shaped (dT l) = true := fun l => by
    unfold SeqAt.shaped dT
    rw [PyData.canLay0, canAll_ints, PyData.depth, depth_ints]; rfl
  refine ⟨dT ns, dT ms, .tup ha (dpAll_ints ns), .tup hb (dpAll_ints ms), sh ns, sh ms, ?_⟩
  have e : PyData.eqv (dT ns) (dT ms) = decide (ns = ms) := by unfold dT; rw [PyData.eqv]; exact eqvAll_ints ns ms
  rw [e]; exact q
def LsAt (K : PySem.W.Frag) (H : Hp) : List Addr → List (List Int) → Prop := Paired fun b ms => SqL K H b (ms.map V.int)
def rInD (K : PySem.W.Frag) (neg : Bool) : R2 := fun x y H Q => ∃ (a p : Addr) (ns : List Int) (as : List Addr) (mss : List (List Int)), x = .ref a ∧ y = .ref p ∧ SqL K H a (ns.map V.int) ∧ SqL K H p (as.map V.ref) ∧ LsAt K H as mss ∧
  Q (.bl (if neg = true then !mss.contains ns else mss.contains ns)) H
theorem vals_refs : ∀ {as : List Addr} {us : List Value}, Vals (as.map V.ref) us → us = as.map Value.ref
  | [], _, r => by cases r; rfl
  | a :: as, _, r => by
    rw [List.map_cons] at r
    cases r with
    | cons r1 r2 =>
      cases r1
      rw [vals_refs r2, List.map_cons]
theorem in_core {pins : List (Addr × Obj)} {σ : L2.St} {H : Hp} {s : Shared} (I : Inv X pins σ H s) (hu : X.A.units + 64 < cLine) {a : Addr} {ns : List Int} (ha : SqL X.K H a (ns.map V.int)) :
    ∃ e : Value → Bool, ∀ (as : List Addr) (mss : List (List Int)), LsAt X.K H as mss → (∀ y, y ∈ as.map Value.ref → SeqAt.EqAt X.A.in1 s y (.ref a) (e y)) ∧ (as.map Value.ref).any e = mss.contains ns := by
  classical
  obtain ⟨ars, ra⟩ := Dp.reads I (dI ns) (.ref a) (.ref a) (dp_ints ha) rfl
  refine ⟨fun y => decide (∃ (ms : List Int) (bs : List Addr), Reads s.heap y (dI ms) bs ∧ ms = ns), ?_⟩
  intro as mss h
  have one : ∀ (b : Addr) (ms : List Int), SqL X.K H b (ms.map V.int) → ∃ bs, Reads s.heap (.ref b) (dI ms) bs := fun b ms hb => Dp.reads I (dI ms) (.ref b) (.ref b) (dp_ints hb) rfl
  have val : ∀ (b : Addr) (ms : List Int), SqL X.K H b (ms.map V.int) → decide (∃ (ms' : List Int) (bs : List Addr), Reads s.heap (.ref b) (dI ms') bs ∧ ms' = ns) = decide (ms = ns) := by
    intro b ms hb
    obtain ⟨bs, rb⟩ := one b ms hb
    have iff : (∃ (ms' : List Int) (bs : List Addr), Reads s.heap (.ref b) (dI ms') bs ∧ ms' = ns) ↔ ms = ns := by
      constructor
      · rintro ⟨ms', bs', r', e⟩
        have q := SeqAt.Reads.unique _ _ _ _ _ (SeqAt.canLay_of_shaped (shaped_dI ms)) rb r'
        have q2 := congrArg (fun d => PyData.eqv (dI ms) d) q
        simp only [eqv_dI] at q2
        have q3 : ms = ms' := by simpa using q2
        rw [q3, e]
      · intro e; exact ⟨ms, bs, rb, e⟩
    by_cases q : ms = ns
    · rw [decide_eq_true q, decide_eq_true (iff.mpr q)]
    · rw [decide_eq_false q, decide_eq_false (fun z => q (iff.mp z))]
  induction h with
  | nil => exact ⟨fun y hy => by simp at hy, rfl⟩
  | cons hb t ih =>
    rename_i b ms as' mss'
    obtain ⟨i1, i2⟩ := ih
    refine ⟨fun y hy => ?_, ?_⟩
    · rw [List.map_cons] at hy
      rcases List.mem_cons.mp hy with rfl | hy
      · obtain ⟨bs, rb⟩ := one b ms hb
        have q := SeqAt.eqAt_reads (dI ms) (dI ns) X.A.in1 s (.ref b) (.ref a) bs ars rb ra (SeqAt.canLay_of_shaped (shaped_dI ms)) (SeqAt.canLay_of_shaped (shaped_dI ns)) (by
          have d1 : ∀ l : List Int, (dI l).depth = 1 := fun l => by unfold dI; rw [PyData.depth, depth_ints]
          show X.A.units + 1 + min (dI ms).depth (dI ns).depth < cLine
          rw [d1, d1]
          omega)
        rw [eqv_dI] at q
        show SeqAt.EqAt X.A.in1 s (Value.ref b) (Value.ref a) (decide (∃ (ms' : List Int) (bs : List Addr), Reads s.heap (.ref b) (dI ms') bs ∧ ms' = ns))
        rw [val b ms hb]
        exact q
      · exact i1 y hy
    · rw [List.map_cons, List.any_cons, i2, val b ms hb, List.contains_cons]
      congr 1
      by_cases q : ms = ns
      · subst q; simp
      · rw [decide_eq_false q]; exact (beq_eq_false_iff_ne.mpr fun z => q z.symm).symm
theorem op_inD (hu : X.A.units + 64 < cLine) : OpR X (compareOp .In) (rInD X.K false) := by
  intro pins s σ H x y v u Q I rx ry h
  obtain ⟨a, p, ns, as, mss, rfl, rfl, ha, hp, hm, q⟩ := h
  cases rx
  cases ry
  obtain ⟨e, he⟩ := in_core I hu ha
  obtain ⟨h1, h2⟩ := he as mss hm
  obtain ⟨its, r, pl, hz⟩ := I.list hp
  have ei := vals_refs r
  subst ei
  refine SeqAt.in_listAt e pl.isList (fun w hw => h1 w (by simpa using hw)) ⟨.bl _, H, I, rfl, ?_⟩
  rw [show (as.map Value.ref).toArray.any e = (as.map Value.ref).any e by simp, h2]
  exact q
end
end Pg
namespace Pg
open PySem PySem.Spec PyProof.Rows L2
def FIn (K : PySem.W.Frag) (mg : Str → Option Value) (x qual : Str) (st : Stmt) (ps : List Str) : Prop :=
  ∃ (f : Addr) (fd : FuncData), Fun K x qual st f fd ∧ mg x = some (.ref f) ∧ ∀ us : List Value, us.length = ps.length → bindArgs fd ⟨us, []⟩ = pure (ps.zip us)
def CIn (K : PySem.W.Frag) (mg : Str → Option Value) (C : Addr) (x qual : Str) (st : Stmt) (ps : List Str) : Prop :=
  ∃ (f : Addr) (fd : FuncData), Mk K C f ∧ Fun K "__init__" qual st f fd ∧ mg x = some (.ref C) ∧ Binds K fd ps []
section
variable {P : Program} {w : World} {K : PySem.W.Frag} {mg : Str → Option Value} {base : Heap} {x qual : Str} {st : Stmt} {ps : List Str} {k : Nat} {sp : Sp} {C : Addr}
theorem FIn.ok (h : FIn K mg x qual st ps) (g : ∀ (f : Addr) (fd : FuncData), Fun K x qual st f fd → FnOk P w K mg base CX0 k f fd ps sp) : OkF P w K mg base k x ps sp := by
  obtain ⟨f, fd, F, m, b⟩ := h
  exact ⟨f, fd, g f fd F, m, F.kp, .all b⟩
theorem CIn.ok (h : CIn K mg C x qual st ps) (g : ∀ (f : Addr) (fd : FuncData), Fun K "__init__" qual st f fd → FnOk P w K mg base CX0 k f fd ps sp) : OkC P w K mg base k x C ps sp := by
  obtain ⟨f, fd, M, F, m, b⟩ := h
  exact ⟨f, fd, M, g f fd F, m, b⟩
theorem fin_mk {h : Heap} (X : K.In h) (G : h.Ns mainGlobals mg) {f : Addr} {oc : Value} {od an : Option Addr} {osl : Array (Option Value)} {kV doc pm cdv ct : Value} (a : PySem.W.nsIn K mainGlobals x = some (some (.ref f)))
    (l : K.lookup f = some ⟨oc, od, .func (PySem.W.fnOf x qual (defArgs st) (defBody st) (defScope st) .none kV doc pm an cdv ct), osl⟩) (c : PySem.W.codeIn K cdv qual = true) (kp : PySem.W.keepIn K (.ref f) = true)
    (hb : ∀ (kV doc pm : Value) (an : Option Addr) (cdv ct : Value) (us : List Value), us.length = ps.length → bindArgs (PySem.W.fnOf x qual (defArgs st) (defBody st) (defScope st) .none kV doc pm an cdv ct) ⟨us, []⟩ = pure (ps.zip us)) : FIn K mg x qual st ps :=
  ⟨f, _, fun_mk l c kp, PySem.W.mg_of X G a, hb kV doc pm an cdv ct⟩
theorem cin_mk {h : Heap} (X : K.In h) (G : h.Ns mainGlobals mg) {f : Addr} {oc : Value} {od an : Option Addr} {osl : Array (Option Value)} {kV doc pm cdv ct : Value} (aC : PySem.W.nsIn K mainGlobals x = some (some (.ref C)))
    (a : PySem.W.findIn K (.ref C) "__init__" = some (some (.ref f))) (i : PySem.W.isFn K (.ref f) = true)
    (l : K.lookup f = some ⟨oc, od, .func (PySem.W.fnOf "__init__" qual (defArgs st) (defBody st) (defScope st) .none kV doc pm an cdv ct), osl⟩) (c : PySem.W.codeIn K cdv qual = true) (kp : PySem.W.keepIn K (.ref f) = true)
    (mk : PySem.W.makesIn K C = true) (kc : PySem.W.keepIn K (.ref C) = true)
    (hb : ∀ (kV doc pm : Value) (an : Option Addr) (cdv ct : Value) (us : List Value), us.length = ps.length → bindArgs (PySem.W.fnOf "__init__" qual (defArgs st) (defBody st) (defScope st) .none kV doc pm an cdv ct) ⟨us, []⟩ = pure (ps.zip us)) : CIn K mg C x qual st ps :=
  ⟨f, _, ⟨mk, a, i, kc⟩, fun_mk l c kp, PySem.W.mg_of X G aC, (fun_mk l c kp).binds hb⟩
theorem gv_mk {h : Heap} (X : K.In h) (G : h.Ns mainGlobals mg) {v : V} {u : Value} (a : PySem.W.nsIn K mainGlobals x = some (some u)) (r : RelV v u) : GV mg x v := ⟨u, PySem.W.mg_of X G a, r⟩
end
end Pg

end
section
set_option Elab.async false
set_option linter.all false
set_option maxRecDepth 100000
set_option maxHeartbeats 2000000
namespace Pg
open PySem PySem.Spec PyProof.Rows L2
section
variable {prog : Program} {w : World} {κ : Type} [DecidableEq κ] {knd : HeapKind prog w κ} {A : Around} {E : Value → Shared → Prop} {s : Shared}
end
end Pg

end
section
set_option Elab.async false
set_option linter.all false
set_option maxRecDepth 100000
set_option maxHeartbeats 2000000
namespace Pg
open PySem PySem.Spec PyProof.Rows L2
section
variable {prog : Program} {w : World} {A : Around} {E : Value → Shared → Prop} {s : Shared}
end
section
variable {X : Cx}
end
end Pg

end
section
set_option Elab.async false
set_option linter.all false
set_option maxRecDepth 100000
set_option maxHeartbeats 2000000
namespace Pg
open PySem PySem.Spec PyProof.Rows L2
open Gh (Bytes Name Draft Fault Signs isSmall isDigit isBig nameOf)
open Gm
def bi (w : Bytes) : List Int := w.map fun c => (c.toNat : Int)
def bv (w : Bytes) : List V := (bi w).map V.int
theorem bv_len (w : Bytes) : (bv w).length = w.length := by simp [bv, bi]
theorem bv_get {w : Bytes} {i : Nat} {c : UInt8} (h : w[i]? = some c) : (bv w)[i]? = some (.int c.toNat) := by simp [bv, bi, h]
theorem bv_cons (c : UInt8) (w : Bytes) : bv (c :: w) = .int c.toNat :: bv w := rfl
theorem bi_inj {w u : Bytes} (h : bi w = bi u) : w = u := by
  unfold bi at h
  induction w generalizing u with
  | nil => cases u with
    | nil => rfl
    | cons b u => simp at h
  | cons a w ih =>
    cases u with
    | nil => simp at h
    | cons b u =>
      simp only [List.map_cons, List.cons.injEq] at h
      have e : a = b := u8_ext (Int.ofNat.inj h.1)
      rw [e, ih h.2]
theorem bi_eq (w u : Bytes) : decide (bi w = bi u) = decide (w = u) := by
  by_cases h : w = u
  · subst h; simp
  · rw [decide_eq_false h, decide_eq_false fun q => h (bi_inj q)]
theorem bv_drop (w : Bytes) (i : Nat) : (bv w).drop i = bv (w.drop i) := by simp [bv, bi]
theorem bv_take (w : Bytes) (i : Nat) : (bv w).take i = bv (w.take i) := by simp [bv, bi]
theorem cut_bv {w : Bytes} {i j : Nat} (hi : i ≤ w.length) (hj : j ≤ w.length) : cutV (bv w) (some (i : Int)) (some (j : Int)) = bv ((w.drop i).take (j - i)) := by
  unfold cutV HT.sIx
  simp only
  rw [if_neg (by omega), if_neg (by omega), bv_drop, bv_take, bv_len]
  have e1 : min ((i : Int).toNat) w.length = i := by rw [Int.toNat_natCast]; omega
  have e2 : min ((j : Int).toNat) w.length = j := by rw [Int.toNat_natCast]; omega
  rw [e1, e2]
structure Ad where
  c_Sign : Addr
  c_Reading : Addr
  a_SIGN_WORD : Addr
  a_SIDES : Addr
  a_SIDES_AND_CORNERS : Addr
structure TxC (K : PySem.W.Frag) (ad : Ad) : Prop where
  clS : Cls K ad.c_Sign
  clR : Cls K ad.c_Reading
  s_place : NoAttr K ad.c_Sign "place"
  s_name : NoAttr K ad.c_Sign "name"
  s_sounds : NoAttr K ad.c_Sign "sounds"
  s_rows : NoAttr K ad.c_Sign "rows"
  r_too_long : NoAttr K ad.c_Reading "too_long"
  r_signs : NoAttr K ad.c_Reading "signs"
  r_fault : NoAttr K ad.c_Reading "fault"
  w_sign : ∀ H, SqT K H ad.a_SIGN_WORD ((bi Gh.SIGN).map V.int)
def WordAt (H : Hp) (a : Addr) (w : Nat × Bytes) : Prop := ∃ b, H a = some (.tup [.int w.1, .ref b]) ∧ H b = some (.lst (bv w.2))
def WordsAt (H : Hp) (p : Addr) (ws : List (Nat × Bytes)) : Prop := ∃ as, H p = some (.lst (as.map V.ref)) ∧ Paired (WordAt H) as ws
def RowsAt (H : Hp) : List Addr → List (List Bool) → Prop := Paired fun a r => H a = some (.lst (bv (cellBytes r)))
def FaultAt (H : Hp) (v : V) : Option Fault → Prop
  | none => v = .non
  | some f => ∃ a, v = .ref a ∧ H a = some (.tup [.int f.1, .int f.2])
def nameV (n : Name) : List Int := [n.big.toNat, n.small.toNat, n.number, n.kind.toNat]
def KeyAt (H : Hp) (v : V) : Option Name → Prop
  | none => v = .non
  | some n => ∃ a, v = .ref a ∧ H a = some (.tup ((nameV n).map V.int))
def sgF (p : Int) (n s r : Addr) : List (Str × V) := [("place", .int p), ("name", .ref n), ("sounds", .ref s), ("rows", .ref r)]
def rdF (b : Bool) (s : Addr) (v : V) : List (Str × V) := [("too_long", .bl b), ("signs", .ref s), ("fault", v)]
def BytesAt (H : Hp) : List Addr → List Bytes → Prop := Paired fun a w => H a = some (.lst (bv w))
structure SgAt (C : Addr) (H : Hp) (ok : Addr → Prop) (a r : Addr) (p : Nat) (nm : Bytes) (sd : List Bytes) (rows : List (List Bool)) : Prop where
  ex : ∃ (dx n so : Addr) (ss as : List Addr), H a = some (.ins C dx (sgF p n so r)) ∧ H n = some (.lst (bv nm)) ∧ ok n ∧ H so = some (.lst (ss.map V.ref)) ∧ ok so ∧ BytesAt H ss sd ∧ (∀ b ∈ ss, ok b) ∧ H r = some (.lst (as.map V.ref)) ∧ RowsAt H as rows ∧ ∀ b ∈ as, ok b
def DoneAt (C : Addr) (H : Hp) (ok : Addr → Prop) : List Addr → Signs → Prop := Paired fun a s => ∃ r p, SgAt C H ok a r p s.name.text s.sounds s.shape.rows ∧ ok r
def SignsAt (C : Addr) (H : Hp) (F : Addr → Prop) (S : Addr) (z : Gh.Reading) : Prop := ¬ F S ∧ match z.now with
  | none => H S = some (.lst []) ∧ z.done = []
  | some d => ∃ (ds : List Addr) (a r : Addr), H S = some (.lst ((ds ++ [a]).map V.ref)) ∧ ¬ F r ∧ r ≠ S ∧ DoneAt C H (fun b => b ≠ S ∧ b ≠ r) ds z.done ∧ SgAt C H (fun b => b ≠ S ∧ b ≠ r) a r d.place d.name.text d.sounds d.rows
def ListAt (C : Addr) (H : Hp) (S : Addr) (l : Signs) : Prop := ∃ as, H S = some (.lst (as.map V.ref)) ∧ DoneAt C H (fun _ => True) as l
def ReadAt (ad : Ad) (H : Hp) (x : Addr) (r : Except Fault Signs) : Prop := ∃ dx S v, H x = some (.ins ad.c_Reading dx (rdF false S v)) ∧ match r with
  | .error f => FaultAt H v (some f)
  | .ok l => v = .non ∧ ListAt ad.c_Sign H S l
def MOST : Nat := 100000
def lineEnd (t : Bytes) (i : Nat) : Nat := i + ((t.drop i).takeWhile (fun x => decide (x ≠ 10))).length
def digitEnd (t : Bytes) (i : Nat) : Nat := i + ((t.drop i).takeWhile isDigit).length
def sp_Sign (K : PySem.W.Frag) (ad : Ad) : Sp := fun vs H Q _ => ∃ (x dx n so : Addr) (p : Nat), vs = [.ref x, .int p, .ref n, .ref so] ∧ H x = some (.ins ad.c_Sign dx []) ∧
  ∀ (H' : Hp) (r : Addr), H' x = some (.ins ad.c_Sign dx (sgF p n so r)) → H r = none → H' r = some (.lst []) → (∀ b o, H b = some o → b ≠ x → H' b = some o) → Q .non H'
def sp_Reading (K : PySem.W.Frag) (ad : Ad) : Sp := fun vs H Q _ => ∃ (x dx : Addr) (b : Bool), vs = [.ref x, .bl b] ∧ H x = some (.ins ad.c_Reading dx []) ∧
  ∀ (H' : Hp) (s : Addr), H' x = some (.ins ad.c_Reading dx (rdF b s .non)) → H s = none → H' s = some (.lst []) → (∀ b o, H b = some o → b ≠ x → H' b = some o) → Q .non H'
def sp_line_end (K : PySem.W.Frag) (ad : Ad) : Sp := fun vs H Q _ => ∃ (a : Addr) (t : Bytes) (i : Nat), vs = [.ref a, .int i] ∧ SqL K H a (bv t) ∧ i ≤ t.length ∧ Q (.int (lineEnd t i : Nat)) H
def sp_split_words (K : PySem.W.Frag) (ad : Ad) : Sp := fun vs H Q _ => ∃ (a : Addr) (t : Bytes) (p e : Nat), vs = [.ref a, .int p, .int e] ∧ SqL K H a (bv t) ∧ p ≤ e ∧ e ≤ t.length ∧ t.length ≤ MOST ∧
  ∀ (H' : Hp) (w : Addr), Same H H' → WordsAt H' w (Gh.cut 32 p [] ((t.drop p).take (e - p))) → Q (.ref w) H'
def sp_has_bare_rim (K : PySem.W.Frag) (ad : Ad) : Sp := fun vs H Q _ => ∃ (r : Addr) (as : List Addr) (rows : List (List Bool)), vs = [.ref r] ∧ H r = some (.lst (as.map V.ref)) ∧ RowsAt H as rows ∧ rows ≠ [] ∧ (∀ x ∈ rows, x ≠ []) ∧ rows.length ≤ 32 ∧
  ∀ H' : Hp, Same H H' → Q (.bl (bareRim rows)) H'
def sp_whole_sign_fault (K : PySem.W.Frag) (ad : Ad) : Sp := fun vs H Q _ => ∃ (a r : Addr) (p : Nat) (ok : Addr → Prop) (d : Draft), vs = [.ref a, .int p] ∧ SgAt ad.c_Sign H ok a r d.place d.name.text d.sounds d.rows ∧ GoodD d ∧
  ∀ (H' : Hp) (v : V), Same H H' → FaultAt H' v (wholeFault d p) → Q v H'
def sp_is_small_letter (K : PySem.W.Frag) (ad : Ad) : Sp := fun vs H Q _ => ∃ c : UInt8, vs = [.int c.toNat] ∧ Q (.bl (isSmall c)) H
def sp_small_letter_at (K : PySem.W.Frag) (ad : Ad) : Sp := fun vs H Q _ => ∃ (a : Addr) (w : Bytes) (i : Nat), vs = [.ref a, .int i] ∧ SqL K H a (bv w) ∧ Q (.int (sl w i).toNat) H
def sp_digit_run_end (K : PySem.W.Frag) (ad : Ad) : Sp := fun vs H Q _ => ∃ (a : Addr) (w : Bytes) (i : Nat), vs = [.ref a, .int i] ∧ SqL K H a (bv w) ∧ i ≤ w.length ∧ Q (.int (digitEnd w i : Nat)) H
def sp_number_of (K : PySem.W.Frag) (ad : Ad) : Sp := fun vs H Q _ => ∃ (a : Addr) (d : Bytes), vs = [.ref a] ∧ SqL K H a (bv d) ∧ (∀ c ∈ d, isDigit c = true) ∧ Q (.int (numM d : Nat)) H
def sp_name_key (K : PySem.W.Frag) (ad : Ad) : Sp := fun vs H Q _ => ∃ (a : Addr) (w : Bytes), vs = [.ref a] ∧ SqL K H a (bv w) ∧ ∀ (H' : Hp) (v : V), Same H H' → KeyAt H' v (nameOf w) → Q v H'
def sp_name_fault (K : PySem.W.Frag) (ad : Ad) : Sp := fun vs H Q _ => ∃ (w S : Addr) (e : Nat) (f : Nat × Bytes) (r : List (Nat × Bytes)) (F : Addr → Prop) (z : Gh.Reading), vs = [.ref w, .int e, .ref S] ∧ WordsAt H w (f :: r) ∧ SignsAt ad.c_Sign H F S z ∧ Good z ∧
  ∀ (H' : Hp) (v : V), Same H H' → FaultAt H' v (nameFault (prevName z) e r) → Q v H'
def sp_is_sound (K : PySem.W.Frag) (ad : Ad) : Sp := fun vs H Q _ => ∃ (a : Addr) (w : Bytes), vs = [.ref a] ∧ SqL K H a (bv w) ∧ ∀ H' : Hp, Same H H' → Q (.bl (Gh.isSound w)) H'
def sp_sounds_fault (K : PySem.W.Frag) (ad : Ad) : Sp := fun vs H Q _ => ∃ (w : Addr) (u : List (Nat × Bytes)), vs = [.ref w] ∧ WordsAt H w u ∧ ∀ (H' : Hp) (v : V), Same H H' → FaultAt H' v (soundsFault [] u) → Q v H'
def sp_sign_line_fault (K : PySem.W.Frag) (ad : Ad) : Sp := fun vs H Q _ => ∃ (w S : Addr) (p e : Nat) (f : Nat × Bytes) (r : List (Nat × Bytes)) (F : Addr → Prop) (z : Gh.Reading), vs = [.ref w, .int p, .int e, .ref S] ∧ WordsAt H w (f :: r) ∧ SignsAt ad.c_Sign H F S z ∧ Good z ∧
  ∀ (H' : Hp) (v : V), Same H H' → FaultAt H' v (signFault z p e r) → Q v H'
def LineAt (ad : Ad) (H : Hp) (F : Addr → Prop) (S : Addr) (v : V) : Except Fault Gh.Reading → Prop
  | .error f => FaultAt H v (some f)
  | .ok z => v = .non ∧ SignsAt ad.c_Sign H F S z
def Keeps (F : Addr → Prop) (H H' : Hp) : Prop := ∀ b o, F b → H b = some o → H' b = some o
def sp_take_sign_line (K : PySem.W.Frag) (ad : Ad) : Sp := fun vs H Q _ => ∃ (w S : Addr) (p e : Nat) (f : Nat × Bytes) (r : List (Nat × Bytes)) (F : Addr → Prop) (z : Gh.Reading), vs = [.ref w, .int p, .int e, .ref S] ∧ WordsAt H w (f :: r) ∧ SignsAt ad.c_Sign H F S z ∧ Good z ∧ (∀ b, F b → H b ≠ none) ∧
  ∀ (H' : Hp) (v : V), Keeps F H H' → LineAt ad H' F S v (signLine z p e r) → Q v H'
def sp_row_fault (K : PySem.W.Frag) (ad : Ad) : Sp := fun vs H Q _ => ∃ (b r : Addr) (p : Nat) (l : Bytes) (as : List Addr) (rows : List (List Bool)), vs = [.ref b, .int p, .ref r] ∧ SqL K H b (bv l) ∧ H r = some (.lst (as.map V.ref)) ∧ RowsAt H as rows ∧
  ∀ (H' : Hp) (v : V), Same H H' → FaultAt H' v (rowFault p l rows) → Q v H'
def sp_take_row (K : PySem.W.Frag) (ad : Ad) : Sp := fun vs H Q _ => ∃ (b S : Addr) (p : Nat) (l : Bytes) (F : Addr → Prop) (z : Gh.Reading), vs = [.ref b, .int p, .ref S] ∧ H b = some (.lst (bv l)) ∧ SignsAt ad.c_Sign H F S z ∧ Good z ∧ (∀ b, F b → H b ≠ none) ∧
  ∀ (H' : Hp) (v : V), Keeps F H H' → LineAt ad H' F S v (rowLine z p l) → Q v H'
def sp_take_line (K : PySem.W.Frag) (ad : Ad) : Sp := fun vs H Q _ => ∃ (a S : Addr) (t : Bytes) (p e : Nat) (F : Addr → Prop) (z : Gh.Reading), vs = [.ref a, .int p, .int e, .ref S] ∧ SqL K H a (bv t) ∧ p ≤ e ∧ e ≤ t.length ∧ t.length ≤ MOST ∧ SignsAt ad.c_Sign H F S z ∧ Good z ∧ (∀ b, F b → H b ≠ none) ∧
  ∀ (H' : Hp) (v : V), Keeps F H H' → LineAt ad H' F S v (Gh.lineAt z p e ((t.drop p).take (e - p))) → Q v H'
def sp_text_end_fault (K : PySem.W.Frag) (ad : Ad) : Sp := fun vs H Q _ => ∃ (S : Addr) (n : Nat) (F : Addr → Prop) (z : Gh.Reading), vs = [.ref S, .int n] ∧ SignsAt ad.c_Sign H F S z ∧ Good z ∧
  ∀ (H' : Hp) (v : V), Same H H' → FaultAt H' v (textEndFault z n) → Q v H'
def sp_read_list (K : PySem.W.Frag) (ad : Ad) : Sp := fun vs H Q _ => ∃ (a : Addr) (t : Bytes), vs = [.ref a] ∧ SqL K H a (bv t) ∧ t.length ≤ MOST ∧
  ∀ (H' : Hp) (x : Addr), Same H H' → ReadAt ad H' x (Gh.readList t) → Q (.ref x) H'
def refOf : Except Fault Signs → Int
  | .error _ => -6
  | .ok _ => 0
def refAt (k : Nat) : Except Fault Signs → Int
  | .error _ => -6
  | .ok l => if l.length ≤ k then -4 else 0
def sp_text_refusal (K : PySem.W.Frag) (ad : Ad) : Sp := fun vs H Q _ => ∃ (x : Addr) (r : Except Fault Signs), vs = [.ref x] ∧ ReadAt ad H x r ∧ Q (.int (refOf r)) H
def sp_sign_refusal (K : PySem.W.Frag) (ad : Ad) : Sp := fun vs H Q _ => ∃ (x : Addr) (r : Except Fault Signs) (k : Nat), vs = [.ref x, .int k] ∧ ReadAt ad H x r ∧ Q (.int (refAt k r)) H
def judgeOf (t : Bytes) : List Int := match Gh.readList t with
  | .error e => [-6, e.1, e.2]
  | .ok l => [(l.length : Int)]
def Tells (H : Hp) (Q : VK) (l : List Int) : Prop := ∀ (H' : Hp) (p : Addr), H' p = some (.lst (l.map V.int)) → Q (.ref p) H'
def ofSign (t : Bytes) (k : Nat) (f : Gh.Sign → List Int) : List Int := match Gh.readList t with
  | .error _ => [-6]
  | .ok l => match l[k]? with
    | none => [-4]
    | some s => f s
def withLen (w : Bytes) : List Int := (w.length : Int) :: bi w
def sp_name (K : PySem.W.Frag) (ad : Ad) : Sp := fun vs H Q _ => ∃ (a : Addr) (t : Bytes) (k : Nat), vs = [.int k, .ref a] ∧ SqL K H a (bv t) ∧ t.length ≤ MOST ∧ Tells H Q (ofSign t k fun s => withLen s.name.text)
def key (p : IC) : List Key := [Sum.inl p.1, Sum.inl p.2]
def sp_counted (K : PySem.W.Frag) (ad : Ad) : Sp := fun vs H Q _ => ∃ (a : Addr) (w : Bytes), vs = [.ref a] ∧ H a = some (.lst (bv w)) ∧ w.length < MOST ∧ Tells H Q (withLen w)
end Pg

end
section
set_option linter.all false
set_option maxRecDepth 100000
namespace Pg
open PySem PySem.Spec PyProof.Rows L2
def N_Sign : List Str := ["self", "place", "name", "sounds"]
def wp_Sign (K : PySem.W.Frag) (ad : Ad) : TS :=
  (tSeq (sFld K (tVar 0) (tVar 1) "place")
    (tSeq (sFld K (tVar 0) (tVar 2) "name")
    (tSeq (sFld K (tVar 0) (tVar 3) "sounds")
    (sFld K (tVar 0) (tLst tNil) "rows"))))
def N_Reading : List Str := ["self", "too_long"]
def wp_Reading (K : PySem.W.Frag) (ad : Ad) : TS :=
  (tSeq (sFld K (tVar 0) (tVar 1) "too_long")
    (tSeq (sFld K (tVar 0) (tLst tNil) "signs")
    (sFld K (tVar 0) (tC .non) "fault")))
def N_line_end : List Str := ["t", "start", "end"]
def wp_line_end (K : PySem.W.Frag) (ad : Ad) : TS :=
  (tSeq (tAsg (tVar 1) (gName 2))
    (tSeq (tWhile (tAnd (tTest (tOp rLt (tVar 2) (tCB (rLen K) (tCons (tVar 0) tNil)))) (tTest (tOp rNe (tOp (rIxL K) (tVar 0) (tVar 2)) (tC (.int 10))))) (tAsg (tOp rPlus (tVar 2) (tC (.int 1))) (gName 2)))
    (tRet (tVar 2))))
def N_split_words : List Str := ["t", "start", "end", "words", "word_start", "at"]
def wp_split_words (K : PySem.W.Frag) (ad : Ad) : TS :=
  (tSeq (tAsg (tLst tNil) (gName 3))
    (tSeq (tAsg (tVar 1) (gName 4))
    (tSeq (tFor (iRng2 (tCons (tVar 1) (tCons (tVar 2) tNil))) (gName 5) (tIfS (tTest (tOp rEq (tOp (rIxL K) (tVar 0) (tVar 5)) (tC (.int 32)))) (tSeq (tDrop (tBM K "list" rAppend (tVar 3) (tCons (tTup (tCons (tVar 4) (tCons (tSl (rSlL K) (tVar 0) (tPart (tVar 4)) (tPart (tVar 5))) tNil))) tNil)))
    (tAsg (tOp rPlus (tVar 5) (tC (.int 1))) (gName 4))) tNext))
    (tSeq (tDrop (tBM K "list" rAppend (tVar 3) (tCons (tTup (tCons (tVar 4) (tCons (tSl (rSlL K) (tVar 0) (tPart (tVar 4)) (tPart (tVar 2))) tNil))) tNil)))
    (tRet (tVar 3))))))
def N_has_bare_rim : List Str := ["rows", "left", "row", "right", "side"]
def wp_has_bare_rim (K : PySem.W.Frag) (ad : Ad) : TS :=
  (tSeq (tAsg (tLc (iList K (tVar 0)) (gName 2) tYes (tOp (rIxL K) (tVar 2) (tC (.int 0))) [2]) (gName 1))
    (tSeq (tAsg (tLc (iList K (tVar 0)) (gName 2) tYes (tOp (rIxL K) (tVar 2) (tUn rNeg (tC (.int 1)))) [2]) (gName 3))
    (tRet (tCB (rAny K) (tCons (tLc (iTup K (tTup (tCons (tOp (rIxL K) (tVar 0) (tC (.int 0))) (tCons (tOp (rIxL K) (tVar 0) (tUn rNeg (tC (.int 1)))) (tCons (tVar 1) (tCons (tVar 3) tNil)))))) (gName 4) tYes (tOp (rIn K true) (tC (.int 35)) (tVar 4)) [4]) tNil)))))
def N_whole_sign_fault : List Str := ["sign", "place"]
def wp_whole_sign_fault (K : PySem.W.Frag) (ad : Ad) : TS :=
  (tSeq (tIfS (tTest (tOp rEq (tCB (rLen K) (tCons (tFld K (tVar 0) "rows") tNil)) (tC (.int 0)))) (tRet (tTup (tCons (tC (.int 1)) (tCons (tVar 1) tNil)))) tNext)
    (tSeq (tIfS (tB (tCall (sp_has_bare_rim K ad) [] E0 (tCons (tFld K (tVar 0) "rows") tNil))) (tRet (tTup (tCons (tC (.int 4)) (tCons (tFld K (tVar 0) "place") tNil)))) tNext)
    (tRet (tC .non))))
def N_is_small_letter : List Str := ["value"]
def wp_is_small_letter (K : PySem.W.Frag) (ad : Ad) : TS :=
  (tRet (tChain rLe rLe (tC (.int 97)) (tVar 0) (tC (.int 122))))
def N_small_letter_at : List Str := ["word", "at"]
def wp_small_letter_at (K : PySem.W.Frag) (ad : Ad) : TS :=
  (tSeq (tIfS (tAnd (tTest (tOp rLt (tVar 1) (tCB (rLen K) (tCons (tVar 0) tNil)))) (tB (tCall (sp_is_small_letter K ad) [] E0 (tCons (tOp (rIxL K) (tVar 0) (tVar 1)) tNil)))) (tRet (tOp (rIxL K) (tVar 0) (tVar 1))) tNext)
    (tRet (tC (.int 0))))
def N_digit_run_end : List Str := ["word", "start", "end"]
def wp_digit_run_end (K : PySem.W.Frag) (ad : Ad) : TS :=
  (tSeq (tAsg (tVar 1) (gName 2))
    (tSeq (tWhile (tAnd (tTest (tOp rLt (tVar 2) (tCB (rLen K) (tCons (tVar 0) tNil)))) (tTest (tChain rLe rLe (tC (.int 48)) (tOp (rIxL K) (tVar 0) (tVar 2)) (tC (.int 57))))) (tAsg (tOp rPlus (tVar 2) (tC (.int 1))) (gName 2)))
    (tRet (tVar 2))))
def N_number_of : List Str := ["digits", "number", "digit"]
def wp_number_of (K : PySem.W.Frag) (ad : Ad) : TS :=
  (tSeq (tIfS (tOr (tTest (tOp rEq (tCB (rLen K) (tCons (tVar 0) tNil)) (tC (.int 0)))) (tOr (tTest (tOp rGt (tCB (rLen K) (tCons (tVar 0) tNil)) (tC (.int 3)))) (tTest (tOp rEq (tOp (rIxL K) (tVar 0) (tC (.int 0))) (tC (.int 48)))))) (tRet (tC (.int 0))) tNext)
    (tSeq (tAsg (tC (.int 0)) (gName 1))
    (tSeq (tFor (iList K (tVar 0)) (gName 2) (tAsg (tOp rMinus (tOp rPlus (tOp rTimes (tVar 1) (tC (.int 10))) (tVar 2)) (tC (.int 48))) (gName 1)))
    (tRet (tVar 1)))))
def N_name_key : List Str := ["word", "second", "digits_start", "digits_end", "number", "kind", "name_end"]
def wp_name_key (K : PySem.W.Frag) (ad : Ad) : TS :=
  (tSeq (tIfS (tOr (tTest (tOp rEq (tCB (rLen K) (tCons (tVar 0) tNil)) (tC (.int 0)))) (tNot (tTest (tChain rLe rLe (tC (.int 65)) (tOp (rIxL K) (tVar 0) (tC (.int 0))) (tC (.int 90)))))) (tRet (tC .non)) tNext)
    (tSeq (tAsg (tCall (sp_small_letter_at K ad) [] E0 (tCons (tVar 0) (tCons (tC (.int 1)) tNil))) (gName 1))
    (tSeq (tAsg (tIf (tTest (tOp rEq (tVar 1) (tC (.int 0)))) (tC (.int 1)) (tC (.int 2))) (gName 2))
    (tSeq (tAsg (tCall (sp_digit_run_end K ad) [] E0 (tCons (tVar 0) (tCons (tVar 2) tNil))) (gName 3))
    (tSeq (tAsg (tCall (sp_number_of K ad) [] E0 (tCons (tSl (rSlL K) (tVar 0) (tPart (tVar 2)) (tPart (tVar 3))) tNil)) (gName 4))
    (tSeq (tAsg (tCall (sp_small_letter_at K ad) [] E0 (tCons (tVar 0) (tCons (tVar 3) tNil))) (gName 5))
    (tSeq (tAsg (tIf (tTest (tOp rEq (tVar 5) (tC (.int 0)))) (tVar 3) (tOp rPlus (tVar 3) (tC (.int 1)))) (gName 6))
    (tSeq (tIfS (tOr (tTest (tOp rEq (tVar 4) (tC (.int 0)))) (tTest (tOp rNe (tVar 6) (tCB (rLen K) (tCons (tVar 0) tNil))))) (tRet (tC .non)) tNext)
    (tRet (tTup (tCons (tOp (rIxL K) (tVar 0) (tC (.int 0))) (tCons (tVar 1) (tCons (tVar 4) (tCons (tVar 5) tNil))))))))))))))
def N_name_fault : List Str := ["words", "end", "signs", "key"]
def wp_name_fault (K : PySem.W.Frag) (ad : Ad) : TS :=
  (tSeq (tIfS (tTest (tOp rEq (tCB (rLen K) (tCons (tVar 0) tNil)) (tC (.int 1)))) (tRet (tTup (tCons (tC (.int 1)) (tCons (tVar 1) tNil)))) tNext)
    (tSeq (tAsg (tCall (sp_name_key K ad) [] E0 (tCons (tOp (rIxT K) (tOp (rIxL K) (tVar 0) (tC (.int 1))) (tC (.int 1))) tNil)) (gName 3))
    (tSeq (tIfS (tTest (tOp rIsN (tVar 3) (tC .non))) (tRet (tTup (tCons (tC (.int 1)) (tCons (tOp (rIxT K) (tOp (rIxL K) (tVar 0) (tC (.int 1))) (tC (.int 0))) tNil)))) tNext)
    (tSeq (tIfS (tAnd (tTest (tOp rGt (tCB (rLen K) (tCons (tVar 2) tNil)) (tC (.int 0)))) (tTest (tOp (rLeT K) (tVar 3) (tCall (sp_name_key K ad) [] E0 (tCons (tFld K (tOp (rIxL K) (tVar 2) (tUn rNeg (tC (.int 1)))) "name") tNil))))) (tRet (tTup (tCons (tC (.int 2)) (tCons (tOp (rIxT K) (tOp (rIxL K) (tVar 0) (tC (.int 1))) (tC (.int 0))) tNil)))) tNext)
    (tRet (tC .non))))))
def N_is_sound : List Str := ["word", "value"]
def wp_is_sound (K : PySem.W.Frag) (ad : Ad) : TS :=
  (tRet (tAndV (tChain rLe rLe (tC (.int 1)) (tCB (rLen K) (tCons (tVar 0) tNil)) (tC (.int 8))) (tCB (rAll K) (tCons (tLc (iList K (tVar 0)) (gName 1) tYes (tCall (sp_is_small_letter K ad) [] E0 (tCons (tVar 1) tNil)) [1]) tNil))))
def N_sounds_fault : List Str := ["words", "sounds", "place", "word"]
def wp_sounds_fault (K : PySem.W.Frag) (ad : Ad) : TS :=
  (tSeq (tAsg (tLst tNil) (gName 1))
    (tSeq (tFor (iList K (tVar 0)) (gTup K 2 (gCons (gName 2) (gCons (gName 3) gNil))) (tSeq (tIfS (tNot (tB (tCall (sp_is_sound K ad) [] E0 (tCons (tVar 3) tNil)))) (tRet (tTup (tCons (tC (.int 1)) (tCons (tVar 2) tNil)))) tNext)
    (tSeq (tIfS (tTest (tOp (rInD K false) (tVar 3) (tVar 1))) (tRet (tTup (tCons (tC (.int 2)) (tCons (tVar 2) tNil)))) tNext)
    (tSeq (tIfS (tTest (tOp rEq (tCB (rLen K) (tCons (tVar 1) tNil)) (tC (.int 8)))) (tRet (tTup (tCons (tC (.int 3)) (tCons (tVar 2) tNil)))) tNext)
    (tDrop (tBM K "list" rAppend (tVar 1) (tCons (tVar 3) tNil)))))))
    (tRet (tC .non))))
def N_sign_line_fault : List Str := ["words", "start", "end", "signs", "fault"]
def wp_sign_line_fault (K : PySem.W.Frag) (ad : Ad) : TS :=
  (tSeq (tAsg (tC .non) (gName 4))
    (tSeq (tIfS (tTest (tOp rGt (tCB (rLen K) (tCons (tVar 3) tNil)) (tC (.int 0)))) (tAsg (tCall (sp_whole_sign_fault K ad) [] E0 (tCons (tOp (rIxL K) (tVar 3) (tUn rNeg (tC (.int 1)))) (tCons (tVar 1) tNil))) (gName 4)) tNext)
    (tSeq (tIfS (tTest (tOp rIsN (tVar 4) (tC .non))) (tAsg (tCall (sp_name_fault K ad) [] E0 (tCons (tVar 0) (tCons (tVar 2) (tCons (tVar 3) tNil)))) (gName 4)) tNext)
    (tSeq (tIfS (tTest (tOp rIsN (tVar 4) (tC .non))) (tAsg (tCall (sp_sounds_fault K ad) [] E0 (tCons (tSl (rSlL K) (tVar 0) (tPart (tC (.int 2))) tNoPart) tNil)) (gName 4)) tNext)
    (tSeq (tIfS (tAnd (tTest (tOp rIsN (tVar 4) (tC .non))) (tTest (tOp rEq (tCB (rLen K) (tCons (tVar 3) tNil)) (tC (.int 512))))) (tAsg (tTup (tCons (tC (.int 3)) (tCons (tVar 1) tNil))) (gName 4)) tNext)
    (tRet (tVar 4)))))))
def N_take_sign_line : List Str := ["words", "start", "end", "signs", "fault", "sounds", "word"]
def wp_take_sign_line (K : PySem.W.Frag) (ad : Ad) : TS :=
  (tSeq (tAsg (tCall (sp_sign_line_fault K ad) [] E0 (tCons (tVar 0) (tCons (tVar 1) (tCons (tVar 2) (tCons (tVar 3) tNil))))) (gName 4))
    (tSeq (tIfS (tTest (tOp rIsN (tVar 4) (tC .non))) (tSeq (tAsg (tLc (iList K (tSl (rSlL K) (tVar 0) (tPart (tC (.int 2))) tNoPart)) (gName 6) tYes (tOp (rIxT K) (tVar 6) (tC (.int 1))) [6]) (gName 5))
    (tDrop (tBM K "list" rAppend (tVar 3) (tCons (tMake ad.c_Sign (sp_Sign K ad) [] E0 (tCons (tVar 1) (tCons (tOp (rIxT K) (tOp (rIxL K) (tVar 0) (tC (.int 1))) (tC (.int 1))) (tCons (tVar 5) tNil)))) tNil)))) tNext)
    (tRet (tVar 4))))
def N_row_fault : List Str := ["row", "start", "rows", "at", "cell"]
def wp_row_fault (K : PySem.W.Frag) (ad : Ad) : TS :=
  (tSeq (tFor (iEnum K (tCons (tVar 0) tNil)) (gTup K 2 (gCons (gName 3) (gCons (gName 4) gNil))) (tIfS (tAnd (tTest (tOp rNe (tVar 4) (tC (.int 35)))) (tTest (tOp rNe (tVar 4) (tC (.int 46))))) (tRet (tTup (tCons (tC (.int 1)) (tCons (tOp rPlus (tVar 1) (tVar 3)) tNil)))) tNext))
    (tSeq (tIfS (tOr (tTest (tOp rGt (tCB (rLen K) (tCons (tVar 0) tNil)) (tC (.int 32)))) (tAnd (tTest (tOp rGt (tCB (rLen K) (tCons (tVar 2) tNil)) (tC (.int 0)))) (tTest (tOp rNe (tCB (rLen K) (tCons (tVar 0) tNil)) (tCB (rLen K) (tCons (tOp (rIxL K) (tVar 2) (tC (.int 0))) tNil)))))) (tRet (tTup (tCons (tC (.int 5)) (tCons (tVar 1) tNil)))) tNext)
    (tSeq (tIfS (tTest (tOp rEq (tCB (rLen K) (tCons (tVar 2) tNil)) (tC (.int 32)))) (tRet (tTup (tCons (tC (.int 3)) (tCons (tVar 1) tNil)))) tNext)
    (tRet (tC .non)))))
def N_take_row : List Str := ["row", "start", "signs", "fault"]
def wp_take_row (K : PySem.W.Frag) (ad : Ad) : TS :=
  (tSeq (tIfS (tOr (tTest (tOp rEq (tCB (rLen K) (tCons (tVar 2) tNil)) (tC (.int 0)))) (tTest (tOp rEq (tCB (rLen K) (tCons (tVar 0) tNil)) (tC (.int 0))))) (tRet (tTup (tCons (tC (.int 1)) (tCons (tVar 1) tNil)))) tNext)
    (tSeq (tAsg (tCall (sp_row_fault K ad) [] E0 (tCons (tVar 0) (tCons (tVar 1) (tCons (tFld K (tOp (rIxL K) (tVar 2) (tUn rNeg (tC (.int 1)))) "rows") tNil)))) (gName 3))
    (tSeq (tIfS (tTest (tOp rIsN (tVar 3) (tC .non))) (tDrop (tBM K "list" rAppend (tFld K (tOp (rIxL K) (tVar 2) (tUn rNeg (tC (.int 1)))) "rows") (tCons (tVar 0) tNil))) tNext)
    (tRet (tVar 3)))))
def N_take_line : List Str := ["t", "start", "end", "signs", "words"]
def wp_take_line (K : PySem.W.Frag) (ad : Ad) : TS :=
  (tSeq (tAsg (tCall (sp_split_words K ad) [] E0 (tCons (tVar 0) (tCons (tVar 1) (tCons (tVar 2) tNil)))) (gName 4))
    (tSeq (tIfS (tTest (tOp (rEqD K) (tCB (rTupOf K) (tCons (tOp (rIxT K) (tOp (rIxL K) (tVar 4) (tC (.int 0))) (tC (.int 1))) tNil)) (tC (.ref ad.a_SIGN_WORD)))) (tRet (tCall (sp_take_sign_line K ad) [] E0 (tCons (tVar 4) (tCons (tVar 1) (tCons (tVar 2) (tCons (tVar 3) tNil)))))) tNext)
    (tRet (tCall (sp_take_row K ad) [] E0 (tCons (tSl (rSlL K) (tVar 0) (tPart (tVar 1)) (tPart (tVar 2))) (tCons (tVar 1) (tCons (tVar 3) tNil)))))))
def N_text_end_fault : List Str := ["signs", "end"]
def wp_text_end_fault (K : PySem.W.Frag) (ad : Ad) : TS :=
  (tSeq (tIfS (tTest (tOp rEq (tCB (rLen K) (tCons (tVar 0) tNil)) (tC (.int 0)))) (tRet (tTup (tCons (tC (.int 1)) (tCons (tVar 1) tNil)))) tNext)
    (tRet (tCall (sp_whole_sign_fault K ad) [] E0 (tCons (tOp (rIxL K) (tVar 0) (tUn rNeg (tC (.int 1)))) (tCons (tVar 1) tNil)))))
def N_read_list : List Str := ["t", "reading", "start", "end"]
def wp_read_list (K : PySem.W.Frag) (ad : Ad) : TS :=
  (tSeq (tAsg (tMake ad.c_Reading (sp_Reading K ad) [] E0 (tCons (tOp rGt (tCB (rLen K) (tCons (tVar 0) tNil)) (tC (.int 1048576))) tNil)) (gName 1))
    (tSeq (tIfS (tB (tFld K (tVar 1) "too_long")) (tRet (tVar 1)) tNext)
    (tSeq (tAsg (tC (.int 0)) (gName 2))
    (tSeq (tWhile (tTest (tOp rLt (tVar 2) (tCB (rLen K) (tCons (tVar 0) tNil)))) (tSeq (tAsg (tCall (sp_line_end K ad) [] E0 (tCons (tVar 0) (tCons (tVar 2) tNil))) (gName 3))
    (tSeq (sFld K (tVar 1) (tCall (sp_take_line K ad) [] E0 (tCons (tVar 0) (tCons (tVar 2) (tCons (tVar 3) (tCons (tFld K (tVar 1) "signs") tNil))))) "fault")
    (tSeq (tIfS (tAnd (tTest (tOp rIsN (tFld K (tVar 1) "fault") (tC .non))) (tTest (tOp rEq (tVar 3) (tCB (rLen K) (tCons (tVar 0) tNil))))) (sFld K (tVar 1) (tTup (tCons (tC (.int 1)) (tCons (tVar 3) tNil))) "fault") tNext)
    (tSeq (tIfS (tTest (tOp rNotN (tFld K (tVar 1) "fault") (tC .non))) (tRet (tVar 1)) tNext)
    (tAsg (tOp rPlus (tVar 3) (tC (.int 1))) (gName 2)))))))
    (tSeq (sFld K (tVar 1) (tCall (sp_text_end_fault K ad) [] E0 (tCons (tFld K (tVar 1) "signs") (tCons (tCB (rLen K) (tCons (tVar 0) tNil)) tNil))) "fault")
    (tRet (tVar 1)))))))
def N_text_refusal : List Str := ["reading"]
def wp_text_refusal (K : PySem.W.Frag) (ad : Ad) : TS :=
  (tSeq (tIfS (tB (tFld K (tVar 0) "too_long")) (tRet (tC (.int (-2)))) tNext)
    (tSeq (tIfS (tTest (tOp rNotN (tFld K (tVar 0) "fault") (tC .non))) (tRet (tC (.int (-6)))) tNext)
    (tRet (tC (.int 0)))))
def N_sign_refusal : List Str := ["reading", "k", "refusal"]
def wp_sign_refusal (K : PySem.W.Frag) (ad : Ad) : TS :=
  (tSeq (tAsg (tCall (sp_text_refusal K ad) [] E0 (tCons (tVar 0) tNil)) (gName 2))
    (tSeq (tIfS (tAnd (tTest (tOp rEq (tVar 2) (tC (.int 0)))) (tTest (tOp rGe (tVar 1) (tCB (rLen K) (tCons (tFld K (tVar 0) "signs") tNil))))) (tRet (tC (.int (-4)))) tNext)
    (tRet (tVar 2))))
def N_counted : List Str := ["values"]
def wp_counted (K : PySem.W.Frag) (ad : Ad) : TS :=
  (tRet (tOp rCat (tLst (tCons (tCB (rLen K) (tCons (tVar 0) tNil)) tNil)) (tVar 0)))
def N_name : List Str := ["k", "t", "reading", "refusal"]
def wp_name (K : PySem.W.Frag) (ad : Ad) : TS :=
  (tSeq (tAsg (tCall (sp_read_list K ad) [] E0 (tCons (tVar 1) tNil)) (gName 2))
    (tSeq (tAsg (tCall (sp_sign_refusal K ad) [] E0 (tCons (tVar 2) (tCons (tVar 0) tNil))) (gName 3))
    (tSeq (tIfS (tTest (tOp rNe (tVar 3) (tC (.int 0)))) (tRet (tLst (tCons (tVar 3) tNil))) tNext)
    (tRet (tCall (sp_counted K ad) [] E0 (tCons (tFld K (tOp (rIxL K) (tFld K (tVar 2) "signs") (tVar 0)) "name") tNil))))))
end Pg

end
section
set_option Elab.async false
set_option linter.all false
set_option maxRecDepth 100000
set_option maxHeartbeats 2000000
namespace Pg
open PySem PySem.Spec PyProof.Rows L2
open Gh (Bytes Name Draft Fault Signs isSmall isDigit isBig nameOf)
open Gm
section
variable {K : PySem.W.Frag} {H : Hp} {Q : VK} {a p : Addr} {xs : List V} {v : V} {w : Bytes} {i : Int} {j : Nat}
theorem len_l (h : SqL K H a xs) (q : Q (.int (xs.length : Nat)) H) : rLen K [.ref a] H Q := ⟨_, _, rfl, .inl ⟨xs, h, rfl⟩, q⟩
theorem len_b (h : SqL K H a (bv w)) (q : Q (.int (w.length : Nat)) H) : rLen K [.ref a] H Q := len_l h (by rw [bv_len]; exact q)
theorem len_h (h : H a = some (.lst xs)) (q : Q (.int (xs.length : Nat)) H) : rLen K [.ref a] H Q := len_l (SqL.of h) q
theorem ix_l (h : SqL K H p xs) (e : xs[j]? = some v) (q : Q v H) : rIxL K (.ref p) (.int (j : Nat)) H Q := ⟨p, xs, _, v, rfl, rfl, h, atI_nat e, q⟩
theorem ix_b {c : UInt8} (h : SqL K H p (bv w)) (e : w[j]? = some c) (q : Q (.int c.toNat) H) : rIxL K (.ref p) (.int (j : Nat)) H Q := ix_l h (bv_get e) q
theorem ix_t (h : SqT K H p xs) (e : xs[j]? = some v) (q : Q v H) : rIxT K (.ref p) (.int (j : Nat)) H Q := ⟨p, xs, _, v, rfl, rfl, h, atI_nat e, q⟩
theorem ix_z (h : SqL K H p (xs ++ [v])) (q : Q v H) : rIxL K (.ref p) (.int (-1)) H Q := ⟨p, _, _, v, rfl, rfl, h, atI_last xs v, q⟩
theorem eq_i {j : Int} : rEq (.int i) (.int j) H Q = Q (.bl (decide (i = j))) H := by
  unfold rEq
  have e : decide ((V.int i) = V.int j) = decide (i = j) := by
    by_cases h : i = j
    · subst h; simp
    · rw [decide_eq_false h, decide_eq_false fun q => h (V.int.inj q)]
  rw [e]
  exact propext ⟨fun h => h.2, fun h => ⟨rfl, h⟩⟩
theorem ne_i {j : Int} : rNe (.int i) (.int j) H Q = Q (.bl (!decide (i = j))) H := by
  unfold rNe
  have e : decide ((V.int i) = V.int j) = decide (i = j) := by
    by_cases h : i = j
    · subst h; simp
    · rw [decide_eq_false h, decide_eq_false fun q => h (V.int.inj q)]
  rw [e]
  exact propext ⟨fun h => h.2, fun h => ⟨rfl, h⟩⟩
theorem isN_non : rIsN .non .non H Q = Q (.bl true) H := propext ⟨fun h => h.2, fun h => ⟨rfl, h⟩⟩
theorem isN_ref : rIsN (.ref a) .non H Q = Q (.bl false) H := propext ⟨fun h => h.2, fun h => ⟨rfl, h⟩⟩
theorem notN_non : rNotN .non .non H Q = Q (.bl false) H := propext ⟨fun h => h.2, fun h => ⟨rfl, h⟩⟩
theorem notN_ref : rNotN (.ref a) .non H Q = Q (.bl true) H := propext ⟨fun h => h.2, fun h => ⟨rfl, h⟩⟩
theorem i0 {g : Int → Int → V} {j : Int} : rI0 g (.int i) (.int j) H Q = Q (g i j) H := propext ⟨fun ⟨a, b, e1, e2, q⟩ => by cases e1; cases e2; exact q, fun h => ⟨i, j, rfl, rfl, h⟩⟩
theorem u0 {g : Int → V} : rU g (.int i) H Q = Q (g i) H := propext ⟨fun ⟨j, e, q⟩ => by cases e; exact q, fun h => ⟨i, rfl, h⟩⟩
theorem bl_test {c : Bool} {R : Bool → Prop} : (∃ k, V.bl c = .bl k ∧ R k) = R c := propext ⟨fun ⟨k, e, q⟩ => by cases e; exact q, fun h => ⟨c, rfl, h⟩⟩
theorem int_ex {R : Int → Prop} : (∃ k, V.int i = .int k ∧ R k) = R i := propext ⟨fun ⟨k, e, q⟩ => by cases e; exact q, fun h => ⟨i, rfl, h⟩⟩
theorem sl_l {lo hi : Option Int} (h : SqL K H a xs) (q : ∀ p, H p = none → Q (.ref p) (upd H p (.lst (cutV xs lo hi)))) : rSlL K (.ref a) lo hi H Q := ⟨a, xs, rfl, h, q⟩
theorem sl_b {i j : Nat} (h : SqL K H a (bv w)) (hi : i ≤ w.length) (hj : j ≤ w.length) (q : ∀ p, H p = none → Q (.ref p) (upd H p (.lst (bv ((w.drop i).take (j - i)))))) : rSlL K (.ref a) (some (i : Int)) (some (j : Int)) H Q :=
  sl_l h fun p hp => by rw [cut_bv hi hj]; exact q p hp
end
theorem Same.new {H : Hp} {p : Addr} {o : HO} (h : H p = none) : Same H (upd H p o) := fun b u e => by rw [upd_ne (ne_of_none e h)]; exact e
theorem Same.sqT {K : PySem.W.Frag} {H H' : Hp} {a : Addr} {xs : List V} (e : Same H H') (h : SqT K H a xs) : SqT K H' a xs := by
  rcases h with (h | ⟨o, h⟩) | h
  · exact .inl (.inl (e _ _ h))
  · exact .inl (.inr ⟨o, e _ _ h⟩)
  · exact .inr h
theorem Paired.mono {α β : Type} {F G : α → β → Prop} {l₁ : List α} {l₂ : List β} (r : Paired F l₁ l₂) (f : ∀ a b, F a b → G a b) : Paired G l₁ l₂ := L2.Paired.mapP r f
theorem WordAt.same {H H' : Hp} (e : Same H H') {a : Addr} {w : Nat × Bytes} (h : WordAt H a w) : WordAt H' a w := by
  obtain ⟨b, h1, h2⟩ := h
  exact ⟨b, e _ _ h1, e _ _ h2⟩
theorem WordsAt.same {H H' : Hp} (e : Same H H') {p : Addr} {ws : List (Nat × Bytes)} (h : WordsAt H p ws) : WordsAt H' p ws := by
  obtain ⟨as, h1, h2⟩ := h
  exact ⟨as, e _ _ h1, Paired.mono h2 fun _ _ q => q.same e⟩
theorem RowsAt.same {H H' : Hp} (e : Same H H') {as : List Addr} {rows : List (List Bool)} (h : RowsAt H as rows) : RowsAt H' as rows := Paired.mono h fun _ _ q => e _ _ q
theorem BytesAt.same {H H' : Hp} (e : Same H H') {as : List Addr} {l : List Bytes} (h : BytesAt H as l) : BytesAt H' as l := Paired.mono h fun _ _ q => e _ _ q
theorem SgAt.same {C : Addr} {H H' : Hp} (e : Same H H') {ok : Addr → Prop} {a r : Addr} {p : Nat} {nm : Bytes} {sd : List Bytes} {rows : List (List Bool)} (h : SgAt C H ok a r p nm sd rows) : SgAt C H' ok a r p nm sd rows := by
  obtain ⟨dx, n, so, ss, as, h1, h2, h3, h4, h5, h6, h7, h8, h9, h10⟩ := h.ex
  exact ⟨dx, n, so, ss, as, e _ _ h1, e _ _ h2, h3, e _ _ h4, h5, h6.same e, h7, e _ _ h8, h9.same e, h10⟩
theorem DoneAt.same {C : Addr} {H H' : Hp} (e : Same H H') {ok : Addr → Prop} {as : List Addr} {l : Signs} (h : DoneAt C H ok as l) : DoneAt C H' ok as l :=
  Paired.mono h fun _ _ ⟨r, p, h1, h2⟩ => ⟨r, p, h1.same e, h2⟩
theorem SignsAt.same {C : Addr} {H H' : Hp} (e : Same H H') {F : Addr → Prop} {S : Addr} {z : Gh.Reading} (h : SignsAt C H F S z) : SignsAt C H' F S z := by
  obtain ⟨h0, h⟩ := h
  refine ⟨h0, ?_⟩
  cases hz : z.now with
  | none => rw [hz] at h; exact ⟨e _ _ h.1, h.2⟩
  | some d =>
    rw [hz] at h
    obtain ⟨ds, a, r, h1, h2, h3, h4, h5⟩ := h
    exact ⟨ds, a, r, e _ _ h1, h2, h3, h4.same e, h5.same e⟩
theorem paired_len {α β : Type} {F : α → β → Prop} : ∀ {l₁ : List α} {l₂ : List β}, Paired F l₁ l₂ → l₁.length = l₂.length
  | _, _, .nil => rfl
  | _, _, .cons _ t => by rw [List.length_cons, List.length_cons, paired_len t]
theorem while_ix {ι : Type} {c : TT} {tb : TS} {D : Ends} {σ : L2.St} {H : Hp} (Pv : ι → L2.St → Hp → Prop) (μ : ι → Nat) (j0 : ι) (h0 : Pv j0 σ H)
    (hs : ∀ j σ H, Pv j σ H → c σ H fun b H1 => if b = true then ∃ N : L2.St → Hp → Prop, (∀ σ' H', N σ' H' → ∃ m', m' < μ j ∧ ∃ j', m' = μ j' ∧ Pv j' σ' H') ∧ tb { D with nx := N, ct := N, bk := D.nx } σ H1 else D.nx σ H1) : tWhile c tb D σ H := by
  refine ⟨fun m σ H => ∃ j, m = μ j ∧ Pv j σ H, ⟨_, j0, rfl, h0⟩, ?_⟩
  rintro m σ H ⟨j, rfl, p⟩
  exact hs j σ H p
end Pg

end
section
set_option Elab.async false
set_option linter.all false
set_option maxRecDepth 100000
set_option maxHeartbeats 2000000
namespace Pg
open PySem PySem.Spec PyProof.Rows L2
open Gh (Bytes Name Draft Fault Signs isSmall isDigit isBig nameOf)
open Gm
local macro_rules | `(tactic| walk_at "wp") => `(tactic| simp only [tSeq, tAsg, gName, tVar, tC, tRet, tRetN, tIfS, tDrop, tNext, tAnd, tOr, tNot, tTest, tB, tOp, tUn, tChain, tCB, tCons, tNil, tIf, tAndV, tCall, tPart, tNoPart, tSl, tTup, tLst, i0, u0, eq_i, ne_i, isN_non, isN_ref, notN_non, notN_ref, bl_test, int_ex,
  L2.start, List.map_cons, List.map_nil, List.length_cons, List.length_nil, List.cons_append, List.nil_append, List.append_nil, List.replicate, Nat.reduceAdd, Nat.reduceSub, List.getElem?_cons_zero, List.getElem?_cons_succ, Option.some.injEq, exists_eq_left', List.set_cons_zero, List.set_cons_succ, decide_eq_true_eq, Bool.not_eq_true', decide_eq_false_iff_not, Bool.false_eq_true, if_true, if_false, Bool.not_true, Bool.not_false])
section
variable {K : PySem.W.Frag} {ad : Ad} {vs : List V} {H : Hp} {Q : VK} {E : XK}
theorem take_miss {α : Type} {p : α → Bool} {l : List α} {x : α} {i : Nat} (h : l[i]? = some x) (hx : p x = false) : (l.drop i).takeWhile p = [] := by
  obtain ⟨hi, e⟩ := List.getElem?_eq_some_iff.mp h
  rw [List.drop_eq_getElem_cons hi, List.takeWhile_cons_of_neg (by rw [e, hx]; exact Bool.false_ne_true)]
theorem take_hit {α : Type} {p : α → Bool} {l : List α} {x : α} {i : Nat} (h : l[i]? = some x) (hx : p x = true) : (l.drop i).takeWhile p = x :: (l.drop (i + 1)).takeWhile p := by
  obtain ⟨hi, e⟩ := List.getElem?_eq_some_iff.mp h
  rw [List.drop_eq_getElem_cons hi, e, List.takeWhile_cons_of_pos hx]
theorem rd_line_end (T : TxC K ad) (h : sp_line_end K ad vs H Q E) : wp_line_end K ad { nx := fun _ H' => Q .non H', rt := Q } (L2.start N_line_end vs) H := by
  obtain ⟨a, t, i, rfl, ht, hi, q⟩ := h
  unfold wp_line_end N_line_end
  walk_at "wp"
  refine while_ix (ι := Nat) (fun j σ H' => σ = [some (.ref a), some (.int i), some (.int (j : Int))] ∧ H' = H ∧ j ≤ t.length ∧ lineEnd t j = lineEnd t i) (fun j => t.length - j) i ⟨rfl, rfl, hi, rfl⟩ ?_
  rintro j σ H' ⟨rfl, rfl, hj, he⟩
  walk_at "wp"
  refine len_b ht ?_
  walk_at "wp"
  refine ite2 (fun h1 => ?_) (fun h1 => ?_)
  · have h1 : j < t.length := by omega
    obtain ⟨c, hc⟩ : ∃ c, t[j]? = some c := ⟨_, List.getElem?_eq_getElem h1⟩
    refine ix_b ht hc ?_
    walk_at "wp"
    refine ite2 (fun h2 => ?_) (fun h2 => ?_)
    · refine ⟨_, fun σ' H' n => n, ?_⟩
      refine ⟨t.length - (j + 1), by omega, j + 1, rfl, rfl, rfl, h1, ?_⟩
      rw [← he]
      have hne : decide (c ≠ 10) = true := decide_eq_true fun e => h2 (by rw [e]; rfl)
      unfold lineEnd
      rw [take_hit (p := fun x : UInt8 => decide (x ≠ 10)) hc hne, List.length_cons]
      omega
    · have e10 : c = 10 := u8_ext (by have : ((c.toNat : Nat) : Int) = 10 := Decidable.byContradiction h2; show c.toNat = 10; omega)
      have e2 : lineEnd t j = j := by
        unfold lineEnd
        rw [take_miss (p := fun x : UInt8 => decide (x ≠ 10)) hc (by rw [e10]; rfl)]; rfl
      rw [← he, e2] at q
      exact q
  · have e1 : j = t.length := by omega
    have e2 : lineEnd t j = j := by unfold lineEnd; rw [e1, List.drop_length]; rfl
    rw [← he, e2] at q
    exact q
end
end Pg

end
section
set_option Elab.async false
set_option linter.all false
set_option maxRecDepth 100000
set_option maxHeartbeats 2000000
namespace Pg
open PySem PySem.Spec PyProof.Rows L2
open Gh (Bytes Name Draft Fault Signs isSmall isDigit isBig nameOf)
open Gm
local macro_rules | `(tactic| walk_at "wp") => `(tactic| simp only [tSeq, tAsg, gName, tVar, tC, tRet, tRetN, tIfS, tDrop, tNext, tAnd, tOr, tNot, tTest, tB, tOp, tUn, tChain, tCB, tCons, tNil, tIf, tAndV, tCall, tPart, tNoPart, tSl, tTup, tLst, i0, u0, eq_i, ne_i, isN_non, isN_ref, notN_non, notN_ref, bl_test, int_ex,
  L2.start, List.map_cons, List.map_nil, List.length_cons, List.length_nil, List.cons_append, List.nil_append, List.append_nil, List.replicate, Nat.reduceAdd, Nat.reduceSub, List.getElem?_cons_zero, List.getElem?_cons_succ, Option.some.injEq, exists_eq_left', List.set_cons_zero, List.set_cons_succ, decide_eq_true_eq, Bool.not_eq_true', decide_eq_false_iff_not, Bool.false_eq_true, if_true, if_false, Bool.not_true, Bool.not_false])
section
variable {K : PySem.W.Frag} {ad : Ad} {vs : List V} {H : Hp} {Q : VK} {E : XK}
theorem small_dec (c : UInt8) : decide (97 ≤ ((c.toNat : Nat) : Int)) = decide (97 ≤ c.toNat) ∧ decide (((c.toNat : Nat) : Int) ≤ 122) = decide (c.toNat ≤ 122) := by
  constructor
  · by_cases h : 97 ≤ c.toNat
    · rw [decide_eq_true h, decide_eq_true (by omega)]
    · rw [decide_eq_false h, decide_eq_false (by omega)]
  · by_cases h : c.toNat ≤ 122
    · rw [decide_eq_true h, decide_eq_true (by omega)]
    · rw [decide_eq_false h, decide_eq_false (by omega)]
theorem rd_is_small_letter (T : TxC K ad) (h : sp_is_small_letter K ad vs H Q E) : wp_is_small_letter K ad { nx := fun _ H' => Q .non H', rt := Q } (L2.start N_is_small_letter vs) H := by
  obtain ⟨c, rfl, q⟩ := h
  unfold wp_is_small_letter N_is_small_letter
  walk_at "wp"
  refine ite2 (fun h1 => ?_) (fun h1 => ?_)
  · have e : isSmall c = decide (((c.toNat : Nat) : Int) ≤ 122) := by
      unfold isSmall
      rw [(small_dec c).2, decide_eq_true (show 97 ≤ c.toNat by omega), Bool.true_and]
    rw [← e]; exact q
  · have e : isSmall c = false := by
      unfold isSmall
      rw [decide_eq_false (show ¬ 97 ≤ c.toNat by omega), Bool.false_and]
    rw [e] at q; exact q
theorem rd_small_letter_at (T : TxC K ad) (h : sp_small_letter_at K ad vs H Q E) : wp_small_letter_at K ad { nx := fun _ H' => Q .non H', rt := Q } (L2.start N_small_letter_at vs) H := by
  obtain ⟨a, w, i, rfl, hw, q⟩ := h
  unfold wp_small_letter_at N_small_letter_at
  walk_at "wp"
  refine len_b hw ?_
  walk_at "wp"
  refine ite2 (fun h1 => ?_) (fun h1 => ?_)
  · have h1 : i < w.length := by omega
    obtain ⟨c, hc⟩ : ∃ c, w[i]? = some c := ⟨_, List.getElem?_eq_getElem h1⟩
    refine ix_b hw hc ⟨c, rfl, ?_⟩
    walk_at "wp"
    refine ite2 (fun h2 => ?_) (fun h2 => ?_)
    · refine ix_b hw hc ?_
      have e : sl w i = c := by unfold sl; rw [hc]; exact if_pos h2
      rw [e] at q; exact q
    · have e : sl w i = 0 := by unfold sl; rw [hc]; exact if_neg h2
      rw [e] at q; exact q
  · have e : sl w i = 0 := by unfold sl; rw [List.getElem?_eq_none (by omega)]
    rw [e] at q; exact q
theorem rd_digit_run_end (T : TxC K ad) (h : sp_digit_run_end K ad vs H Q E) : wp_digit_run_end K ad { nx := fun _ H' => Q .non H', rt := Q } (L2.start N_digit_run_end vs) H := by
  obtain ⟨a, t, i, rfl, ht, hi, q⟩ := h
  unfold wp_digit_run_end N_digit_run_end
  walk_at "wp"
  refine while_ix (ι := Nat) (fun j σ H' => σ = [some (.ref a), some (.int i), some (.int (j : Int))] ∧ H' = H ∧ j ≤ t.length ∧ digitEnd t j = digitEnd t i) (fun j => t.length - j) i ⟨rfl, rfl, hi, rfl⟩ ?_
  rintro j σ H' ⟨rfl, rfl, hj, he⟩
  walk_at "wp"
  refine len_b ht ?_
  walk_at "wp"
  refine ite2 (fun h1 => ?_) (fun h1 => ?_)
  · have h1 : j < t.length := by omega
    obtain ⟨c, hc⟩ : ∃ c, t[j]? = some c := ⟨_, List.getElem?_eq_getElem h1⟩
    refine ix_b ht hc ?_
    walk_at "wp"
    have miss : isDigit c = false → Q (.int (j : Int)) H' := fun hd => by
      have e2 : digitEnd t j = j := by
        unfold digitEnd
        rw [take_miss hc hd]; rfl
      rw [← he, e2] at q
      exact q
    refine ite2 (fun h2 => ?_) (fun h2 => ?_)
    · refine ite2 (fun h3 => ?_) (fun h3 => ?_)
      · refine ⟨_, fun σ' H' n => n, ?_⟩
        refine ⟨t.length - (j + 1), by omega, j + 1, rfl, rfl, rfl, h1, ?_⟩
        rw [← he]
        unfold digitEnd
        rw [take_hit hc (digit_iff.mpr ⟨by omega, by omega⟩), List.length_cons]
        omega
      · exact miss (by cases e : isDigit c with
          | false => rfl
          | true => have := digit_iff.mp e; omega)
    · exact miss (by cases e : isDigit c with
        | false => rfl
        | true => have := digit_iff.mp e; omega)
  · have e1 : j = t.length := by omega
    have e2 : digitEnd t j = j := by unfold digitEnd; rw [e1, List.drop_length]; rfl
    rw [← he, e2] at q
    exact q
theorem take_snoc {α : Type} : ∀ {l : List α} {i : Nat} {x : α}, l[i]? = some x → l.take (i + 1) = l.take i ++ [x]
  | [], i, x, h => by simp at h
  | a :: l, 0, x, h => by
    have e : a = x := Option.some.inj h
    subst e
    rfl
  | a :: l, i + 1, x, h => by
    have ih := take_snoc (l := l) (i := i) (x := x) h
    show a :: l.take (i + 1) = a :: l.take i ++ [x]
    rw [ih]
    rfl
theorem numberOf_snoc (d : Bytes) (c : UInt8) : Gh.numberOf (d ++ [c]) = 10 * Gh.numberOf d + (c.toNat - 48) := by
  unfold Gh.numberOf
  rw [List.foldl_append]; rfl
theorem bv_some {w : Bytes} {i : Nat} {x : V} (h : (bv w)[i]? = some x) : ∃ c, w[i]? = some c ∧ x = .int c.toNat := by
  unfold bv bi at h
  rw [List.getElem?_map, List.getElem?_map] at h
  cases e : w[i]? with
  | none => rw [e] at h; cases h
  | some c => rw [e] at h; exact ⟨c, rfl, (Option.some.inj h).symm⟩
theorem num_small : ∀ (d : Bytes), d.length ≤ 3 → (∀ c ∈ d, isDigit c = true) → Gh.numberOf d ≤ 999 := by
  intro d hl hd
  match d, hl, hd with
  | [], _, _ => decide
  | [a], _, hd =>
    have ha := digit_iff.mp (hd a (by simp))
    simp [Gh.numberOf]; omega
  | [a, b], _, hd =>
    have ha := digit_iff.mp (hd a (by simp))
    have hb := digit_iff.mp (hd b (by simp))
    simp [Gh.numberOf]; omega
  | [a, b, c], _, hd =>
    have ha := digit_iff.mp (hd a (by simp))
    have hb := digit_iff.mp (hd b (by simp))
    have hc := digit_iff.mp (hd c (by simp))
    simp [Gh.numberOf]; omega
  | _ :: _ :: _ :: _ :: _, hl, _ => simp at hl
theorem rd_number_of (T : TxC K ad) (h : sp_number_of K ad vs H Q E) : wp_number_of K ad { nx := fun _ H' => Q .non H', rt := Q } (L2.start N_number_of vs) H := by
  obtain ⟨a, d, rfl, hd, hdig, q⟩ := h
  unfold wp_number_of N_number_of
  have zero : (d.length = 0 ∨ 3 < d.length ∨ d.head? = some 48) → Q (.int 0) H := fun hz => by
    have e : numM d = 0 := by unfold numM; rw [if_pos hz]
    rw [e] at q; exact q
  walk_at "wp"
  refine len_b hd ?_
  walk_at "wp"
  refine ite2 (fun h1 => zero (.inl (by omega))) (fun h1 => ?_)
  have h1 : d.length ≠ 0 := by omega
  refine len_b hd ?_
  walk_at "wp"
  refine ite2 (fun h2 => zero (.inr (.inl (by omega)))) (fun h2 => ?_)
  have h2 : d.length ≤ 3 := by omega
  obtain ⟨c, r, ec⟩ : ∃ c r, d = c :: r := by
    cases d with
    | nil => exact absurd rfl h1
    | cons c r => exact ⟨c, r, rfl⟩
  refine ix_b (j := 0) hd (c := c) (by rw [ec]; rfl) ?_
  walk_at "wp"
  refine ite2 (fun h3 => zero (.inr (.inr (by rw [ec, List.head?_cons]; exact congrArg some (u8_ext (by show c.toNat = 48; omega)))))) (fun h3 => ?_)
  have enum : numM d = Gh.numberOf d := by
    unfold numM
    rw [if_neg]
    rintro (z | z | z)
    · exact h1 z
    · omega
    · rw [ec, List.head?_cons] at z
      have : c = 48 := Option.some.inj z
      exact h3 (by rw [this]; rfl)
  refine ⟨_, rfl, a, rfl, ⟨_, hd⟩, for_list (K := K) (a := a) (xs := bv d) (fun i σ H' => ∃ v : Option V, σ = [some (.ref a), some (.int (Gh.numberOf (d.take i) : Nat)), v] ∧ H' = H) ⟨none, rfl, rfl⟩ (fun i σ H' _ ⟨_, _, e⟩ => by rw [e]; exact hd) ?_ ?_⟩
  · rintro i x σ H' hi ⟨v, rfl, rfl⟩
    obtain ⟨c', hc', rfl⟩ := bv_some hi
    have dg := digit_iff.mp (hdig c' (List.mem_of_getElem? hc'))
    have sm : Gh.numberOf (d.take i) ≤ 999 := num_small _ (by rw [List.length_take]; omega) fun x hx => hdig x (List.mem_of_mem_take hx)
    walk_at "wp"
    refine ⟨_, _, rfl, rfl, .inl ⟨by omega, by omega⟩, ?_⟩
    walk_at "wp"
    have e : ((Gh.numberOf (d.take i) : Nat) : Int) * 10 + (c'.toNat : Nat) - 48 = ((Gh.numberOf (d.take (i + 1)) : Nat) : Int) := by
      rw [take_snoc hc', numberOf_snoc]
      omega
    rw [e]
    exact ⟨_, rfl, trivial⟩
  · rintro σ H' ⟨v, rfl, rfl⟩
    rw [bv_len, List.take_length]
    walk_at "wp"
    rw [enum] at q
    exact q
end
end Pg

end
section
set_option Elab.async false
set_option linter.all false
set_option maxRecDepth 100000
set_option maxHeartbeats 2000000
namespace Pg
open PySem PySem.Spec PyProof.Rows L2
open Gh (Bytes Name Draft Fault Signs isSmall isDigit isBig nameOf)
open Gm
local macro_rules | `(tactic| walk_at "wp") => `(tactic| simp only [tSeq, tAsg, gName, tVar, tC, tRet, tRetN, tIfS, tDrop, tNext, tAnd, tOr, tNot, tTest, tB, tOp, tUn, tChain, tCB, tCons, tNil, tIf, tAndV, tCall, tPart, tNoPart, tSl, tTup, tLst, i0, u0, eq_i, ne_i, isN_non, isN_ref, notN_non, notN_ref, bl_test, int_ex,
  L2.start, List.map_cons, List.map_nil, List.length_cons, List.length_nil, List.cons_append, List.nil_append, List.append_nil, List.replicate, Nat.reduceAdd, Nat.reduceSub, List.getElem?_cons_zero, List.getElem?_cons_succ, Option.some.injEq, exists_eq_left', List.set_cons_zero, List.set_cons_succ, decide_eq_true_eq, Bool.not_eq_true', decide_eq_false_iff_not, Bool.false_eq_true, if_true, if_false, Bool.not_true, Bool.not_false])
section
variable {K : PySem.W.Frag} {ad : Ad} {vs : List V} {H : Hp} {Q : VK} {E : XK}
theorem big_iff {c : UInt8} : isBig c = true ↔ 65 ≤ c.toNat ∧ c.toNat ≤ 90 := by simp [isBig]
theorem u8_zero {c : UInt8} : (((c.toNat : Nat) : Int) = 0) ↔ c = 0 := by
  constructor
  · intro h; exact u8_ext (by show c.toNat = 0; omega)
  · intro h; rw [h]; rfl
theorem rd_name_key (T : TxC K ad) (h : sp_name_key K ad vs H Q E) : wp_name_key K ad { nx := fun _ H' => Q .non H', rt := Q } (L2.start N_name_key vs) H := by
  obtain ⟨a, w, rfl, hw, q⟩ := h
  rw [keyM_nameOf] at q
  have no : keyM w = none → ∀ H' : Hp, Same H H' → Q .non H' := fun e H' s => q H' .non s (by rw [e]; rfl)
  unfold wp_name_key N_name_key
  walk_at "wp"
  refine len_b hw ?_
  walk_at "wp"
  refine ite2 (fun h1 => no (by cases w with
    | nil => rfl
    | cons c r => simp at h1; omega) H (Same.refl H)) (fun h1 => ?_)
  obtain ⟨c, r, ec⟩ : ∃ c r, w = c :: r := by
    cases w with
    | nil => exact absurd rfl h1
    | cons c r => exact ⟨c, r, rfl⟩
  have hc0 : w[0]? = some c := by rw [ec]; rfl
  have nobig : isBig c ≠ true → keyM w = none := fun hb => by
    rw [ec]
    show (if isBig c = true ∧ _ then _ else _) = none
    rw [if_neg fun z => hb z.1]
  refine ix_b (j := 0) hw hc0 ?_
  walk_at "wp"
  refine ite2 (fun h2 => ?_) (fun h2 => ?_)
  rotate_left
  · exact no (nobig fun z => h2 (by have := big_iff.mp z; omega)) H (Same.refl H)
  refine ite2 (fun h3 => ?_) (fun h3 => ?_)
  · exact no (nobig fun z => h3 (by have := big_iff.mp z; omega)) H (Same.refl H)
  have hbig : isBig c = true := big_iff.mpr ⟨by omega, by omega⟩
  -- second
  refine ⟨a, w, 1, rfl, hw, ?_⟩
  walk_at "wp"
  have hds : dsM w ≤ w.length := by
    unfold dsM
    by_cases z : sl w 1 = 0
    · rw [if_pos z, ec]; simp
    · rw [if_neg z]
      have := (List.getElem?_eq_some_iff.mp (sl_ne0 z).1).1
      omega
  have hde : digitEnd w (dsM w) = deM w := rfl
  have hdl : deM w ≤ w.length := by
    unfold deM digM
    have : ((w.drop (dsM w)).takeWhile isDigit).length ≤ (w.drop (dsM w)).length := (List.takeWhile_sublist _).length_le
    rw [List.length_drop] at this
    omega
  have hcut : (w.drop (dsM w)).take (deM w - dsM w) = digM w := by
    have e := takeWhile_drop isDigit (w.drop (dsM w))
    rw [show deM w - dsM w = (digM w).length by unfold deM; omega]
    conv => lhs; rw [e]
    exact List.take_left' rfl
  -- the rest, from digits_start on
  have rest : ∀ H1 : Hp, H1 = H → (tSeq (tAsg (tCall (sp_digit_run_end K ad) [] E0 (tCons (tVar 0) (tCons (tVar 2) tNil))) (gName 3))
    (tSeq (tAsg (tCall (sp_number_of K ad) [] E0 (tCons (tSl (rSlL K) (tVar 0) (tPart (tVar 2)) (tPart (tVar 3))) tNil)) (gName 4))
    (tSeq (tAsg (tCall (sp_small_letter_at K ad) [] E0 (tCons (tVar 0) (tCons (tVar 3) tNil))) (gName 5))
    (tSeq (tAsg (tIf (tTest (tOp rEq (tVar 5) (tC (.int 0)))) (tVar 3) (tOp rPlus (tVar 3) (tC (.int 1)))) (gName 6))
    (tSeq (tIfS (tOr (tTest (tOp rEq (tVar 4) (tC (.int 0)))) (tTest (tOp rNe (tVar 6) (tCB (rLen K) (tCons (tVar 0) tNil))))) (tRet (tC .non)) tNext)
    (tRet (tTup (tCons (tOp (rIxL K) (tVar 0) (tC (.int 0))) (tCons (tVar 1) (tCons (tVar 4) (tCons (tVar 5) tNil))))))))))) { nx := fun _ H' => Q .non H', rt := Q } [some (.ref a), some (.int (sl w 1).toNat), some (.int (dsM w : Nat)), none, none, none, none] H1 := by
    rintro H1 rfl
    walk_at "wp"
    refine ⟨a, w, dsM w, rfl, hw, hds, ?_⟩
    walk_at "wp"
    rw [hde]
    refine sl_b hw hds hdl fun p hp => ?_
    rw [hcut]
    have s1 : Same H1 (upd H1 p (.lst (bv (digM w)))) := Same.new hp
    have hw1 := s1.seq hw
    refine ⟨p, digM w, rfl, SqL.of upd_same, digM_digits w, ?_⟩
    walk_at "wp"
    refine ⟨a, w, deM w, rfl, hw1, ?_⟩
    walk_at "wp"
    -- name_end
    have fin : ∀ ne : Int, ne = ((neM w : Nat) : Int) → (tSeq (tIfS (tOr (tTest (tOp rEq (tVar 4) (tC (.int 0)))) (tTest (tOp rNe (tVar 6) (tCB (rLen K) (tCons (tVar 0) tNil))))) (tRet (tC .non)) tNext)
      (tRet (tTup (tCons (tOp (rIxL K) (tVar 0) (tC (.int 0))) (tCons (tVar 1) (tCons (tVar 4) (tCons (tVar 5) tNil))))))) { nx := fun _ H' => Q .non H', rt := Q }
        [some (.ref a), some (.int (sl w 1).toNat), some (.int (dsM w : Nat)), some (.int (deM w : Nat)), some (.int (numM (digM w) : Nat)), some (.int (sl w (deM w)).toNat), some (.int ne)] (upd H1 p (.lst (bv (digM w)))) := by
      rintro ne rfl
      have kn : ¬ (numM (digM w) ≠ 0 ∧ neM w = w.length) → keyM w = none := fun z => by
        have e : keyM w = if isBig c = true ∧ numM (digM w) ≠ 0 ∧ neM w = w.length then some ⟨c, sl w 1, numM (digM w), sl w (deM w)⟩ else none := by rw [ec]; rfl
        rw [e, if_neg fun y => z y.2]
      walk_at "wp"
      refine ite2 (fun h4 => no (kn fun z => z.1 (by omega)) _ s1) (fun h4 => ?_)
      refine len_b hw1 ?_
      walk_at "wp"
      refine ite2 (fun h5 => no (kn fun z => h5 (by omega)) _ s1) (fun h5 => ?_)
      refine ix_b (j := 0) hw1 hc0 ?_
      refine ⟨by show 4 ≤ sizeLine; decide, fun t ht => q _ _ (s1.trans (Same.new ht)) ?_⟩
      have e : keyM w = some ⟨c, sl w 1, numM (digM w), sl w (deM w)⟩ := by
        have e : keyM w = if isBig c = true ∧ numM (digM w) ≠ 0 ∧ neM w = w.length then some ⟨c, sl w 1, numM (digM w), sl w (deM w)⟩ else none := by rw [ec]; rfl
        rw [e, if_pos ⟨hbig, by omega, by omega⟩]
      rw [e]
      exact ⟨t, rfl, upd_same⟩
    refine ite2 (fun h6 => ?_) (fun h6 => ?_)
    · have r := fin (deM w : Nat) (by unfold neM; rw [if_pos (u8_zero.mp h6)])
      revert r
      walk_at "wp"
      exact fun z => z
    · have r := fin ((deM w : Nat) + 1) (by unfold neM; rw [if_neg fun z => h6 (u8_zero.mpr z)]; rfl)
      revert r
      walk_at "wp"
      exact fun z => z
  refine ite2 (fun h4 => ?_) (fun h4 => ?_)
  · have e : dsM w = 1 := by unfold dsM; rw [if_pos (u8_zero.mp h4)]
    have r := rest H rfl
    rw [e] at r
    revert r
    walk_at "wp"
    exact fun z => z
  · have e : dsM w = 2 := by unfold dsM; rw [if_neg fun z => h4 (u8_zero.mpr z)]
    have r := rest H rfl
    rw [e] at r
    revert r
    walk_at "wp"
    exact fun z => z
end
end Pg

end
section
set_option Elab.async false
set_option linter.all false
set_option maxRecDepth 100000
set_option maxHeartbeats 2000000
namespace Pg
open PySem PySem.Spec PyProof.Rows L2
open Gh (Bytes Name Draft Fault Signs isSmall isDigit isBig nameOf)
open Gm
local macro_rules | `(tactic| walk_at "wp") => `(tactic| simp only [tSeq, tAsg, gName, tVar, tC, tRet, tRetN, tIfS, tDrop, tNext, tAnd, tOr, tNot, tTest, tB, tOp, tUn, tChain, tCB, tCons, tNil, tIf, tAndV, tCall, tPart, tNoPart, tSl, tTup, tLst, i0, u0, eq_i, ne_i, isN_non, isN_ref, notN_non, notN_ref, bl_test, int_ex,
  L2.start, List.map_cons, List.map_nil, List.length_cons, List.length_nil, List.cons_append, List.nil_append, List.append_nil, List.replicate, Nat.reduceAdd, Nat.reduceSub, List.getElem?_cons_zero, List.getElem?_cons_succ, Option.some.injEq, exists_eq_left', List.set_cons_zero, List.set_cons_succ, decide_eq_true_eq, Bool.not_eq_true', decide_eq_false_iff_not, Bool.false_eq_true, if_true, if_false, Bool.not_true, Bool.not_false])
section
variable {K : PySem.W.Frag} {ad : Ad} {vs : List V} {H : Hp} {Q : VK} {E : XK}
theorem put_sg (p : Int) (n so r : Addr) : putF "rows" (.ref r) (putF "sounds" (.ref so) (putF "name" (.ref n) (putF "place" (.int p) []))) = sgF p n so r := by
  have h1 : ¬ ("place" : Str) = "name" := by decide +kernel
  have h2 : ¬ ("place" : Str) = "rows" := by decide +kernel
  have h3 : ¬ ("name" : Str) = "rows" := by decide +kernel
  have h4 : ¬ ("place" : Str) = "sounds" := by decide +kernel
  have h5 : ¬ ("name" : Str) = "sounds" := by decide +kernel
  have h6 : ¬ ("sounds" : Str) = "rows" := by decide +kernel
  simp only [putF, h1, h2, h3, h4, h5, h6, if_false]
  rfl
theorem put_rd (b : Bool) (s : Addr) (v : V) : putF "fault" v (putF "signs" (.ref s) (putF "too_long" (.bl b) [])) = rdF b s v := by
  have h1 : ¬ ("signs" : Str) = "fault" := by decide +kernel
  have h2 : ¬ ("too_long" : Str) = "fault" := by decide +kernel
  have h3 : ¬ ("too_long" : Str) = "signs" := by decide +kernel
  simp only [putF, h1, h2, h3, if_false]
  rfl
theorem put_rd2 (b : Bool) (s : Addr) (v u : V) : putF "fault" u (rdF b s v) = rdF b s u := by
  have h1 : ¬ ("signs" : Str) = "fault" := by decide +kernel
  have h2 : ¬ ("too_long" : Str) = "fault" := by decide +kernel
  simp only [rdF, putF, h1, h2, if_false, if_true]
theorem sg_place (p : Int) (n so r : Addr) : (sgF p n so r).lookup ("place" : Str) = some (V.int p) := rfl
theorem sg_name (p : Int) (n so r : Addr) : (sgF p n so r).lookup ("name" : Str) = some (V.ref n) := rfl
theorem sg_rows (p : Int) (n so r : Addr) : (sgF p n so r).lookup ("rows" : Str) = some (V.ref r) := rfl
theorem rd_signs (b : Bool) (s : Addr) (v : V) : (rdF b s v).lookup ("signs" : Str) = some (V.ref s) := rfl
theorem rd_fault (b : Bool) (s : Addr) (v : V) : (rdF b s v).lookup ("fault" : Str) = some v := rfl
theorem rd_too_long (b : Bool) (s : Addr) (v : V) : (rdF b s v).lookup ("too_long" : Str) = some (V.bl b) := rfl
theorem rd_Sign (T : TxC K ad) (h : sp_Sign K ad vs H Q E) : wp_Sign K ad { nx := fun _ H' => Q .non H', rt := Q } (L2.start N_Sign vs) H := by
  obtain ⟨x, dx, n, so, p, rfl, hx, q⟩ := h
  refine ⟨_, rfl, _, rfl, x, _, dx, _, rfl, hx, T.clS, T.s_place, (by show 0 < 1000; decide), ?_⟩
  refine ⟨_, rfl, _, rfl, x, _, dx, _, rfl, upd_same, T.clS, T.s_name, (by show 1 < 1000; decide), ?_⟩
  refine ⟨_, rfl, _, rfl, x, _, dx, _, rfl, upd_same, T.clS, T.s_sounds, (by show 2 < 1000; decide), ?_⟩
  refine ⟨Nat.zero_le _, fun r hr => ⟨_, rfl, x, _, dx, _, rfl, (upd_ne (ne_of_none upd_same hr)).trans upd_same, T.clS, T.s_rows, (by show 3 < 1000; decide), ?_⟩⟩
  have hrx : r ≠ x := (ne_of_none upd_same hr).symm
  have hr0 : H r = none := by rw [upd_upd, upd_upd, upd_ne hrx] at hr; exact hr
  refine q _ r ?_ hr0 ?_ ?_
  · rw [upd_same, put_sg]
  · rw [upd_ne hrx, upd_same]
  · intro b o e hb
    rw [upd_ne hb, upd_ne (ne_of_none e hr0), upd_ne hb, upd_ne hb, upd_ne hb]
    exact e
theorem rd_Reading (T : TxC K ad) (h : sp_Reading K ad vs H Q E) : wp_Reading K ad { nx := fun _ H' => Q .non H', rt := Q } (L2.start N_Reading vs) H := by
  obtain ⟨x, dx, b0, rfl, hx, q⟩ := h
  refine ⟨_, rfl, _, rfl, x, _, dx, _, rfl, hx, T.clR, T.r_too_long, (by show 0 < 1000; decide), ?_⟩
  refine ⟨Nat.zero_le _, fun s hs => ?_⟩
  have hsx : x ≠ s := ne_of_none upd_same hs
  have hs0 : H s = none := by rw [upd_ne hsx.symm] at hs; exact hs
  refine ⟨_, rfl, x, _, dx, _, rfl, (upd_ne hsx).trans upd_same, T.clR, T.r_signs, (by show 1 < 1000; decide), ?_⟩
  refine ⟨_, rfl, x, _, dx, _, rfl, upd_same, T.clR, T.r_fault, (by show 2 < 1000; decide), ?_⟩
  refine q _ s ?_ hs0 ?_ ?_
  · rw [upd_same, put_rd]
  · rw [upd_ne hsx.symm, upd_ne hsx.symm, upd_same]
  · intro b o e hb
    rw [upd_ne hb, upd_ne hb, upd_ne (ne_of_none e hs0), upd_ne hb]
    exact e
theorem paired_snoc {α β : Type} {F : α → β → Prop} {a : α} {b : β} (h : F a b) : ∀ {l₁ : List α} {l₂ : List β}, Paired F l₁ l₂ → Paired F (l₁ ++ [a]) (l₂ ++ [b])
  | _, _, .nil => .cons h .nil
  | _, _, .cons r t => .cons r (paired_snoc h t)
theorem mem_sizes {n : Nat} (h : n ≤ MOST) : n < sizeLine := Nat.lt_of_le_of_lt h (by decide)
def WordX (l : Addr) (H : Hp) (a : Addr) (w : Nat × Bytes) : Prop := ∃ b, H a = some (.tup [.int w.1, .ref b]) ∧ H b = some (.lst (bv w.2)) ∧ b ≠ l
theorem word_step {H H' : Hp} {l b tp : Addr} {as : List Addr} {done : List (Nat × Bytes)} {w : Bytes} {ws : Nat} (hl : H l = none) (s1 : Same H H') (hl1 : H' l = some (.lst (as.map V.ref))) (hp1 : Paired (WordX l H') as done) (hb : H' b = none)
    (ht : (upd H' b (.lst (bv w))) tp = none) : Same H (upd (upd (upd H' b (.lst (bv w))) tp (.tup [.int ws, .ref b])) l (.lst (as.map V.ref ++ [.ref tp]))) ∧
      (upd (upd (upd H' b (.lst (bv w))) tp (.tup [.int ws, .ref b])) l (.lst (as.map V.ref ++ [.ref tp]))) l = some (.lst ((as ++ [tp]).map V.ref)) ∧
      Paired (WordX l (upd (upd (upd H' b (.lst (bv w))) tp (.tup [.int ws, .ref b])) l (.lst (as.map V.ref ++ [.ref tp])))) (as ++ [tp]) (done ++ [(ws, w)]) ∧
      (upd (upd H' b (.lst (bv w))) tp (.tup [.int ws, .ref b])) l = some (.lst (as.map V.ref)) := by
  have s2 : Same H' (upd (upd H' b (.lst (bv w))) tp (.tup [.int ws, .ref b])) := (Same.new hb).trans (Same.new ht)
  have hl2 := s2 _ _ hl1
  have nbl : b ≠ l := (ne_of_none hl1 hb).symm
  have ntl : tp ≠ l := (ne_of_none (Same.new hb _ _ hl1) ht).symm
  have nbt : b ≠ tp := ne_of_none upd_same ht
  have k : ∀ c o, (upd (upd H' b (.lst (bv w))) tp (.tup [.int ws, .ref b])) c = some o → c ≠ l → (upd (upd (upd H' b (.lst (bv w))) tp (.tup [.int ws, .ref b])) l (.lst (as.map V.ref ++ [.ref tp]))) c = some o := fun c o e n => by
    rw [upd_ne n]; exact e
  refine ⟨fun c o e => k c o (s2 c o (s1 c o e)) (ne_of_none e hl), by rw [upd_same, List.map_append]; rfl, paired_snoc ?_ (Paired.mono hp1 ?_), hl2⟩
  · exact ⟨b, k _ _ upd_same ntl, k _ _ (by rw [upd_ne nbt, upd_same]) nbl, nbl⟩
  · rintro c q ⟨b', h1, h2, h3⟩
    have hc := s2 _ _ h1
    exact ⟨b', k _ _ hc (ne_of hc hl2 (by intro z; cases z)), k _ _ (s2 _ _ h2) h3, h3⟩
theorem rd_split_words (T : TxC K ad) (h : sp_split_words K ad vs H Q E) : wp_split_words K ad { nx := fun _ H' => Q .non H', rt := Q } (L2.start N_split_words vs) H := by
  obtain ⟨a, t, p, e, rfl, ht, hpe, het, hmost, q⟩ := h
  have hM : MOST = 100000 := rfl
  -- words = []
  refine ⟨Nat.zero_le _, fun l hl => ?_⟩
  have s0 : Same H (upd H l (.lst [])) := Same.new hl
  refine ⟨_, rfl, ?_⟩
  -- for at in range(start, end)
  refine ⟨_, rfl, _, rfl, p, e, rfl, ⟨by omega, by omega, by omega, by omega⟩, for_range (lo := (p : Int)) (n := ((e : Int) - (p : Int)).toNat)
    (fun i σ H' => ∃ (v : Option V) (ws : Nat) (as : List Addr) (done : List (Nat × Bytes)), σ = [some (.ref a), some (.int p), some (.int e), some (.ref l), some (.int (ws : Nat)), v] ∧ Same H H' ∧ H' l = some (.lst (as.map V.ref)) ∧ Paired (WordX l H') as done ∧
      p ≤ ws ∧ ws ≤ p + i ∧ done.length ≤ i ∧ p + i ≤ e ∧ Gh.cut 32 p [] ((t.drop p).take (e - p)) = done ++ Gh.cutBy 32 ws (p + i - ws) ((t.drop ws).take (p + i - ws)).reverse ((t.drop (p + i)).take (e - (p + i)))) ?_ ?_ ?_⟩
  · refine ⟨none, p, [], [], rfl, s0, upd_same, .nil, Nat.le_refl _, by omega, by simp, by omega, ?_⟩
    simp only [Nat.add_zero, Nat.sub_self, List.take_zero, List.reverse_nil, List.nil_append]
    rfl
  · rintro i σ H' hi ⟨v, ws, as, done, rfl, s1, hl1, hp1, h1, h2, h3, h4, h5⟩
    have hi' : p + i < e := by omega
    have ht1 := s1.seq ht
    have hlen := paired_len hp1
    obtain ⟨c, hc⟩ : ∃ c, t[p + i]? = some c := ⟨_, List.getElem?_eq_getElem (by omega)⟩
    have hdrop : (t.drop (p + i)).take (e - (p + i)) = c :: (t.drop (p + (i + 1))).take (e - (p + (i + 1))) := by
      obtain ⟨hlt, hce⟩ := List.getElem?_eq_some_iff.mp hc
      rw [List.drop_eq_getElem_cons hlt, hce, show e - (p + i) = (e - (p + (i + 1))) + 1 by omega, List.take_succ_cons]
      rfl
    have hadd : ((p : Int) + (i : Nat)) = ((p + i : Nat) : Int) := by omega
    rw [hadd]
    walk_at "wp"
    refine ix_b ht1 hc ?_
    walk_at "wp"
    refine ite2 (fun h6 => ?_) (fun h6 => ?_)
    · have ec : c = 32 := u8_ext (by show c.toNat = 32; omega)
      -- words.append((word_start, t[word_start:at]))
      refine ⟨_, rfl, .inl ⟨rfl, _, SqL.of hl1⟩, ?_⟩
      walk_at "wp"
      refine sl_b ht1 (by omega) (by omega) fun b hb => ⟨by show 2 ≤ sizeLine; decide, fun tp htp => ?_⟩
      obtain ⟨w1, w2, w3, w4⟩ := word_step (ws := ws) hl s1 hl1 hp1 hb htp
      refine ⟨l, _, _, rfl, rfl, w4, by rw [List.length_map, hlen]; exact mem_sizes (by omega), ?_⟩
      walk_at "wp"
      have hadd2 : (((p + i : Nat) : Int) + 1) = ((p + i + 1 : Nat) : Int) := by omega
      rw [hadd2]
      refine ⟨_, p + i + 1, _, _, rfl, w1, w2, w3, by omega, by omega, by rw [List.length_append]; simp; omega, by omega, ?_⟩
      rw [h5, hdrop, ec, cutBy_hit, List.reverse_reverse, List.append_assoc]
      have e1 : ws + (p + i - ws) + 1 = p + i + 1 := by omega
      have e2 : p + (i + 1) - (p + i + 1) = 0 := by omega
      rw [e1, e2]
      simp only [List.take_zero, List.reverse_nil, List.singleton_append, Nat.add_assoc]
    · have ec : c ≠ 32 := fun z => h6 (by rw [z]; rfl)
      refine ⟨_, ws, as, done, rfl, s1, hl1, hp1, h1, by omega, by omega, by omega, ?_⟩
      rw [h5, hdrop, cutBy_miss ec]
      have e1 : p + i - ws + 1 = p + (i + 1) - ws := by omega
      have e2 : (t.drop ws).take (p + (i + 1) - ws) = (t.drop ws).take (p + i - ws) ++ [c] := by
        rw [← e1]
        refine take_snoc ?_
        rw [List.getElem?_drop, show ws + (p + i - ws) = p + i by omega]
        exact hc
      rw [e2, e1, List.reverse_append]
      rfl
  · rintro σ H' ⟨v, ws, as, done, rfl, s1, hl1, hp1, h1, h2, h3, h4, h5⟩
    have hn : p + ((e : Int) - (p : Int)).toNat = e := by omega
    rw [hn] at h5 h2
    have ht1 := s1.seq ht
    have hlen := paired_len hp1
    refine ⟨_, rfl, .inl ⟨rfl, _, SqL.of hl1⟩, ?_⟩
    walk_at "wp"
    refine sl_b ht1 (by omega) (by omega) fun b hb => ⟨by show 2 ≤ sizeLine; decide, fun tp htp => ?_⟩
    obtain ⟨w1, w2, w3, w4⟩ := word_step (ws := ws) hl s1 hl1 hp1 hb htp
    refine ⟨l, _, _, rfl, rfl, w4, by rw [List.length_map, hlen]; exact mem_sizes (by omega), ?_⟩
    walk_at "wp"
    refine q _ l w1 ⟨_, w2, ?_⟩
    rw [h5, Nat.sub_self, List.take_zero, cutBy_nil, List.reverse_reverse]
    exact Paired.mono w3 fun c q ⟨b', z1, z2, _⟩ => ⟨b', z1, z2⟩
end
end Pg

end
section
set_option Elab.async false
set_option linter.all false
set_option maxRecDepth 100000
set_option maxHeartbeats 2000000
namespace Pg
open PySem PySem.Spec PyProof.Rows L2
open Gh (Bytes Name Draft Fault Signs isSmall isDigit isBig nameOf)
open Gm
theorem Same.updN {H H' : Hp} {D : Addr} {o : HO} (s : Same H H') (h : H D = none) : Same H (upd H' D o) := fun b u e => by rw [upd_ne (ne_of_none e h)]; exact s _ _ e
theorem size_lt {n : Nat} (h : n ≤ MOST) : n < sizeLine := Nat.lt_of_le_of_lt h (by decide)
theorem size_le {n : Nat} (h : n ≤ MOST) : n ≤ sizeLine := Nat.le_of_lt (size_lt h)
def LcW (J : It) (g : TG) (tt : TT) (te : TE) (vs : List Nat) (σ : L2.St) (H : Hp) (D : Addr) (Qd : Hp → Prop) : Prop := ∃ W : Nat → Nat → Hp → Prop, (∃ m, W 0 m (upd H D (.lst []))) ∧ ∀ i m H, W i m H →
  (J.stop i H ∧ Qd H) ∨ (J.go i H ∧ ∃ Nx : Hp → Prop, (∀ H', Nx H' → ∃ m', m' < m ∧ W (i + 1) m' H') ∧ ∀ x H', J.yld i H x H' → g x (wipe σ vs) H' fun σ2 H2 => wipe σ2 vs = wipe σ vs ∧ tt σ2 H2 fun b H3 =>
    if b = true then te σ2 H3 fun y H4 => ∃ acc, H4 D = some (.lst acc) ∧ acc.length < sizeLine ∧ Nx (upd H4 D (.lst (acc ++ [y]))) else Nx H3)
theorem lc_openT {K : PySem.W.Frag} {t te : TE} {g : TG} {tt : TT} {vs : List Nat} {σ : L2.St} {H : Hp} {Q : VK} (h : t σ H fun x H1 => ∃ a, x = .ref a ∧ (∃ xs, SqT K H1 a xs) ∧ ∀ D, H1 D = none → LcW (Itt K a) g tt te vs σ H1 D fun H' => Q (.ref D) H') : tLc (iTup K t) g tt te vs σ H Q := h
theorem lc_openL {K : PySem.W.Frag} {t te : TE} {g : TG} {tt : TT} {vs : List Nat} {σ : L2.St} {H : Hp} {Q : VK} (h : t σ H fun x H1 => ∃ a, x = .ref a ∧ (∃ xs, SqL K H1 a xs) ∧ ∀ D, H1 D = none → LcW (Itl K a) g tt te vs σ H1 D fun H' => Q (.ref D) H') : tLc (iList K t) g tt te vs σ H Q := h
section
variable {K : PySem.W.Frag} {a : Addr} {xs ys : List V} {g : TG} {te : TE} {vs : List Nat} {σ : L2.St} {H : Hp} {D : Addr} {Qd : Hp → Prop}
theorem lc_pure (hD : H D = none) (ha : SqL K H a xs) (hl : ys.length = xs.length) (hm : xs.length ≤ MOST)
    (hs : ∀ (i : Nat) (x y : V) (H' : Hp) (R : VK) (N : Hp → Prop), xs[i]? = some x → ys[i]? = some y → Same H H' → R y H' → g x (wipe σ vs) H' fun σ2 H2 => wipe σ2 vs = wipe σ vs ∧ tYes σ2 H2 fun b H3 => if b = true then te σ2 H3 R else N H3)
    (hd : ∀ H', Same H H' → H' D = some (.lst ys) → Qd H') :
    LcW (Itl K a) g tYes te vs σ H D Qd := by
  refine lc_list (xs := xs) (fun i H' => Same H H' ∧ H' D = some (.lst (ys.take i))) ⟨Same.updN (Same.refl H) hD, upd_same⟩ (fun i H' _ p => p.1.seq ha) ?_ (fun H' p => hd H' p.1 (by rw [← hl, List.take_length] at p; exact p.2))
  rintro i x H' hx ⟨s1, h1⟩
  have hi : i < xs.length := (List.getElem?_eq_some_iff.mp hx).1
  obtain ⟨y, hy⟩ : ∃ y, ys[i]? = some y := ⟨_, List.getElem?_eq_getElem (by omega)⟩
  refine hs i x y H' _ _ hx hy s1 ⟨_, h1, ?_, Same.updN s1 hD, ?_⟩
  · rw [List.length_take]; exact size_lt (by omega)
  · rw [upd_same, take_snoc hy]
theorem lc_pureT (hD : H D = none) (ha : SqT K H a xs) (hl : ys.length = xs.length) (hm : xs.length ≤ MOST)
    (hs : ∀ (i : Nat) (x y : V) (H' : Hp) (R : VK) (N : Hp → Prop), xs[i]? = some x → ys[i]? = some y → Same H H' → R y H' → g x (wipe σ vs) H' fun σ2 H2 => wipe σ2 vs = wipe σ vs ∧ tYes σ2 H2 fun b H3 => if b = true then te σ2 H3 R else N H3)
    (hd : ∀ H', Same H H' → H' D = some (.lst ys) → Qd H') :
    LcW (Itt K a) g tYes te vs σ H D Qd := by
  refine lc_tup (xs := xs) (fun i H' => Same H H' ∧ H' D = some (.lst (ys.take i))) ⟨Same.updN (Same.refl H) hD, upd_same⟩ (fun i H' _ p => Same.sqT p.1 ha) ?_ (fun H' p => hd H' p.1 (by rw [← hl, List.take_length] at p; exact p.2))
  rintro i x H' hx ⟨s1, h1⟩
  have hi : i < xs.length := (List.getElem?_eq_some_iff.mp hx).1
  obtain ⟨y, hy⟩ : ∃ y, ys[i]? = some y := ⟨_, List.getElem?_eq_getElem (by omega)⟩
  refine hs i x y H' _ _ hx hy s1 ⟨_, h1, ?_, Same.updN s1 hD, ?_⟩
  · rw [List.length_take]; exact size_lt (by omega)
  · rw [upd_same, take_snoc hy]
end
theorem for_enum {K : PySem.W.Frag} {a : Addr} {xs : List V} {g : TG} {tb : TS} {D : Ends} {σ : L2.St} {H : Hp} (Pv : Nat → L2.St → Hp → Prop) (h0 : Pv 0 σ H) (hl : ∀ i σ H, i ≤ xs.length → Pv i σ H → SqL K H a xs)
    (hs : ∀ i x σ H T, xs[i]? = some x → Pv i σ H → H T = none → g (.ref T) σ (upd H T (.tup [.int (i : Nat), x])) fun σ2 H2 => tb { D with nx := Pv (i + 1), ct := Pv (i + 1), bk := D.nx } σ2 H2) (hd : ∀ σ H, Pv xs.length σ H → D.nx σ H) :
    ∃ W : Nat → Nat → L2.St → Hp → Prop, (∃ m, W 0 m σ H) ∧ ∀ i m σ H, W i m σ H →
      ((Ite K a).stop i H ∧ D.nx σ H) ∨ ((Ite K a).go i H ∧ ∃ N : L2.St → Hp → Prop, (∀ σ' H', N σ' H' → ∃ m', m' < m ∧ W (i + 1) m' σ' H') ∧ ∀ x H', (Ite K a).yld i H x H' → g x σ H' fun σ2 H2 => tb { D with nx := N, ct := N, bk := D.nx } σ2 H2) := by
  refine ⟨fun i m σ H => m = xs.length - i ∧ i ≤ xs.length ∧ Pv i σ H, ⟨xs.length, by simp, Nat.zero_le _, h0⟩, ?_⟩
  rintro i m σ H ⟨rfl, hi, p⟩
  have q := hl i σ H hi p
  by_cases hlt : i < xs.length
  · refine .inr ⟨⟨xs, xs[i], q, by simp [hlt]⟩, Pv (i + 1), fun σ' H' p' => ⟨xs.length - (i + 1), by omega, rfl, hlt, p'⟩, fun v H' y => ?_⟩
    obtain ⟨T, x, rfl, hT, rfl, hx⟩ := y
    exact hs i x σ H T (hx xs q) p hT
  · have e : i = xs.length := by omega
    subst e
    exact .inl ⟨⟨xs, q, Nat.le_refl _⟩, hd σ H p⟩
theorem paired_get {α β : Type} {F : α → β → Prop} : ∀ {l₁ : List α} {l₂ : List β}, Paired F l₁ l₂ → ∀ {i : Nat} {a : α}, l₁[i]? = some a → ∃ b, l₂[i]? = some b ∧ F a b
  | _, _, .nil, i, a, h => by simp at h
  | _, _, .cons r t, 0, a, h => by
    have e := Option.some.inj h
    subst e
    exact ⟨_, rfl, r⟩
  | _, _, .cons r t, i + 1, a, h => by
    obtain ⟨b, h1, h2⟩ := paired_get t (i := i) h
    exact ⟨b, h1, h2⟩
theorem paired_get' {α β : Type} {F : α → β → Prop} : ∀ {l₁ : List α} {l₂ : List β}, Paired F l₁ l₂ → ∀ {i : Nat} {b : β}, l₂[i]? = some b → ∃ a, l₁[i]? = some a ∧ F a b
  | _, _, .nil, i, a, h => by simp at h
  | _, _, .cons r t, 0, a, h => by
    have e := Option.some.inj h
    subst e
    exact ⟨_, rfl, r⟩
  | _, _, .cons r t, i + 1, a, h => by
    obtain ⟨b, h1, h2⟩ := paired_get' t (i := i) h
    exact ⟨b, h1, h2⟩
theorem map_ref_get {as : List Addr} {i : Nat} {x : V} (h : (as.map V.ref)[i]? = some x) : ∃ b, as[i]? = some b ∧ x = .ref b := by
  rw [List.getElem?_map] at h
  cases hb : as[i]? with
  | none => rw [hb] at h; cases h
  | some b => rw [hb] at h; exact ⟨b, rfl, (Option.some.inj h).symm⟩
theorem fld_r {K : PySem.W.Frag} {H : Hp} {a C dx : Addr} {fs : List (Str × V)} {f : Str} {v : V} {R : V → Prop} (h : H a = some (.ins C dx fs)) (c : Cls K C) (n : NoAttr K C f) (l : fs.lookup f = some v) (q : R v) : (∃ a' C' dx' fs' v', V.ref a = .ref a' ∧ H a' = some (.ins C' dx' fs') ∧ Cls K C' ∧ NoAttr K C' f ∧ fs'.lookup f = some v' ∧ R v') :=
  ⟨a, C, dx, fs, v, rfl, h, c, n, l, q⟩
theorem yesI {σ : L2.St} {H : Hp} {te : TE} {R : VK} {N : Hp → Prop} (h : te σ H R) : tYes σ H (fun b H3 => if b = true then te σ H3 R else N H3) := by
  show (if true = true then te σ H R else N H)
  rw [if_pos rfl]; exact h
theorem paired_last {α β : Type} {F : α → β → Prop} {l₁ : List α} {l₂ : List β} (p : Paired F l₁ l₂) {b : β} (h : l₂.getLast? = some b) : ∃ a, l₁.getLast? = some a ∧ F a b := by
  rw [List.getLast?_eq_getElem?] at h
  obtain ⟨a, h1, h2⟩ := paired_get' p h
  exact ⟨a, by rw [List.getLast?_eq_getElem?, paired_len p]; exact h1, h2⟩
theorem ix_last {K : PySem.W.Frag} {H : Hp} {p : Addr} {xs : List V} {v : V} {Q : VK} (h : SqL K H p xs) (e : xs.getLast? = some v) (q : Q v H) : rIxL K (.ref p) (.int (-1)) H Q := by
  obtain ⟨ys, rfl⟩ : ∃ ys, xs = ys ++ [v] := by
    rw [List.getLast?_eq_some_iff] at e
    exact e
  exact ix_z h q
end Pg

end
section
set_option Elab.async false
set_option linter.all false
set_option maxRecDepth 100000
set_option maxHeartbeats 2000000
namespace Pg
open PySem PySem.Spec PyProof.Rows L2
open Gh (Bytes Name Draft Fault Signs isSmall isDigit isBig nameOf)
open Gm
local macro_rules | `(tactic| walk_at "wp") => `(tactic| try simp only [tSeq, tAsg, gName, tVar, tC, tRet, tRetN, tIfS, tDrop, tNext, tAnd, tOr, tNot, tTest, tB, tOp, tUn, tChain, tCB, tCons, tNil, tIf, tAndV, tCall, tPart, tNoPart, tSl, tTup, tLst, iList, iTup, iEnum, wipe, tFld, tBM, gTup, gCons, gNil, i0, u0, eq_i, ne_i, isN_non, isN_ref, notN_non, notN_ref, bl_test, int_ex,
  L2.start, List.map_cons, List.map_nil, List.length_cons, List.length_nil, List.cons_append, List.nil_append, List.append_nil, List.replicate, Nat.reduceAdd, Nat.reduceSub, List.getElem?_cons_zero, List.getElem?_cons_succ, Option.some.injEq, exists_eq_left', List.set_cons_zero, List.set_cons_succ, decide_eq_true_eq, Bool.not_eq_true', decide_eq_false_iff_not, Bool.false_eq_true, if_true, if_false, Bool.not_true, Bool.not_false])
section
variable {K : PySem.W.Frag} {ad : Ad} {vs : List V} {H : Hp} {Q : VK} {E : XK}
theorem inV_cells (r : List Bool) : inV (.int 35) (bv (cellBytes r)) = r.any id := by
  induction r with
  | nil => rfl
  | cons b r ih =>
    show (eqV (.int ((cellB b).toNat : Nat)) (.int 35) || inV (.int 35) (bv (cellBytes r))) = (b || r.any id)
    rw [ih]
    cases b <;> rfl
theorem flat_bv (w : Bytes) : (bv w).all flatV = true := by
  induction w with
  | nil => rfl
  | cons c w ih => rw [bv_cons, List.all_cons, ih]; rfl
theorem notin_cells {r : List Bool} {b : Addr} (h : SqL K H b (bv (cellBytes r))) (q : Q (.bl (!r.any id)) H) : rIn K true (.int 35) (.ref b) H Q :=
  ⟨b, _, rfl, .inl h, rfl, flat_bv _, by rw [inV_cells]; exact q⟩
theorem cellBytes_head {r : List Bool} (h : r ≠ []) : (cellBytes r)[0]? = some (cellB (r.headD false)) := by
  cases r with
  | nil => exact absurd rfl h
  | cons b r => rfl
theorem bv_last {r : List Bool} (h : r ≠ []) : (bv (cellBytes r)).getLast? = some (.int ((cellB (r.getLastD false)).toNat : Nat)) := by
  have e2 : r.getLast? = some (r.getLastD false) := by
    rw [List.getLastD_eq_getLast?, List.getLast?_eq_some_getLast h]; rfl
  unfold bv bi cellBytes
  rw [List.getLast?_map, List.getLast?_map, List.getLast?_map, e2]
  rfl
theorem rd_has_bare_rim (T : TxC K ad) (h : sp_has_bare_rim K ad vs H Q E) : wp_has_bare_rim K ad { nx := fun _ H' => Q .non H', rt := Q } (L2.start N_has_bare_rim vs) H := by
  obtain ⟨r, as, rows, rfl, hr, hrows, hne, hrn, hlen, q⟩ := h
  have hM : MOST = 100000 := rfl
  have lAs := paired_len hrows
  have get : ∀ {i : Nat} {x : V}, (as.map V.ref)[i]? = some x → ∃ b row, x = .ref b ∧ rows[i]? = some row ∧ H b = some (.lst (bv (cellBytes row))) ∧ row ≠ [] := by
    intro i x hx
    obtain ⟨b, hb, rfl⟩ := map_ref_get hx
    obtain ⟨row, h1, h2⟩ := paired_get hrows hb
    exact ⟨b, row, rfl, h1, h2, hrn row (List.mem_of_getElem? h1)⟩
  unfold wp_has_bare_rim N_has_bare_rim
  walk_at "wp"
  -- left
  refine lc_openL ?_
  walk_at "wp"
  refine ⟨r, rfl, ⟨_, SqL.of hr⟩, fun L hL => lc_pure (ys := bv (cellBytes (rows.map fun r => r.headD false))) hL (SqL.of hr) (by rw [bv_len]; simp [cellBytes, lAs]) (by rw [List.length_map]; omega) ?_ ?_⟩
  · intro i x y H' R N hx hy s1 hR
    obtain ⟨b, row, rfl, h1, h2, h3⟩ := get hx
    have ey : y = .int ((cellB (row.headD false)).toNat : Nat) := by
      have : (bv (cellBytes (rows.map fun r => r.headD false)))[i]? = some (.int ((cellB (row.headD false)).toNat : Nat)) := by simp [bv, bi, cellBytes, h1]
      rw [this] at hy; exact (Option.some.inj hy).symm
    subst ey
    exact ⟨rfl, yesI ⟨_, rfl, ix_b (j := 0) (SqL.of (s1 _ _ h2)) (cellBytes_head h3) hR⟩⟩
  intro H1 s1 hL1
  have hr1 := s1 _ _ hr
  -- right
  refine lc_openL ?_
  walk_at "wp"
  refine ⟨r, rfl, ⟨_, SqL.of hr1⟩, fun R2 hR2 => lc_pure (ys := bv (cellBytes (rows.map fun r => r.getLastD false))) hR2 (SqL.of hr1) (by rw [bv_len]; simp [cellBytes, lAs]) (by rw [List.length_map]; omega) ?_ ?_⟩
  · intro i x y H' R N hx hy s2 hR
    obtain ⟨b, row, rfl, h1, h2, h3⟩ := get hx
    have ey : y = .int ((cellB (row.getLastD false)).toNat : Nat) := by
      have : (bv (cellBytes (rows.map fun r => r.getLastD false)))[i]? = some (.int ((cellB (row.getLastD false)).toNat : Nat)) := by simp [bv, bi, cellBytes, h1]
      rw [this] at hy; exact (Option.some.inj hy).symm
    subst ey
    refine ⟨rfl, yesI ?_⟩
    walk_at "wp"
    exact ix_last (SqL.of (s2 _ _ (s1 _ _ h2))) (bv_last h3) hR
  intro H2 s2 hL2'
  have s12 : Same H H2 := s1.trans s2
  have hr2 := s12 _ _ hr
  have hL1' := s2 _ _ hL1
  obtain ⟨row0, hrow0⟩ : ∃ x, rows[0]? = some x := by
    cases rows with
    | nil => exact absurd rfl hne
    | cons x _ => exact ⟨x, rfl⟩
  have hrowl : rows.getLast? = some (rows.getLastD []) := by rw [List.getLastD_eq_getLast?, List.getLast?_eq_some_getLast hne]; rfl
  obtain ⟨b0, hb0, k0⟩ := paired_get' hrows hrow0
  obtain ⟨bl, hbl, kl⟩ := paired_last hrows hrowl
  refine lc_openT ?_
  walk_at "wp"
  refine ix_l (j := 0) (SqL.of hr2) (v := .ref b0) (by simp [hb0]) ?_
  walk_at "wp"
  refine ix_last (SqL.of hr2) (v := .ref bl) (by simp [hbl]) ?_
  walk_at "wp"
  refine ⟨(by show 4 ≤ sizeLine; decide), fun tp htp => ?_⟩
  have s3 : Same H2 (upd H2 tp (.tup [.ref b0, .ref bl, .ref L, .ref R2])) := Same.new htp
  have s13 := s12.trans s3
  refine ⟨tp, rfl, ⟨_, SqT.of upd_same⟩, fun B hB => ?_⟩
  have hp : Paired (fun x y => ∃ b r, x = V.ref b ∧ H2 b = some (.lst (bv (cellBytes r))) ∧ y = V.bl (!r.any id)) [V.ref b0, .ref bl, .ref L, .ref R2]
      ([!row0.any id, !(rows.getLastD []).any id, !(rows.map fun r => r.headD false).any id, !(rows.map fun r => r.getLastD false).any id].map V.bl) :=
    .cons ⟨b0, _, rfl, s12 _ _ k0, rfl⟩ (.cons ⟨bl, _, rfl, s12 _ _ kl, rfl⟩ (.cons ⟨L, _, rfl, hL1', rfl⟩ (.cons ⟨R2, _, rfl, hL2', rfl⟩ .nil)))
  refine lc_pureT (ys := [!row0.any id, !(rows.getLastD []).any id, !(rows.map fun r => r.headD false).any id, !(rows.map fun r => r.getLastD false).any id].map V.bl) hB (SqT.of upd_same) rfl (by show 4 ≤ MOST; omega) ?_ ?_
  · intro i x y H' R N hx hy s4 hR
    obtain ⟨y', hy', b, r, rfl, hb, rfl⟩ := paired_get hp hx
    rw [hy'] at hy
    have ey := Option.some.inj hy
    subst ey
    refine ⟨rfl, yesI ?_⟩
    walk_at "wp"
    exact notin_cells (SqL.of (s4 _ _ (s3 _ _ hb))) hR
  · intro H' s4 hB'
    refine ⟨B, _, rfl, SqL.of hB', ?_⟩
    have e : [!row0.any id, !(rows.getLastD []).any id, !(rows.map fun r => r.headD false).any id, !(rows.map fun r => r.getLastD false).any id].any id = bareRim rows := by
      have e0 : rows.headD [] = row0 := by
        cases rows with
        | nil => exact absurd rfl hne
        | cons x _ => exact Option.some.inj hrow0
      unfold bareRim
      rw [e0]
      simp only [List.any_cons, List.any_nil, List.any_map, id, Function.comp_def]
      cases row0.any id <;> cases (rows.getLastD []).any id <;> cases (rows.any fun r => r.headD false) <;> cases (rows.any fun r => r.getLastD false) <;> rfl
    rw [e]
    exact q _ (s13.trans s4)
end
end Pg

end
section
set_option Elab.async false
set_option linter.all false
set_option maxRecDepth 100000
set_option maxHeartbeats 2000000
namespace Pg
open PySem PySem.Spec PyProof.Rows L2
open Gh (Bytes Name Draft Fault Signs isSmall isDigit isBig nameOf)
open Gm
local macro_rules | `(tactic| walk_at "wp") => `(tactic| try simp only [tSeq, tAsg, gName, tVar, tC, tRet, tRetN, tIfS, tDrop, tNext, tAnd, tOr, tNot, tTest, tB, tOp, tUn, tChain, tCB, tCons, tNil, tIf, tAndV, tCall, tPart, tNoPart, tSl, tTup, tLst, iList, iTup, iEnum, wipe, tFld, tBM, gTup, gCons, gNil, i0, u0, eq_i, ne_i, isN_non, isN_ref, notN_non, notN_ref, bl_test, int_ex,
  L2.start, List.map_cons, List.map_nil, List.length_cons, List.length_nil, List.cons_append, List.nil_append, List.append_nil, List.replicate, Nat.reduceAdd, Nat.reduceSub, List.getElem?_cons_zero, List.getElem?_cons_succ, Option.some.injEq, exists_eq_left', List.set_cons_zero, List.set_cons_succ, decide_eq_true_eq, Bool.not_eq_true', decide_eq_false_iff_not, Bool.false_eq_true, if_true, if_false, Bool.not_true, Bool.not_false])
section
variable {K : PySem.W.Frag} {ad : Ad} {vs : List V} {H : Hp} {Q : VK} {E : XK}
theorem sg_fld {C a r : Addr} {ok : Addr → Prop} {p : Nat} {nm : Bytes} {sd : List Bytes} {rows : List (List Bool)} (c : Cls K C) (h : SgAt C H ok a r p nm sd rows) :
    ∃ (dx n so : Addr) (ss as : List Addr), H a = some (.ins C dx (sgF p n so r)) ∧ H n = some (.lst (bv nm)) ∧ H so = some (.lst (ss.map V.ref)) ∧ BytesAt H ss sd ∧ H r = some (.lst (as.map V.ref)) ∧ RowsAt H as rows := by
  obtain ⟨dx, n, so, ss, as, h1, h2, _, h4, _, h6, _, h8, h9, _⟩ := h.ex
  exact ⟨dx, n, so, ss, as, h1, h2, h4, h6, h8, h9⟩
theorem rd_whole_sign_fault (T : TxC K ad) (h : sp_whole_sign_fault K ad vs H Q E) : wp_whole_sign_fault K ad { nx := fun _ H' => Q .non H', rt := Q } (L2.start N_whole_sign_fault vs) H := by
  obtain ⟨a, r, p, ok, d, rfl, hs, hg, q⟩ := h
  obtain ⟨dx, n, so, ss, as, h1, h2, h4, h6, h8, h9⟩ := sg_fld T.clS hs
  have lAs := paired_len h9
  unfold wp_whole_sign_fault N_whole_sign_fault
  walk_at "wp"
  refine fld_r h1 T.clS T.s_rows (sg_rows _ _ _ _) ?_
  walk_at "wp"
  refine len_h h8 ?_
  walk_at "wp"
  have q' : ∀ (f : Option Fault) (H' : Hp) (v : V), wholeFault d p = f → Same H H' → FaultAt H' v f → Q v H' := fun f H' v e s hf => q H' v s (by rw [e]; exact hf)
  refine ite2 (fun c1 => ?_) (fun c1 => ?_)
  · have e0 : d.rows = [] := by
      rw [List.length_map, lAs] at c1
      exact List.eq_nil_of_length_eq_zero (by omega)
    refine ⟨by show 2 ≤ sizeLine; decide, fun tp htp => ?_⟩
    refine q' (some (1, p)) _ _ (by unfold wholeFault; rw [if_pos e0]) (Same.new htp) ⟨tp, rfl, upd_same⟩
  · have e0 : d.rows ≠ [] := by
      intro e
      rw [List.length_map, lAs, e] at c1
      exact c1 rfl
    refine fld_r h1 T.clS T.s_rows (sg_rows _ _ _ _) ?_
    walk_at "wp"
    refine ⟨r, as, d.rows, rfl, h8, h9, e0, fun x hx e => ?_, hg.high, fun H1 s1 => ?_⟩
    · have := hg.lo x hx
      rw [e] at this
      simp at this
    · walk_at "wp"
      have et := tight_eq hg e0
      refine ite2 (fun c2 => ?_) (fun c2 => ?_)
      · refine fld_r (s1 _ _ h1) T.clS T.s_place (sg_place _ _ _ _) ?_
        walk_at "wp"
        refine ⟨by show 2 ≤ sizeLine; decide, fun tp htp => ?_⟩
        refine q' (some (4, d.place)) _ _ (by unfold wholeFault; rw [if_neg e0, if_pos (by rw [et, c2]; rfl)]) (s1.trans (Same.new htp)) ⟨tp, rfl, upd_same⟩
      · refine q' none _ _ (by unfold wholeFault; rw [if_neg e0, if_neg (by rw [et]; simpa using c2)]) s1 rfl
theorem words_ix {ws : List (Nat × Bytes)} {w : Addr} {i : Nat} {x : Nat × Bytes} (h : WordsAt H w ws) (e : ws[i]? = some x) : ∃ (as : List Addr) (a b : Addr), H w = some (.lst (as.map V.ref)) ∧ (as.map V.ref)[i]? = some (.ref a) ∧ H a = some (.tup [.int x.1, .ref b]) ∧ H b = some (.lst (bv x.2)) := by
  obtain ⟨as, h1, h2⟩ := h
  obtain ⟨a, ha, b, hb1, hb2⟩ := paired_get' h2 e
  exact ⟨as, a, b, h1, by rw [List.getElem?_map, ha]; rfl, hb1, hb2⟩
theorem words_len {ws : List (Nat × Bytes)} {w : Addr} (h : WordsAt H w ws) (q : Q (.int (ws.length : Nat)) H) : rLen K [.ref w] H Q := by
  obtain ⟨as, h1, h2⟩ := h
  refine len_h h1 ?_
  rw [List.length_map, paired_len h2]; exact q
theorem lex_step (x y : Nat) (r s : Bool) (h : r = !s) : (if ((y : Nat) : Int) = ((x : Nat) : Int) then r else decide (((y : Nat) : Int) < ((x : Nat) : Int))) = !(decide (x < y) || (decide (x = y) && s)) := by
  rcases Nat.lt_trichotomy x y with h1 | h1 | h1
  · rw [if_neg (by omega), decide_eq_true h1, decide_eq_false (by omega)]; rfl
  · subst h1
    rw [if_pos rfl, decide_eq_false (by omega), decide_eq_true rfl, h]; rfl
  · rw [if_neg (by omega), decide_eq_false (by omega : ¬ x < y), decide_eq_false (by omega : ¬ x = y), decide_eq_true (by omega)]; rfl
theorem lexLe_names (m n : Name) : lexLe (nameV n) (nameV m) = !m.before n := by
  obtain ⟨a1, b1, c1, d1⟩ := m
  obtain ⟨a2, b2, c2, d2⟩ := n
  have u8 : ∀ x y : UInt8, decide (x < y) = decide (x.toNat < y.toNat) := fun x y => by
    by_cases h : x < y
    · rw [decide_eq_true h, decide_eq_true (UInt8.lt_iff_toNat_lt.mp h)]
    · rw [decide_eq_false h, decide_eq_false (fun q => h (UInt8.lt_iff_toNat_lt.mpr q))]
  have u8e : ∀ x y : UInt8, (x == y) = decide (x.toNat = y.toNat) := fun x y => by
    by_cases h : x = y
    · subst h; simp
    · rw [decide_eq_false (fun q => h (u8_ext q))]; exact beq_eq_false_iff_ne.mpr h
  have ne : ∀ x y : Nat, (x == y) = decide (x = y) := fun x y => by
    by_cases h : x = y
    · subst h; simp
    · rw [decide_eq_false h]; exact beq_eq_false_iff_ne.mpr h
  unfold nameV Name.before
  simp only [lexLe_cons, u8, u8e, ne]
  refine lex_step _ _ _ _ (lex_step _ _ _ _ (lex_step _ _ _ _ ?_))
  have e := lex_step d1.toNat d2.toNat true false rfl
  rw [Bool.and_false, Bool.or_false] at e
  exact e
theorem signs_now {C S : Addr} {F : Addr → Prop} {z : Gh.Reading} (h : SignsAt C H F S z) : (z.now = none ∧ z.done = [] ∧ H S = some (.lst [])) ∨ ∃ (d : Draft) (ds : List Addr) (a r : Addr), z.now = some d ∧ H S = some (.lst ((ds ++ [a]).map V.ref)) ∧ ¬ F r ∧ r ≠ S ∧ DoneAt C H (fun b => b ≠ S ∧ b ≠ r) ds z.done ∧ SgAt C H (fun b => b ≠ S ∧ b ≠ r) a r d.place d.name.text d.sounds d.rows := by
  obtain ⟨h0, h⟩ := h
  cases hz : z.now with
  | none => rw [hz] at h; exact .inl ⟨rfl, h.2, h.1⟩
  | some d =>
    rw [hz] at h
    obtain ⟨ds, a, r, h1, h2, h3, h4, h5⟩ := h
    exact .inr ⟨d, ds, a, r, rfl, h1, h2, h3, h4, h5⟩
theorem ix_snoc {p : Addr} {ds : List Addr} {a : Addr} (h : SqL K H p ((ds ++ [a]).map V.ref)) (q : Q (.ref a) H) : rIxL K (.ref p) (.int (-1)) H Q := by
  rw [List.map_append] at h
  exact ix_z h q
theorem rd_name_fault (T : TxC K ad) (h : sp_name_fault K ad vs H Q E) : wp_name_fault K ad { nx := fun _ H' => Q .non H', rt := Q } (L2.start N_name_fault vs) H := by
  obtain ⟨w, S, e, f, r, F, z, rfl, hw, hS, hg, q⟩ := h
  unfold wp_name_fault N_name_fault
  walk_at "wp"
  refine words_len hw ?_
  walk_at "wp"
  refine ite2 (fun c1 => ?_) (fun c1 => ?_)
  · have e0 : r = [] := List.eq_nil_of_length_eq_zero (by omega)
    refine ⟨by show 2 ≤ sizeLine; decide, fun tp htp => q _ _ (Same.new htp) ?_⟩
    rw [e0]
    exact ⟨tp, rfl, upd_same⟩
  · obtain ⟨x, u, rfl⟩ : ∃ x u, r = x :: u := by
      cases r with
      | nil => exact absurd rfl c1
      | cons x u => exact ⟨x, u, rfl⟩
    obtain ⟨as, a, b, h1, h2, h3, h4⟩ := words_ix hw (i := 1) (x := x) rfl
    refine ix_l (j := 1) (SqL.of h1) h2 ?_
    walk_at "wp"
    refine ix_t (j := 1) (SqT.of h3) rfl ?_
    walk_at "wp"
    refine ⟨b, x.2, rfl, SqL.of h4, fun H1 v s1 hk => ?_⟩
    have tell : ∀ (kd : Nat) (H2 : Hp) (tp : Addr), Same H H2 → H2 tp = none → nameFault (prevName z) e (x :: u) = some (kd, x.1) → Q (.ref tp) (upd H2 tp (.tup [.int kd, .int x.1])) := fun kd H2 tp s2 htp en =>
      q _ _ (s2.trans (Same.new htp)) (by rw [en]; exact ⟨tp, rfl, upd_same⟩)
    cases hn : nameOf x.2 with
    | none =>
      rw [hn] at hk
      have ek : v = .non := hk
      subst ek
      walk_at "wp"
      refine ix_l (j := 1) (SqL.of (s1 _ _ h1)) h2 ?_
      walk_at "wp"
      refine ix_t (j := 0) (SqT.of (s1 _ _ h3)) rfl ?_
      walk_at "wp"
      exact ⟨by show 2 ≤ sizeLine; decide, fun tp htp => tell 1 H1 tp s1 htp (by simp only [nameFault, hn])⟩
    | some n =>
      rw [hn] at hk
      obtain ⟨ka, rfl, hka⟩ := hk
      walk_at "wp"
      rcases signs_now hS with ⟨z1, z2, z3⟩ | ⟨d, ds, sa, sr, z1, z3, _, _, _, z7⟩
      · refine len_h (s1 _ _ z3) ?_
        walk_at "wp"
        refine ite2 (fun c2 => (by exact absurd c2 (by decide))) (fun c2 => ?_)
        refine q _ _ s1 ?_
        have : prevName z = none := by unfold prevName; rw [z1]; rfl
        simp only [nameFault, hn, this]
        rfl
      · refine len_h (s1 _ _ z3) ?_
        walk_at "wp"
        refine ite2 (fun c2 => ?_) (fun c2 => absurd (by rw [List.length_map, List.length_append]; simp) c2)
        refine ix_snoc (SqL.of (s1 _ _ z3)) ?_
        walk_at "wp"
        obtain ⟨dx, nn, so, ss, as', k1, k2, _⟩ := sg_fld T.clS (z7.same s1)
        refine fld_r k1 T.clS T.s_name (sg_name _ _ _ _) ?_
        walk_at "wp"
        refine ⟨nn, d.name.text, rfl, SqL.of k2, fun H2 v2 s2 hk2 => ?_⟩
        rw [(hg.now d z1).nm] at hk2
        obtain ⟨kb, rfl, hkb⟩ := hk2
        have s12 := s1.trans s2
        refine ⟨ka, kb, nameV n, nameV d.name, rfl, rfl, SqT.of (s2 _ _ hka), SqT.of hkb, ?_⟩
        walk_at "wp"
        rw [lexLe_names]
        have hp : prevName z = some d.name := by unfold prevName; rw [z1]; rfl
        refine ite2 (fun c3 => ?_) (fun c3 => ?_)
        · refine ix_l (j := 1) (SqL.of (s12 _ _ h1)) h2 ?_
          walk_at "wp"
          refine ix_t (j := 0) (SqT.of (s12 _ _ h3)) rfl ?_
          walk_at "wp"
          refine ⟨by show 2 ≤ sizeLine; decide, fun tp htp => tell 2 H2 tp s12 htp ?_⟩
          simp only [nameFault, hn, hp]
          rw [if_neg (by simpa using c3)]
        · refine q _ _ s12 ?_
          simp only [nameFault, hn, hp]
          rw [if_pos (by simpa using c3)]
          rfl
end
end Pg

end
section
set_option Elab.async false
set_option linter.all false
set_option maxRecDepth 100000
set_option maxHeartbeats 2000000
namespace Pg
open PySem PySem.Spec PyProof.Rows L2
open Gh (Bytes Name Draft Fault Signs isSmall isDigit isBig nameOf)
open Gm
local macro_rules | `(tactic| walk_at "wp") => `(tactic| try simp only [tSeq, tAsg, gName, tVar, tC, tRet, tRetN, tIfS, tDrop, tNext, tAnd, tOr, tNot, tTest, tB, tOp, tUn, tChain, tCB, tCons, tNil, tIf, tAndV, tCall, tPart, tNoPart, tSl, tTup, tLst, iList, iTup, iEnum, wipe, tFld, tBM, gTup, gCons, gNil, i0, u0, eq_i, ne_i, isN_non, isN_ref, notN_non, notN_ref, bl_test, int_ex,
  L2.start, List.map_cons, List.map_nil, List.length_cons, List.length_nil, List.cons_append, List.nil_append, List.append_nil, List.replicate, Nat.reduceAdd, Nat.reduceSub, List.getElem?_cons_zero, List.getElem?_cons_succ, Option.some.injEq, exists_eq_left', List.set_cons_zero, List.set_cons_succ, decide_eq_true_eq, Bool.not_eq_true', decide_eq_false_iff_not, Bool.false_eq_true, if_true, if_false, Bool.not_true, Bool.not_false])
section
variable {K : PySem.W.Frag} {ad : Ad} {vs : List V} {H : Hp} {Q : VK} {E : XK}
theorem all_small (w : Bytes) : (w.map isSmall).all id = w.all isSmall := by rw [List.all_map]; rfl
theorem rd_is_sound (T : TxC K ad) (h : sp_is_sound K ad vs H Q E) : wp_is_sound K ad { nx := fun _ H' => Q .non H', rt := Q } (L2.start N_is_sound vs) H := by
  obtain ⟨a, w, rfl, hw, q⟩ := h
  unfold wp_is_sound N_is_sound
  walk_at "wp"
  refine len_b hw ?_
  walk_at "wp"
  have no : Gh.isSound w = false → Q (.bl false) H := fun e => by
    have := q H (Same.refl H); rw [e] at this; exact this
  refine ite2 (fun c1 => ?_) (fun c1 => ?_)
  · refine ite2 (fun c2 => ?_) (fun c2 => ?_)
    · refine lc_openL ?_
      walk_at "wp"
      refine ⟨a, rfl, ⟨_, hw⟩, fun D hD => lc_pure (ys := (w.map isSmall).map V.bl) hD hw (by rw [bv_len]; simp) (by rw [bv_len]; show w.length ≤ 100000; omega) ?_ ?_⟩
      · intro i x y H' R N hx hy s1 hR
        obtain ⟨c, hc⟩ : ∃ c, w[i]? = some c := by
          cases hc : w[i]? with
          | none => simp [bv, bi, hc] at hx
          | some c => exact ⟨c, rfl⟩
        rw [bv_get hc] at hx
        have ex := Option.some.inj hx
        subst ex
        have ey : y = .bl (isSmall c) := by
          simp [hc] at hy; exact hy.symm
        subst ey
        refine ⟨rfl, yesI ?_⟩
        walk_at "wp"
        exact ⟨c, rfl, hR⟩
      · intro H' s1 hD'
        refine ⟨D, _, rfl, SqL.of hD', ?_⟩
        have e : Gh.isSound w = (w.map isSmall).all id := by
          unfold Gh.isSound
          rw [all_small, decide_eq_true (show 1 ≤ w.length by omega), decide_eq_true (show w.length ≤ Gh.LETTERS by show w.length ≤ 8; omega), Bool.true_and, Bool.true_and]
        rw [← e]
        exact q _ s1
    · refine no ?_
      unfold Gh.isSound
      rw [decide_eq_false (show ¬ w.length ≤ Gh.LETTERS by show ¬ w.length ≤ 8; omega), Bool.false_and, Bool.and_false]
  · refine no ?_
    unfold Gh.isSound
    rw [decide_eq_false (show ¬ 1 ≤ w.length by omega), Bool.false_and]
theorem bi_contains (x : Bytes) : ∀ had : List Bytes, (had.map bi).contains (bi x) = had.contains x
  | [] => rfl
  | y :: had => by
    rw [List.map_cons, List.contains_cons, List.contains_cons, bi_contains x had]
    congr 1
    by_cases h : x = y
    · subst h; simp
    · rw [beq_eq_false_iff_ne.mpr h]
      exact beq_eq_false_iff_ne.mpr fun q => h (bi_inj q)
def HadX (l : Addr) (H : Hp) (a : Addr) (w : Bytes) : Prop := H a = some (.lst (bv w)) ∧ a ≠ l
theorem had_ls {l : Addr} {as : List Addr} {had : List Bytes} (h : Paired (HadX l H) as had) : LsAt K H as (had.map bi) := by
  induction h with
  | nil => exact .nil
  | cons r _ ih => exact .cons (SqL.of r.1) ih
theorem sounds_cons (had : List Bytes) (x : Nat × Bytes) (r : List (Nat × Bytes)) : soundsFault had (x :: r) = if Gh.isSound x.2 = false then some (1, x.1) else if had.contains x.2 = true then some (2, x.1) else if 8 ≤ had.length then some (3, x.1) else soundsFault (had ++ [x.2]) r := by
  unfold soundsFault
  rw [Gh.soundsAt]
  by_cases h1 : Gh.isSound x.2 = false
  · rw [if_pos h1, if_pos h1]; rfl
  · rw [if_neg h1, if_neg h1]
    by_cases h2 : had.contains x.2 = true
    · rw [if_pos h2, if_pos h2]; rfl
    · rw [if_neg h2, if_neg h2]
      by_cases h3 : 8 ≤ had.length
      · rw [if_pos h3, if_pos (show Gh.SOUNDS ≤ had.length from h3)]; rfl
      · rw [if_neg h3, if_neg (show ¬ Gh.SOUNDS ≤ had.length from h3)]
theorem rd_sounds_fault (T : TxC K ad) (h : sp_sounds_fault K ad vs H Q E) : wp_sounds_fault K ad { nx := fun _ H' => Q .non H', rt := Q } (L2.start N_sounds_fault vs) H := by
  obtain ⟨w, u, rfl, hw, q⟩ := h
  obtain ⟨ws, hws, hp⟩ := hw
  have hM : MOST = 100000 := rfl
  unfold wp_sounds_fault N_sounds_fault
  walk_at "wp"
  refine ⟨Nat.zero_le _, fun l hl => ?_⟩
  have s0 : Same H (upd H l (.lst [])) := Same.new hl
  refine ⟨_, rfl, w, rfl, ⟨_, SqL.of (s0 _ _ hws)⟩, for_list (xs := ws.map V.ref)
    (fun i σ H' => ∃ (v2 v3 : Option V) (as : List Addr) (had : List Bytes), σ = [some (.ref w), some (.ref l), v2, v3] ∧ Same H H' ∧ H' l = some (.lst (as.map V.ref)) ∧ Paired (HadX l H') as had ∧ had.length ≤ 8 ∧ soundsFault [] u = soundsFault had (u.drop i)) ?_ ?_ ?_ ?_⟩
  · exact ⟨none, none, [], [], rfl, s0, upd_same, .nil, by simp, rfl⟩
  · rintro i σ H' _ ⟨v2, v3, as, had, rfl, s1, _⟩
    exact SqL.of (s1 _ _ hws)
  · rintro i x σ H' hx ⟨v2, v3, as, had, rfl, s1, hl1, hh, h8, he⟩
    obtain ⟨ta, hta, rfl⟩ := map_ref_get hx
    obtain ⟨x, hux, b, hb1, hb2⟩ := paired_get hp hta
    have hdrop : u.drop i = x :: u.drop (i + 1) := by
      obtain ⟨hlt, hce⟩ := List.getElem?_eq_some_iff.mp hux
      rw [List.drop_eq_getElem_cons hlt, hce]
    rw [hdrop, sounds_cons] at he
    walk_at "wp"
    refine ⟨ta, _, rfl, SqT.of (s1 _ _ hb1), rfl, _, _, rfl, _, _, rfl, rfl, ?_⟩
    refine ⟨b, x.2, rfl, SqL.of (s1 _ _ hb2), fun H1 s2 => ?_⟩
    have tell : ∀ (kd : Nat) (H2 : Hp) (tp : Addr), Same H H2 → H2 tp = none → soundsFault [] u = some (kd, x.1) → Q (.ref tp) (upd H2 tp (.tup [.int kd, .int x.1])) := fun kd H2 tp s2 htp en =>
      q _ _ (s2.trans (Same.new htp)) (by rw [en]; exact ⟨tp, rfl, upd_same⟩)
    have s3 := s1.trans s2
    have hh1 : Paired (HadX l H1) as had := Paired.mono hh fun _ _ p => ⟨s2 _ _ p.1, p.2⟩
    walk_at "wp"
    refine ite2 (fun c1 => ?_) (fun c1 => ?_)
    · rw [if_pos c1] at he
      exact ⟨by show 2 ≤ sizeLine; decide, fun tp htp => tell 1 H1 tp s3 htp he⟩
    rw [if_neg c1] at he
    refine ⟨b, l, bi x.2, as, had.map bi, rfl, rfl, SqL.of (s3 _ _ hb2), SqL.of (s2 _ _ hl1), had_ls hh1, ?_⟩
    rw [bi_contains]
    walk_at "wp"
    refine ite2 (fun c2 => ?_) (fun c2 => ?_)
    · rw [if_pos c2] at he
      exact ⟨by show 2 ≤ sizeLine; decide, fun tp htp => tell 2 H1 tp s3 htp he⟩
    rw [if_neg c2] at he
    refine len_h (s2 _ _ hl1) ?_
    rw [List.length_map, paired_len hh1]
    walk_at "wp"
    refine ite2 (fun c3 => ?_) (fun c3 => ?_)
    · rw [if_pos (by omega)] at he
      exact ⟨by show 2 ≤ sizeLine; decide, fun tp htp => tell 3 H1 tp s3 htp he⟩
    rw [if_neg (by omega)] at he
    have nb : b ≠ l := ne_of_none hb2 hl
    refine ⟨.inl ⟨rfl, _, SqL.of (s2 _ _ hl1)⟩, l, _, _, rfl, rfl, s2 _ _ hl1, by rw [List.length_map, paired_len hh1]; exact size_lt (by omega), ?_⟩
    refine ⟨_, _, as ++ [b], had ++ [x.2], rfl, Same.updN s3 hl, by rw [upd_same, List.map_append]; rfl, paired_snoc ⟨by rw [upd_ne nb]; exact s3 _ _ hb2, nb⟩ (Paired.mono hh1 fun _ _ p => ⟨by rw [upd_ne p.2]; exact p.1, p.2⟩), by rw [List.length_append]; simp; omega, he⟩
  · rintro σ H' ⟨v2, v3, as, had, rfl, s1, hl1, hh, h8, he⟩
    walk_at "wp"
    refine q _ _ s1 ?_
    rw [he, List.drop_eq_nil_of_le (by rw [List.length_map, paired_len hp]; exact Nat.le_refl _)]
    rfl
end
end Pg

end
section
set_option Elab.async false
set_option linter.all false
set_option maxRecDepth 100000
set_option maxHeartbeats 2000000
namespace Pg
open PySem PySem.Spec PyProof.Rows L2
open Gh (Bytes Name Draft Fault Signs isSmall isDigit isBig nameOf)
open Gm
local macro_rules | `(tactic| walk_at "wp") => `(tactic| try simp only [tSeq, tAsg, gName, tVar, tC, tRet, tRetN, tIfS, tDrop, tNext, tAnd, tOr, tNot, tTest, tB, tOp, tUn, tChain, tCB, tCons, tNil, tIf, tAndV, tCall, tPart, tNoPart, tSl, tTup, tLst, iList, iTup, iEnum, wipe, tFld, tBM, gTup, gCons, gNil, i0, u0, eq_i, ne_i, isN_non, isN_ref, notN_non, notN_ref, bl_test, int_ex,
  L2.start, List.map_cons, List.map_nil, List.length_cons, List.length_nil, List.cons_append, List.nil_append, List.append_nil, List.replicate, Nat.reduceAdd, Nat.reduceSub, List.getElem?_cons_zero, List.getElem?_cons_succ, Option.some.injEq, exists_eq_left', List.set_cons_zero, List.set_cons_succ, decide_eq_true_eq, Bool.not_eq_true', decide_eq_false_iff_not, Bool.false_eq_true, if_true, if_false, Bool.not_true, Bool.not_false])
section
variable {K : PySem.W.Frag} {ad : Ad} {vs : List V} {H : Hp} {Q : VK} {E : XK}
theorem cut_from (xs : List V) (i : Nat) : cutV xs (some (i : Int)) none = xs.drop i := by
  unfold cutV
  rw [HT.sIx_nat, HT.sIx_none]
  by_cases h : i ≤ xs.length
  · rw [Nat.min_eq_left h, List.take_of_length_le (by rw [List.length_drop]; omega)]
  · rw [Nat.min_eq_right (by omega), Nat.sub_self, List.take_zero, List.drop_eq_nil_of_le (by omega)]
theorem paired_drop {α β : Type} {F : α → β → Prop} : ∀ {l₁ : List α} {l₂ : List β} (i : Nat), Paired F l₁ l₂ → Paired F (l₁.drop i) (l₂.drop i)
  | _, _, 0, h => h
  | _, _, i + 1, .nil => .nil
  | _, _, i + 1, .cons _ t => paired_drop i t
theorem words_drop {ws : List (Nat × Bytes)} {w : Addr} {R : V → Hp → Prop} (h : WordsAt H w ws) (i : Nat) (q : ∀ p, H p = none → ∀ H', Same H H' → (∃ as, H' = upd H p (.lst (as.map V.ref)) ∧ Paired (WordAt H) as (ws.drop i)) → R (.ref p) H') : rSlL K (.ref w) (some (i : Int)) none H R := by
  obtain ⟨as, h1, h2⟩ := h
  refine sl_l (SqL.of h1) fun p hp => ?_
  rw [cut_from, ← List.map_drop]
  exact q p hp _ (Same.new hp) ⟨_, rfl, paired_drop i h2⟩
theorem slf_tail (T : TxC K ad) {w S : Addr} {p e : Nat} {f : Nat × Bytes} {r : List (Nat × Bytes)} {F : Addr → Prop} {z : Gh.Reading} {v : V} (hw : WordsAt H w (f :: r)) (hS : SignsAt ad.c_Sign H F S z) (hg : Good z) (hf : FaultAt H v (closedFault z p))
    (q : ∀ (H' : Hp) (v : V), Same H H' → FaultAt H' v (signFault z p e r) → Q v H') :
    (tSeq (tIfS (tTest (tOp rIsN (tVar 4) (tC .non))) (tAsg (tCall (sp_name_fault K ad) [] E0 (tCons (tVar 0) (tCons (tVar 2) (tCons (tVar 3) tNil)))) (gName 4)) tNext)
    (tSeq (tIfS (tTest (tOp rIsN (tVar 4) (tC .non))) (tAsg (tCall (sp_sounds_fault K ad) [] E0 (tCons (tSl (rSlL K) (tVar 0) (tPart (tC (.int 2))) tNoPart) tNil)) (gName 4)) tNext)
    (tSeq (tIfS (tAnd (tTest (tOp rIsN (tVar 4) (tC .non))) (tTest (tOp rEq (tCB (rLen K) (tCons (tVar 3) tNil)) (tC (.int 512))))) (tAsg (tTup (tCons (tC (.int 3)) (tCons (tVar 1) tNil))) (gName 4)) tNext)
    (tRet (tVar 4))))) { nx := fun _ H' => Q .non H', rt := Q } [some (.ref w), some (.int p), some (.int e), some (.ref S), some v] H := by
  have hcnt : ∃ xs, H S = some (.lst xs) ∧ xs.length = count z := by
    rcases signs_now hS with ⟨z1, z2, z3⟩ | ⟨d, ds, sa, sr, z1, z3, _, _, z6, z7⟩
    · exact ⟨_, z3, by unfold count; rw [z1, z2]; rfl⟩
    · refine ⟨_, z3, ?_⟩
      unfold count
      rw [z1, List.length_map, List.length_append, paired_len z6]; rfl
  unfold signFault at q
  cases hc : closedFault z p with
  | some g =>
    rw [hc] at hf q
    obtain ⟨fa, rfl, hfa⟩ := hf
    walk_at "wp"
    exact q _ _ (Same.refl H) ⟨fa, rfl, hfa⟩
  | none =>
    rw [hc] at hf q
    have ev : v = .non := hf
    subst ev
    walk_at "wp"
    refine ⟨w, S, e, f, r, F, z, rfl, hw, hS, hg, fun H1 v1 s1 hf1 => ?_⟩
    cases hn : nameFault (prevName z) e r with
    | some g =>
      rw [hn] at hf1
      simp only [hn] at q
      obtain ⟨fa, rfl, hfa⟩ := hf1
      walk_at "wp"
      exact q _ _ s1 ⟨fa, rfl, hfa⟩
    | none =>
      rw [hn] at hf1
      simp only [hn] at q
      have ev : v1 = .non := hf1
      subst ev
      walk_at "wp"
      refine words_drop (hw.same s1) 2 fun l hl H2 s2 ⟨as, e2, hp2⟩ => ?_
      walk_at "wp"
      have hw2 : WordsAt H2 l (r.drop 1) := ⟨as, by rw [e2, upd_same], Paired.mono hp2 fun _ _ x => x.same s2⟩
      have s12 := s1.trans s2
      refine ⟨l, r.drop 1, rfl, hw2, fun H3 v3 s3 hf3 => ?_⟩
      have s13 := s12.trans s3
      cases hs : soundsFault [] (r.drop 1) with
      | some g =>
        rw [hs] at hf3
        simp only [hs] at q
        obtain ⟨fa, rfl, hfa⟩ := hf3
        walk_at "wp"
        exact q _ _ s13 ⟨fa, rfl, hfa⟩
      | none =>
        rw [hs] at hf3
        simp only [hs] at q
        have ev : v3 = .non := hf3
        subst ev
        walk_at "wp"
        obtain ⟨xs, hx1, hx2⟩ := hcnt
        refine len_h (s13 _ _ hx1) ?_
        rw [hx2]
        walk_at "wp"
        refine ite2 (fun c => ?_) (fun c => ?_)
        · refine ⟨by show 2 ≤ sizeLine; decide, fun tp htp => q _ _ (s13.trans (Same.new htp)) ?_⟩
          rw [if_pos (by omega)]
          exact ⟨tp, rfl, upd_same⟩
        · refine q _ _ s13 ?_
          rw [if_neg (by omega)]
          rfl
theorem rd_sign_line_fault (T : TxC K ad) (h : sp_sign_line_fault K ad vs H Q E) : wp_sign_line_fault K ad { nx := fun _ H' => Q .non H', rt := Q } (L2.start N_sign_line_fault vs) H := by
  obtain ⟨w, S, p, e, f, r, F, z, rfl, hw, hS, hg, q⟩ := h
  unfold wp_sign_line_fault N_sign_line_fault
  rcases signs_now hS with ⟨z1, z2, z3⟩ | ⟨d, ds, sa, sr, z1, z3, _, _, z6, z7⟩
  · have t := slf_tail T hw hS hg (v := .non) (by unfold closedFault; rw [z1]; rfl) q
    revert t
    walk_at "wp"
    intro t
    refine len_h z3 ?_
    walk_at "wp"
    refine ite2 (fun c => absurd c (by decide)) (fun c => ?_)
    exact t
  · have t : ∀ (H1 : Hp) (v1 : V), Same H H1 → FaultAt H1 v1 (wholeFault d p) → _ := fun H1 v1 s1 hf => slf_tail T (hw.same s1) (hS.same s1) hg (v := v1) (by unfold closedFault; rw [z1]; exact hf) fun H' v s => q H' v (s1.trans s)
    revert t
    walk_at "wp"
    intro t
    refine len_h z3 ?_
    walk_at "wp"
    refine ite2 (fun c => ?_) (fun c => absurd (by simp) c)
    refine ix_snoc (SqL.of z3) ?_
    walk_at "wp"
    exact ⟨sa, sr, p, _, d, rfl, z7, hg.now d z1, fun H1 v1 s1 hf => t H1 v1 s1 hf⟩
end
end Pg

end
section
set_option Elab.async false
set_option linter.all false
set_option maxRecDepth 100000
set_option maxHeartbeats 2000000
namespace Pg
open PySem PySem.Spec PyProof.Rows L2
open Gh (Bytes Name Draft Fault Signs isSmall isDigit isBig nameOf)
open Gm
local macro_rules | `(tactic| walk_at "wp") => `(tactic| try simp only [tSeq, tAsg, gName, tVar, tC, tRet, tRetN, tIfS, tDrop, tNext, tAnd, tOr, tNot, tTest, tB, tOp, tUn, tChain, tCB, tCons, tNil, tIf, tAndV, tCall, tPart, tNoPart, tSl, tTup, tLst, iList, iTup, iEnum, wipe, tFld, tBM, tMake, gTup, gCons, gNil, i0, u0, eq_i, ne_i, isN_non, isN_ref, notN_non, notN_ref, bl_test, int_ex,
  L2.start, List.map_cons, List.map_nil, List.length_cons, List.length_nil, List.cons_append, List.nil_append, List.append_nil, List.replicate, Nat.reduceAdd, Nat.reduceSub, List.getElem?_cons_zero, List.getElem?_cons_succ, Option.some.injEq, exists_eq_left', List.set_cons_zero, List.set_cons_succ, decide_eq_true_eq, Bool.not_eq_true', decide_eq_false_iff_not, Bool.false_eq_true, if_true, if_false, Bool.not_true, Bool.not_false])
section
variable {K : PySem.W.Frag} {ad : Ad} {vs : List V} {H : Hp} {Q : VK} {E : XK}
structure Fr (ok : Addr → Prop) (H H' : Hp) : Prop where
  lst : ∀ b xs, ok b → H b = some (.lst xs) → H' b = some (.lst xs)
  ins : ∀ b C dx p n s r, H b = some (.ins C dx (sgF p n s r)) → H' b = some (.ins C dx (sgF p n s r))
theorem paired_memR {α β : Type} {F : α → β → Prop} : ∀ {l₁ : List α} {l₂ : List β}, Paired F l₁ l₂ → Paired (fun a b => F a b ∧ a ∈ l₁) l₁ l₂
  | _, _, .nil => .nil
  | _, _, .cons r t => .cons ⟨r, by simp⟩ (Paired.mono (paired_memR t) fun _ _ p => ⟨p.1, by simp [p.2]⟩)
theorem paired_memB {α β : Type} {F : α → β → Prop} : ∀ {l₁ : List α} {l₂ : List β}, Paired F l₁ l₂ → Paired (fun a b => F a b ∧ b ∈ l₂) l₁ l₂
  | _, _, .nil => .nil
  | _, _, .cons r t => .cons ⟨r, by simp⟩ (Paired.mono (paired_memB t) fun _ _ p => ⟨p.1, by simp [p.2]⟩)
theorem SgAt.fr {C a r : Addr} {H' : Hp} {ok ok1 ok2 : Addr → Prop} {p : Nat} {nm : Bytes} {sd : List Bytes} {rows : List (List Bool)} (f : Fr ok1 H H') (h1 : ∀ b xs, H b = some (.lst xs) → ok b → ok1 b ∧ ok2 b) (hr : ok1 r) (h : SgAt C H ok a r p nm sd rows) : SgAt C H' ok2 a r p nm sd rows := by
  obtain ⟨dx, n, so, ss, as, k1, k2, k3, k4, k5, k6, k7, k8, k9, k10⟩ := h.ex
  have g6 : Paired (fun a w => (H a = some (.lst (bv w))) ∧ a ∈ ss) ss sd := paired_memR k6
  have g9 := paired_memR k9
  refine ⟨dx, n, so, ss, as, f.ins _ _ _ _ _ _ _ k1, f.lst _ _ (h1 _ _ k2 k3).1 k2, (h1 _ _ k2 k3).2, f.lst _ _ (h1 _ _ k4 k5).1 k4, (h1 _ _ k4 k5).2, Paired.mono g6 fun b w q => f.lst _ _ (h1 _ _ q.1 (k7 b q.2)).1 q.1, fun b hb => ?_, f.lst _ _ hr k8, Paired.mono g9 fun b w q => f.lst _ _ (h1 _ _ q.1 (k10 b q.2)).1 q.1, fun b hb => ?_⟩
  · obtain ⟨i, hi⟩ := List.mem_iff_getElem?.mp hb
    obtain ⟨w, _, q⟩ := paired_get k6 hi
    exact (h1 _ _ q (k7 b hb)).2
  · obtain ⟨i, hi⟩ := List.mem_iff_getElem?.mp hb
    obtain ⟨w, _, q⟩ := paired_get k9 hi
    exact (h1 _ _ q (k10 b hb)).2
theorem DoneAt.fr {C : Addr} {H' : Hp} {ok ok1 ok2 : Addr → Prop} {as : List Addr} {l : Signs} (f : Fr ok1 H H') (h1 : ∀ b xs, H b = some (.lst xs) → ok b → ok1 b ∧ ok2 b) (h : DoneAt C H ok as l) : DoneAt C H' ok2 as l :=
  Paired.mono h fun a s ⟨r, p, k1, k2⟩ => by
    obtain ⟨_, _, _, _, _, _, _, _, _, _, _, _, k8, _⟩ := k1.ex
    exact ⟨r, p, SgAt.fr f h1 (h1 _ _ k8 k2).1 k1, (h1 _ _ k8 k2).2⟩
theorem soundsAt_ok : ∀ {u : List (Nat × Bytes)} {had s : List Bytes}, Gh.soundsAt had u = .ok s → s = had ++ u.map (·.2)
  | [], had, s, h => by
    rw [Gh.soundsAt] at h; cases h; simp
  | x :: r, had, s, h => by
    rw [Gh.soundsAt] at h
    split at h
    · cases h
    · split at h
      · cases h
      · split at h
        · cases h
        · rw [soundsAt_ok h]; simp
theorem soundsAt_ne : ∀ {u : List (Nat × Bytes)} {had s : List Bytes}, Gh.soundsAt had u = .ok s → ∀ x ∈ u, x.2 ≠ []
  | [], _, _, _ => fun x hx => by cases hx
  | y :: r, had, s, h => by
    rw [Gh.soundsAt] at h
    split at h
    · cases h
    · rename_i hy
      split at h
      · cases h
      · split at h
        · cases h
        · intro x hx
          rcases List.mem_cons.mp hx with rfl | hx
          · intro e
            rw [e] at hy
            exact hy rfl
          · exact soundsAt_ne h x hx
theorem nameOf_ne {w : Bytes} {n : Name} (h : nameOf w = some n) : w ≠ [] := fun e => by rw [e] at h; cases h
theorem ints_ne {b S : Addr} {w : Bytes} {as : List Addr} (hb : H b = some (.lst (bv w))) (hw : w ≠ []) (hS : H S = some (.lst (as.map V.ref))) : b ≠ S := fun e => by
  rw [e, hS] at hb
  cases w with
  | nil => exact hw rfl
  | cons c w =>
    cases as with
    | nil => cases hb
    | cons a as => cases hb
theorem words_bytes {as : List Addr} {ws : List (Nat × Bytes)} (h : Paired (WordAt H) as ws) : ∃ bs : List Addr, bs.length = as.length ∧ (∀ (i : Nat) (a : Addr), as[i]? = some a → ∃ (b : Addr) (x : Nat × Bytes), bs[i]? = some b ∧ ws[i]? = some x ∧ H a = some (.tup [.int x.1, .ref b])) ∧ BytesAt H bs (ws.map (·.2)) := by
  induction h with
  | nil => exact ⟨[], rfl, fun i a h => by simp at h, .nil⟩
  | cons r t ih =>
    obtain ⟨bs, h1, h2, h3⟩ := ih
    obtain ⟨b, r1, r2⟩ := r
    refine ⟨b :: bs, by simp [h1], fun i a hi => ?_, .cons r2 h3⟩
    cases i with
    | zero =>
      have e := Option.some.inj hi
      subst e
      exact ⟨b, _, rfl, rfl, r1⟩
    | succ i => exact h2 i a hi
theorem signFault_none {z : Gh.Reading} {p e : Nat} {r : List (Nat × Bytes)} (h : signFault z p e r = none) : ∃ w u n, r = w :: u ∧ nameOf w.2 = some n ∧ signLine z p e r = .ok ⟨doneAll z, some ⟨p, n, u.map (·.2), []⟩⟩ ∧ u.length ≤ 8 ∧ ∀ x ∈ u, x.2 ≠ [] := by
  unfold signLine
  rw [h]
  unfold signFault at h
  split at h
  · cases h
  split at h
  · cases h
  rename_i hn
  split at h
  · cases h
  rename_i hs
  cases r with
  | nil => simp [nameFault] at hn
  | cons w u =>
    cases hw : nameOf w.2 with
    | none => simp [nameFault, hw] at hn
    | some n =>
      simp only [List.drop_succ_cons, List.drop_zero] at hs
      cases hu : Gh.soundsAt [] u with
      | error f => simp [soundsFault, hu] at hs
      | ok s =>
        have es := soundsAt_ok hu
        have el := soundsAt_len hu (by simp)
        simp only [List.nil_append] at es
        subst es
        exact ⟨w, u, n, rfl, hw, by simp only [hw, hu], by simpa using el, soundsAt_ne hu⟩
theorem rd_take_sign_line (T : TxC K ad) (h : sp_take_sign_line K ad vs H Q E) : wp_take_sign_line K ad { nx := fun _ H' => Q .non H', rt := Q } (L2.start N_take_sign_line vs) H := by
  obtain ⟨w, S, p, e, f, r, F, z, rfl, hw, hS, hg, hF, q⟩ := h
  unfold wp_take_sign_line N_take_sign_line
  walk_at "wp"
  refine ⟨w, S, p, e, f, r, F, z, rfl, hw, hS, hg, fun H1 v s1 hf => ?_⟩
  have keep1 : Keeps F H H1 := fun b o _ h => s1 _ _ h
  cases hsf : signFault z p e r with
  | some g =>
    rw [hsf] at hf
    obtain ⟨fa, rfl, hfa⟩ := hf
    walk_at "wp"
    refine q _ _ keep1 ?_
    unfold signLine
    rw [hsf]
    exact ⟨fa, rfl, hfa⟩
  | none =>
    rw [hsf] at hf
    have ev : v = .non := hf
    subst ev
    obtain ⟨w1, u, n, rfl, hn, hline, hu8, hune⟩ := signFault_none hsf
    rw [hline] at q
    have hw1 := hw.same s1
    have hS1 := hS.same s1
    walk_at "wp"
    refine lc_openL ?_
    walk_at "wp"
    refine words_drop hw1 2 fun l hl H2 s2 ⟨as, e2, hp2⟩ => ?_
    have hl2 : H2 l = some (.lst (as.map V.ref)) := by rw [e2, upd_same]
    refine ⟨l, rfl, ⟨_, SqL.of hl2⟩, fun D hD => ?_⟩
    have hp2' : Paired (WordAt H1) as u := hp2
    obtain ⟨bs, b1, b2, b3⟩ := words_bytes hp2'
    have lAs := paired_len hp2'
    refine lc_pure (ys := bs.map V.ref) hD (SqL.of hl2) (by rw [List.length_map, List.length_map, b1]) (by rw [List.length_map, lAs]; show u.length ≤ 100000; omega) ?_ ?_
    · intro i x y H' R N hx hy s3 hR
      obtain ⟨ta, hta, rfl⟩ := map_ref_get hx
      obtain ⟨b, x, k1, k2, k3⟩ := b2 i ta hta
      have ey : y = .ref b := by simp [k1] at hy; exact hy.symm
      subst ey
      refine ⟨rfl, yesI ?_⟩
      walk_at "wp"
      exact ix_t (j := 1) (SqT.of (s3 _ _ (s2 _ _ k3))) rfl hR
    · intro H3 s3 hD3
      have s13 : Same H H3 := (s1.trans s2).trans s3
      have hS3 := hS.same s13
      obtain ⟨was, wa, nb, w2, w3, w4, w5⟩ := words_ix hw (i := 1) (x := w1) rfl
      obtain ⟨xs, hx0, hx1⟩ : ∃ xs : List Addr, H S = some (.lst (xs.map V.ref)) ∧ (xs.map V.ref).length ≤ 512 := by
        have := hg.cnt
        rcases signs_now hS with ⟨z1, z2, z3⟩ | ⟨d, ds, sa, sr, z1, z3, _, _, z6, z7⟩
        · exact ⟨[], z3, by simp⟩
        · refine ⟨_, z3, ?_⟩
          unfold count at this
          rw [z1] at this
          simp only at this
          rw [List.length_map, List.length_append, paired_len z6]; exact this
      refine ⟨.inl ⟨rfl, _, SqL.of (s13 _ _ hx0)⟩, ?_⟩
      walk_at "wp"
      refine ix_l (j := 1) (SqL.of (s13 _ _ w2)) w3 ?_
      walk_at "wp"
      refine ix_t (j := 1) (SqT.of (s13 _ _ w4)) rfl ?_
      walk_at "wp"
      intro x dx nx ndx nex
      refine ⟨x, dx, nb, D, p, rfl, upd_same, fun H4 r' hx4 hr0 hr4 k4 => ?_⟩
      have s34 : Same H3 H4 := Same.made nx ndx k4
      have s14 := s13.trans s34
      have nrx : r' ≠ x := fun z => by rw [z, upd_same] at hr0; cases hr0
      have nrd : r' ≠ dx := fun z => by rw [z, upd_ne nex, upd_same] at hr0; cases hr0
      have hr3 : H3 r' = none := by rw [upd_ne nrx, upd_ne nrd] at hr0; exact hr0
      have hrH : H r' = none := Same.free s13 hr3
      have nrS : r' ≠ S := (ne_of_none hx0 hrH).symm
      have nxS : x ≠ S := (ne_of_none (s13 _ _ hx0) nx).symm
      refine ⟨rfl, S, xs.map V.ref, _, rfl, rfl, s14 _ _ hx0, size_lt (Nat.le_trans hx1 (by decide)), ?_⟩
      have kf : ∀ b o, H b = some o → b ≠ S → (upd H4 S (.lst (xs.map V.ref ++ [.ref x]))) b = some o := fun b o hb n => by rw [upd_ne n]; exact s14 _ _ hb
      have fr : Fr (fun b => b ≠ S) H (upd H4 S (.lst (xs.map V.ref ++ [.ref x]))) := ⟨fun b ys n hb => kf b _ hb n, fun b C dx p n s r hb => kf b _ hb (ne_of hb hx0 (by intro z; cases z))⟩
      have nFS : ¬ F S := hS.1
      refine q _ _ (fun b o fb hb => kf b o hb (fun z => nFS (z ▸ fb))) ⟨rfl, nFS, ?_⟩
      -- the new sign
      have new : SgAt ad.c_Sign (upd H4 S (.lst (xs.map V.ref ++ [.ref x]))) (fun b => b ≠ S ∧ b ≠ r') x r' p n.text (u.map (·.2)) [] := by
        have nD : D ≠ S := (ne_of_none (s2 _ _ (s1 _ _ hx0)) hD).symm
        have b3' : Paired (fun a w => H1 a = some (.lst (bv w)) ∧ a ≠ S) bs (u.map (·.2)) := Paired.mono (paired_memB b3) fun a w q => ⟨q.1, by
          obtain ⟨y, hy, ey⟩ := List.mem_map.mp q.2
          have hne := hune y hy
          rw [ey] at hne
          exact ints_ne q.1 hne (s1 _ _ hx0)⟩
        refine ⟨dx, nb, D, bs, [], by rw [upd_ne nxS]; exact hx4, ?_, ⟨ints_ne w5 (nameOf_ne hn) hx0, ne_of_none w5 hrH⟩, by rw [upd_ne nD]; exact s34 _ _ hD3, ⟨nD, ne_of_none hD3 hr3⟩, ?_, ?_, by rw [upd_ne nrS]; exact hr4, .nil, fun b hb => by cases hb⟩
        · rw [nameOf_text hn]
          exact kf _ _ w5 (ints_ne w5 (nameOf_ne hn) hx0)
        · exact Paired.mono b3' fun a w q => by rw [upd_ne q.2]; exact s34 _ _ (s3 _ _ (s2 _ _ q.1))
        · intro b hb
          obtain ⟨i, hi⟩ := List.mem_iff_getElem?.mp hb
          obtain ⟨w, _, q1, q2⟩ := paired_get b3' hi
          exact ⟨q2, ne_of_none (s3 _ _ (s2 _ _ q1)) hr3⟩
      have nFr : ¬ F r' := fun z => hF _ z hrH
      rcases signs_now hS with ⟨z1, z2, z3⟩ | ⟨d, ds, sa, sr, z1, z3, z4, z5, z6, z7⟩
      · have ex : xs = [] := by
          rw [hx0] at z3
          cases xs with
          | nil => rfl
          | cons a xs => cases z3
        have ed : doneAll z = [] := by unfold doneAll; rw [z1]; exact z2
        refine ⟨[], x, r', by rw [upd_same, ex]; rfl, nFr, nrS, ?_, new⟩
        show DoneAt _ _ _ [] (doneAll z)
        rw [ed]; exact .nil
      · have ex : xs = ds ++ [sa] := by
          rw [hx0] at z3
          have e : xs.map V.ref = (ds ++ [sa]).map V.ref := HO.lst.inj (Option.some.inj z3)
          exact (List.map_inj_right fun a b h => V.ref.inj h).mp e
        have ed : doneAll z = z.done ++ [d.sign] := by unfold doneAll; rw [z1]
        refine ⟨ds ++ [sa], x, r', by rw [upd_same, ex, List.map_append (l₁ := ds ++ [sa])]; rfl, nFr, nrS, ?_, new⟩
        show DoneAt _ _ _ (ds ++ [sa]) (doneAll z)
        rw [ed]
        have h1 : ∀ b xs, H b = some (.lst xs) → (b ≠ S ∧ b ≠ sr) → b ≠ S ∧ (b ≠ S ∧ b ≠ r') := fun b xs hb ok => ⟨ok.1, ok.1, ne_of_none hb hrH⟩
        obtain ⟨_, _, _, _, _, _, _, _, _, _, _, _, k8, _⟩ := z7.ex
        exact paired_snoc ⟨sr, d.place, SgAt.fr fr h1 z5 z7, z5, ne_of_none k8 hrH⟩ (DoneAt.fr fr h1 z6)
theorem rd_text_end_fault (T : TxC K ad) (h : sp_text_end_fault K ad vs H Q E) : wp_text_end_fault K ad { nx := fun _ H' => Q .non H', rt := Q } (L2.start N_text_end_fault vs) H := by
  obtain ⟨S, n, F, z, rfl, hS, hg, q⟩ := h
  unfold wp_text_end_fault N_text_end_fault
  walk_at "wp"
  rcases signs_now hS with ⟨z1, z2, z3⟩ | ⟨d, ds, sa, sr, z1, z3, _, _, z6, z7⟩
  · refine len_h z3 ?_
    walk_at "wp"
    refine ite2 (fun c => ?_) (fun c => absurd rfl c)
    refine ⟨by show 2 ≤ sizeLine; decide, fun tp htp => q _ _ (Same.new htp) ?_⟩
    unfold textEndFault
    rw [z1]
    exact ⟨tp, rfl, upd_same⟩
  · refine len_h z3 ?_
    walk_at "wp"
    refine ite2 (fun c => absurd c (by simp; omega)) (fun c => ?_)
    refine ix_snoc (SqL.of z3) ?_
    walk_at "wp"
    refine ⟨sa, sr, n, _, d, rfl, z7, hg.now d z1, fun H1 v1 s1 hf => q _ _ s1 ?_⟩
    unfold textEndFault
    rw [z1]
    exact hf
theorem badCell_from (l : Bytes) (p : Nat) : ∀ {i : Nat} {c : UInt8}, l[i]? = some c → (∀ j, j < i → ∀ c', l[j]? = some c' → c' = 35 ∨ c' = 46) → ¬ (c = 35 ∨ c = 46) → badCell l p = some (p + i) := by
  induction l generalizing p with
  | nil => intro i c h; simp at h
  | cons a l ih =>
    intro i c h hb hc
    cases i with
    | zero =>
      have e := Option.some.inj h
      subst e
      rw [badCell, if_neg hc]; rfl
    | succ i =>
      rw [badCell, if_pos (hb 0 (by omega) a rfl), ih (p + 1) (i := i) h (fun j hj c' hc' => hb (j + 1) (by omega) c' hc') hc]
      congr 1; omega
theorem badCell_all (l : Bytes) (p : Nat) (h : ∀ (j : Nat) (c' : UInt8), l[j]? = some c' → c' = 35 ∨ c' = 46) : badCell l p = none := by
  induction l generalizing p with
  | nil => rfl
  | cons a l ih => rw [badCell, if_pos (h 0 a rfl)]; exact ih _ fun j c' hc' => h (j + 1) c' hc'
theorem rd_row_fault (T : TxC K ad) (h : sp_row_fault K ad vs H Q E) : wp_row_fault K ad { nx := fun _ H' => Q .non H', rt := Q } (L2.start N_row_fault vs) H := by
  obtain ⟨b, r, p, l, as, rows, rfl, hb, hr, hrows, q⟩ := h
  have lAs := paired_len hrows
  have tell : ∀ (kd pl : Nat) (H2 : Hp) (tp : Addr), Same H H2 → H2 tp = none → rowFault p l rows = some (kd, pl) → Q (.ref tp) (upd H2 tp (.tup [.int kd, .int pl])) := fun kd pl H2 tp s2 htp en =>
    q _ _ (s2.trans (Same.new htp)) (by rw [en]; exact ⟨tp, rfl, upd_same⟩)
  unfold wp_row_fault N_row_fault
  refine ⟨_, rfl, b, _, rfl, hb, for_enum (xs := bv l) (fun i σ H' => ∃ v3 v4, σ = [some (.ref b), some (.int p), some (.ref r), v3, v4] ∧ Same H H' ∧ ∀ j, j < i → ∀ c', l[j]? = some c' → c' = 35 ∨ c' = 46) ⟨none, none, rfl, Same.refl H, fun j hj => by omega⟩ ?_ ?_ ?_⟩
  · rintro i σ H' _ ⟨v3, v4, rfl, s1, _⟩
    exact s1.seq hb
  · rintro i x σ H' tp hx ⟨v3, v4, rfl, s1, hc⟩ htp
    obtain ⟨c, hlc⟩ : ∃ c, l[i]? = some c := by
      cases hc : l[i]? with
      | none => simp [bv, bi, hc] at hx
      | some c => exact ⟨c, rfl⟩
    rw [bv_get hlc] at hx
    have ex := Option.some.inj hx
    subst ex
    have s2 : Same H (upd H' tp (.tup [.int (i : Nat), .int (c.toNat : Nat)])) := s1.trans (Same.new htp)
    walk_at "wp"
    refine ⟨tp, _, rfl, SqT.of upd_same, rfl, _, _, rfl, _, _, rfl, rfl, ?_⟩
    walk_at "wp"
    have e35 : c = 35 ↔ ((c.toNat : Nat) : Int) = 35 := ⟨fun e => by rw [e]; rfl, fun e => u8_ext (by show c.toNat = 35; omega)⟩
    have e46 : c = 46 ↔ ((c.toNat : Nat) : Int) = 46 := ⟨fun e => by rw [e]; rfl, fun e => u8_ext (by show c.toNat = 46; omega)⟩
    have next : (c = 35 ∨ c = 46) → ∀ j, j < i + 1 → ∀ c', l[j]? = some c' → c' = 35 ∨ c' = 46 := fun ok j hj c' hc' => by
      by_cases e : j = i
      · rw [e, hlc] at hc'
        rw [← Option.some.inj hc']; exact ok
      · exact hc j (by omega) c' hc'
    refine ite2 (fun c1 => ?_) (fun c1 => ?_)
    · refine ite2 (fun c2 => ?_) (fun c2 => ?_)
      · refine ⟨by show 2 ≤ sizeLine; decide, fun tq htq => ?_⟩
        have e : ((p : Int) + (i : Nat)) = ((p + i : Nat) : Int) := by omega
        rw [e]
        refine tell 1 (p + i) _ tq s2 htq ?_
        unfold rowFault
        rw [badCell_from l p hlc hc (fun z => z.elim (fun z => c1 (e35.mp z)) (fun z => c2 (e46.mp z)))]
      · exact ⟨_, _, rfl, s2, next (.inr (e46.mpr (Decidable.byContradiction c2)))⟩
    · exact ⟨_, _, rfl, s2, next (.inl (e35.mpr (Decidable.byContradiction c1)))⟩
  · rintro σ H' ⟨v3, v4, rfl, s1, hc⟩
    have ebc : badCell l p = none := badCell_all l p fun j c' hc' => hc j (by rw [bv_len]; exact (List.getElem?_eq_some_iff.mp hc').1) c' hc'
    have erf : rowFault p l rows = if 32 < l.length ∨ (rows ≠ [] ∧ l.length ≠ (rows.headD []).length) then some (5, p) else if rows.length = 32 then some (3, p) else none := by
      unfold rowFault; rw [ebc]
    have s2 := s1
    have fin : ¬ (32 < l.length ∨ (rows ≠ [] ∧ l.length ≠ (rows.headD []).length)) → (rLen K [.ref r] H' fun x H1 => rEq x (.int 32) H1 fun x H2 => ∃ k, x = .bl k ∧ if k = true then 2 ≤ sizeLine ∧ ∀ tp, H2 tp = none → Q (.ref tp) (upd H2 tp (.tup [.int 3, .int p])) else Q .non H2) := fun hn => by
      refine len_h (s1 _ _ hr) ?_
      rw [List.length_map, lAs]
      walk_at "wp"
      rw [if_neg hn] at erf
      refine ite2 (fun c => ?_) (fun c => ?_)
      · rw [if_pos (by omega)] at erf
        exact ⟨by show 2 ≤ sizeLine; decide, fun tp htp => tell 3 p _ tp s1 htp erf⟩
      · rw [if_neg (by omega)] at erf
        exact q _ _ s1 (by rw [erf]; rfl)
    have five : (32 < l.length ∨ (rows ≠ [] ∧ l.length ≠ (rows.headD []).length)) → (2 ≤ sizeLine ∧ ∀ tp, H' tp = none → Q (.ref tp) (upd H' tp (.tup [.int 5, .int p]))) := fun hn => by
      rw [if_pos hn] at erf
      exact ⟨by show 2 ≤ sizeLine; decide, fun tp htp => tell 5 p _ tp s1 htp erf⟩
    walk_at "wp"
    refine len_b (s1.seq hb) ?_
    walk_at "wp"
    refine ite2 (fun c1 => five (.inl (by omega))) (fun c1 => ?_)
    refine len_h (s1 _ _ hr) ?_
    rw [List.length_map, lAs]
    walk_at "wp"
    refine ite2 (fun c2 => ?_) (fun c2 => ?_)
    · refine len_b (s1.seq hb) ?_
      walk_at "wp"
      obtain ⟨row, rs, rfl⟩ : ∃ x u, rows = x :: u := by
        cases rows with
        | nil => simp at c2
        | cons x u => exact ⟨x, u, rfl⟩
      obtain ⟨ra, hra, hrb⟩ := paired_get' hrows (i := 0) (b := row) rfl
      refine ix_l (j := 0) (v := .ref ra) (SqL.of (s1 _ _ hr)) (by simp [hra]) ?_
      walk_at "wp"
      refine len_b (SqL.of (s1 _ _ hrb)) ?_
      walk_at "wp"
      have el : (cellBytes row).length = row.length := by simp [cellBytes]
      rw [el]
      refine ite2 (fun c3 => five (.inr ⟨by simp, by show l.length ≠ row.length; omega⟩)) (fun c3 => ?_)
      have := fin (by
        rintro (z | ⟨_, z⟩)
        · omega
        · exact z (by show l.length = row.length; omega))
      exact this
    · exact fin (by
        rintro (z | ⟨z, _⟩)
        · omega
        · refine z (List.eq_nil_of_length_eq_zero ?_)
          omega)
end
end Pg

end
section
set_option Elab.async false
set_option linter.all false
set_option maxRecDepth 100000
set_option maxHeartbeats 2000000
namespace Pg
open PySem PySem.Spec PyProof.Rows L2
open Gh (Bytes Name Draft Fault Signs isSmall isDigit isBig nameOf)
open Gm
local macro_rules | `(tactic| walk_at "wp") => `(tactic| try simp only [tSeq, tAsg, gName, tVar, tC, tRet, tRetN, tIfS, tDrop, tNext, tAnd, tOr, tNot, tTest, tB, tOp, tUn, tChain, tCB, tCons, tNil, tIf, tAndV, tCall, tPart, tNoPart, tSl, tTup, tLst, iList, iTup, iEnum, wipe, tFld, tBM, tMake, gTup, gCons, gNil, i0, u0, eq_i, ne_i, isN_non, isN_ref, notN_non, notN_ref, bl_test, int_ex,
  L2.start, List.map_cons, List.map_nil, List.length_cons, List.length_nil, List.cons_append, List.nil_append, List.append_nil, List.replicate, Nat.reduceAdd, Nat.reduceSub, List.getElem?_cons_zero, List.getElem?_cons_succ, Option.some.injEq, exists_eq_left', List.set_cons_zero, List.set_cons_succ, decide_eq_true_eq, Bool.not_eq_true', decide_eq_false_iff_not, Bool.false_eq_true, if_true, if_false, Bool.not_true, Bool.not_false])
section
variable {K : PySem.W.Frag} {ad : Ad} {vs : List V} {H : Hp} {Q : VK} {E : XK}
theorem rd_take_row (T : TxC K ad) (h : sp_take_row K ad vs H Q E) : wp_take_row K ad { nx := fun _ H' => Q .non H', rt := Q } (L2.start N_take_row vs) H := by
  obtain ⟨b, S, p, l, F, z, rfl, hb, hS, hg, hF, q⟩ := h
  unfold wp_take_row N_take_row
  walk_at "wp"
  have sameK : ∀ {H' : Hp}, Same H H' → Keeps F H H' := fun s b o _ h => s _ _ h
  rcases signs_now hS with ⟨z1, z2, z3⟩ | ⟨d, ds, sa, sr, z1, z3, z4, z5, z6, z7⟩
  · refine len_h z3 ?_
    walk_at "wp"
    refine ite2 (fun c => ?_) (fun c => absurd rfl c)
    refine ⟨by show 2 ≤ sizeLine; decide, fun tp htp => q _ _ (sameK (Same.new htp)) ?_⟩
    unfold rowLine
    rw [z1]
    exact ⟨tp, rfl, upd_same⟩
  · have erl : rowLine z p l = if l = [] then .error (1, p) else match rowFault p l d.rows with
        | some f => .error f
        | none => .ok ⟨z.done, some { d with rows := d.rows ++ [l.map (· == 35)] }⟩ := by unfold rowLine; rw [z1] <;> rfl
    refine len_h z3 ?_
    walk_at "wp"
    refine ite2 (fun c => absurd c (by simp; omega)) (fun c => ?_)
    refine len_b (SqL.of hb) ?_
    walk_at "wp"
    refine ite2 (fun c1 => ?_) (fun c1 => ?_)
    · have e0 : l = [] := List.eq_nil_of_length_eq_zero (by omega)
      rw [if_pos e0] at erl
      refine ⟨by show 2 ≤ sizeLine; decide, fun tp htp => q _ _ (sameK (Same.new htp)) ?_⟩
      rw [erl]
      exact ⟨tp, rfl, upd_same⟩
    have e0 : l ≠ [] := fun e => c1 (by rw [e]; rfl)
    rw [if_neg e0] at erl
    refine ix_snoc (SqL.of z3) ?_
    walk_at "wp"
    obtain ⟨dx, n, so, ss, as, k1, k2, k3, k4, k5, k6, k7, k8, k9, k10⟩ := z7.ex
    refine fld_r k1 T.clS T.s_rows (sg_rows _ _ _ _) ?_
    walk_at "wp"
    refine ⟨b, sr, p, l, as, d.rows, rfl, SqL.of hb, k8, k9, fun H1 v s1 hf => ?_⟩
    cases hrf : rowFault p l d.rows with
    | some g =>
      rw [hrf] at hf erl
      obtain ⟨fa, rfl, hfa⟩ := hf
      walk_at "wp"
      refine q _ _ (sameK s1) ?_
      rw [erl]
      exact ⟨fa, rfl, hfa⟩
    | none =>
      rw [hrf] at hf erl
      have ev : v = .non := hf
      subst ev
      obtain ⟨f1, f2, f3, f4⟩ := rowFault_none hrf
      walk_at "wp"
      refine ix_snoc (SqL.of (s1 _ _ z3)) ?_
      walk_at "wp"
      refine fld_r (s1 _ _ k1) T.clS T.s_rows (sg_rows _ _ _ _) ?_
      walk_at "wp"
      have lAs := paired_len k9
      have hhi := (hg.now d z1).high
      refine ⟨.inl ⟨rfl, _, SqL.of (s1 _ _ k8)⟩, sr, _, _, rfl, rfl, s1 _ _ k8, by rw [List.length_map, lAs]; exact size_lt (Nat.le_trans hhi (by decide)), ?_⟩
      walk_at "wp"
      have nbS : b ≠ S := ints_ne hb e0 z3
      have nbr : b ≠ sr := ints_ne hb e0 k8
      have kf : ∀ c o, H c = some o → c ≠ sr → (upd H1 sr (.lst (as.map V.ref ++ [.ref b]))) c = some o := fun c o hc n => by rw [upd_ne n]; exact s1 _ _ hc
      have fr : Fr (fun c => c ≠ sr) H (upd H1 sr (.lst (as.map V.ref ++ [.ref b]))) := ⟨fun c ys n hc => kf c _ hc n, fun c C dx p n s r hc => kf c _ hc (ne_of hc k8 (by intro z; cases z))⟩
      refine q _ _ (fun c o fc hc => kf c o hc (fun e => z4 (e ▸ fc))) ?_
      rw [erl]
      refine ⟨rfl, hS.1, ds, sa, sr, ?_, z4, z5, DoneAt.fr fr (fun c xs hc ok => ⟨ok.2, ok⟩) z6, ?_⟩
      · rw [upd_ne z5.symm]; exact s1 _ _ z3
      · have g6 := paired_memR k6
        have g9 := paired_memR k9
        refine ⟨dx, n, so, ss, as ++ [b], fr.ins _ _ _ _ _ _ _ k1, kf _ _ k2 k3.2, k3, kf _ _ k4 k5.2, k5, Paired.mono g6 fun c w q => kf _ _ q.1 (k7 c q.2).2, k7, by rw [upd_same, List.map_append]; rfl, paired_snoc ?_ (Paired.mono g9 fun c w q => kf _ _ q.1 (k10 c q.2).2), fun c hc => ?_⟩
        · rw [badCell_none f1]
          exact kf _ _ hb nbr
        · rcases List.mem_append.mp hc with hc | hc
          · exact k10 c hc
          · rw [List.mem_singleton.mp hc]; exact ⟨nbS, nbr⟩
theorem rd_take_line (T : TxC K ad) (h : sp_take_line K ad vs H Q E) : wp_take_line K ad { nx := fun _ H' => Q .non H', rt := Q } (L2.start N_take_line vs) H := by
  obtain ⟨a, S, t, p, e, F, z, rfl, ht, hpe, het, hmost, hS, hg, hF, q⟩ := h
  rw [lineAt_eq hg] at q
  unfold wp_take_line N_take_line
  walk_at "wp"
  refine ⟨a, t, p, e, rfl, ht, hpe, het, hmost, fun H1 w s1 hw => ?_⟩
  obtain ⟨f, r, ec⟩ : ∃ f r, Gh.cut 32 p [] ((t.drop p).take (e - p)) = f :: r := by
    cases h : Gh.cut 32 p [] ((t.drop p).take (e - p)) with
    | nil => exact absurd h (cut_ne _ _ _)
    | cons f r => exact ⟨f, r, rfl⟩
  rw [ec] at hw
  simp only [ec] at q
  obtain ⟨as, wa, wb, h1, h2, h3, h4⟩ := words_ix hw (i := 0) (x := f) rfl
  walk_at "wp"
  refine ix_l (j := 0) (SqL.of h1) h2 ?_
  walk_at "wp"
  refine ix_t (j := 1) (SqT.of h3) rfl ?_
  walk_at "wp"
  refine ⟨wb, _, rfl, .inl ⟨SqL.of h4, fun tp htp => ?_⟩⟩
  have s2 : Same H1 (upd H1 tp (.tup (bv f.2))) := Same.new htp
  have s12 := s1.trans s2
  refine eqT (ns := bi f.2) (ms := bi Gh.SIGN) (SqT.of upd_same) (T.w_sign _) ?_
  rw [bi_eq]
  walk_at "wp"
  have kp : ∀ {H' : Hp}, Keeps F (upd H1 tp (.tup (bv f.2))) H' → Keeps F H H' := fun k b o fb hb => k b o fb (s12 _ _ hb)
  have hF2 : ∀ b, F b → (upd H1 tp (.tup (bv f.2))) b ≠ none := fun b fb => by
    cases hb : H b with
    | none => exact absurd hb (hF b fb)
    | some o => rw [s12 _ _ hb]; exact fun z => nomatch z
  refine ite2 (fun c => ?_) (fun c => ?_)
  · rw [if_pos c] at q
    exact ⟨w, S, p, e, f, r, F, z, rfl, hw.same s2, hS.same s12, hg, hF2, fun H' v k hl => q H' v (kp k) hl⟩
  · rw [if_neg c] at q
    refine sl_b (s12.seq ht) (by omega) het fun bp hbp => ?_
    have s3 : Same (upd H1 tp (.tup (bv f.2))) (upd (upd H1 tp (.tup (bv f.2))) bp (.lst (bv ((t.drop p).take (e - p))))) := Same.new hbp
    walk_at "wp"
    refine ⟨bp, S, p, _, F, z, rfl, upd_same, hS.same (s12.trans s3), hg, fun b fb => ?_, fun H' v k hl => q H' v (fun b o fb hb => k b o fb (s3 _ _ (s12 _ _ hb))) hl⟩
    cases hb : H b with
    | none => exact absurd hb (hF b fb)
    | some o => rw [s3 _ _ (s12 _ _ hb)]; exact fun z => nomatch z
end
end Pg

end
section
set_option Elab.async false
set_option linter.all false
set_option maxRecDepth 100000
set_option maxHeartbeats 2000000
namespace Pg
open PySem PySem.Spec PyProof.Rows L2
open Gh (Bytes Name Draft Fault Signs isSmall isDigit isBig nameOf)
open Gm
local macro_rules | `(tactic| walk_at "wp") => `(tactic| try simp only [tSeq, tAsg, gName, tVar, tC, tRet, tRetN, tIfS, tDrop, tNext, tAnd, tOr, tNot, tTest, tB, tOp, tUn, tChain, tCB, tCons, tNil, tIf, tAndV, tCall, tPart, tNoPart, tSl, tTup, tLst, iList, iTup, iEnum, wipe, tFld, tBM, tMake, sFld, gTup, gCons, gNil, i0, u0, eq_i, ne_i, isN_non, isN_ref, notN_non, notN_ref, bl_test, int_ex,
  L2.start, List.map_cons, List.map_nil, List.length_cons, List.length_nil, List.cons_append, List.nil_append, List.append_nil, List.replicate, Nat.reduceAdd, Nat.reduceSub, List.getElem?_cons_zero, List.getElem?_cons_succ, Option.some.injEq, exists_eq_left', List.set_cons_zero, List.set_cons_succ, decide_eq_true_eq, Bool.not_eq_true', decide_eq_false_iff_not, Bool.false_eq_true, if_true, if_false, Bool.not_true, Bool.not_false])
section
variable {K : PySem.W.Frag} {ad : Ad} {vs : List V} {H : Hp} {Q : VK} {E : XK}
theorem SignsAt.fr {C S : Addr} {F : Addr → Prop} {H' : Hp} {z : Gh.Reading} (f : Fr (fun _ => True) H H') (h : SignsAt C H F S z) : SignsAt C H' F S z := by
  refine ⟨h.1, ?_⟩
  rcases signs_now h with ⟨z1, z2, z3⟩ | ⟨d, ds, sa, sr, z1, z3, z4, z5, z6, z7⟩
  · rw [z1]; exact ⟨f.lst _ _ trivial z3, z2⟩
  · rw [z1]
    exact ⟨ds, sa, sr, f.lst _ _ trivial z3, z4, z5, DoneAt.fr f (fun b xs hb ok => ⟨trivial, ok⟩) z6, SgAt.fr f (fun b xs hb ok => ⟨trivial, ok⟩) trivial z7⟩
theorem Fr.same {H' : Hp} (s : Same H H') : Fr (fun _ => True) H H' := ⟨fun b xs _ hb => s _ _ hb, fun b C dx p n s' r hb => s _ _ hb⟩
theorem Fr.read {x C dx S : Addr} {b : Bool} {v : V} {o : HO} (hx : H x = some (.ins C dx (rdF b S v))) : Fr (fun _ => True) H (upd H x o) :=
  ⟨fun c xs _ hc => by rw [upd_ne (ne_of hc hx (by intro z; cases z))]; exact hc, fun c C' dx' p n s r hc => by
    rw [upd_ne]
    · exact hc
    · intro e
      rw [e, hx] at hc
      have := (HO.ins.inj (Option.some.inj hc)).2.2
      have := congrArg List.length this
      exact absurd (show (3 : Nat) = 4 from this) (by decide)⟩
theorem list_of_signs {C S : Addr} {F : Addr → Prop} {z : Gh.Reading} {d : Draft} (h : SignsAt C H F S z) (hz : z.now = some d) : ListAt C H S (doneAll z) := by
  rcases signs_now h with ⟨z1, z2, z3⟩ | ⟨d', ds, sa, sr, z1, z3, z4, z5, z6, z7⟩
  · rw [z1] at hz; cases hz
  · have ed : doneAll z = z.done ++ [d'.sign] := by unfold doneAll; rw [z1]
    rw [ed]
    have f : Fr (fun _ => True) H H := Fr.same (Same.refl H)
    exact ⟨ds ++ [sa], z3, paired_snoc ⟨sr, d'.place, SgAt.fr f (fun b xs hb ok => ⟨trivial, trivial⟩) trivial z7, trivial⟩ (DoneAt.fr f (fun b xs hb ok => ⟨trivial, trivial⟩) z6)⟩
theorem ListAt.fr {C S : Addr} {H' : Hp} {l : Signs} (f : Fr (fun _ => True) H H') (h : ListAt C H S l) : ListAt C H' S l := by
  obtain ⟨as, h1, h2⟩ := h
  exact ⟨as, f.lst _ _ trivial h1, DoneAt.fr f (fun b xs hb ok => ⟨trivial, trivial⟩) h2⟩
theorem good_line {z z' : Gh.Reading} {p e : Nat} {l : Bytes} (g : Good z) (h : Gh.lineAt z p e l = .ok z') : Good z' := by
  rw [lineAt_eq g] at h
  split at h
  · cases h
  · split at h
    · obtain ⟨_, _, _, _, _, _, _, _, _, g'⟩ := good_sign g h
      exact g'
    · obtain ⟨_, _, _, _, _, g'⟩ := good_row g h
      exact g'
theorem line_end_props {t : Bytes} {j : Nat} (hj : j ≤ t.length) : j ≤ lineEnd t j ∧ lineEnd t j ≤ t.length ∧ ((t.drop j).take (lineEnd t j - j)).length = lineEnd t j - j ∧ (∀ c ∈ (t.drop j).take (lineEnd t j - j), c ≠ 10) ∧
    (lineEnd t j < t.length → t.drop j = (t.drop j).take (lineEnd t j - j) ++ 10 :: t.drop (lineEnd t j + 1)) ∧ (lineEnd t j = t.length → t.drop j = (t.drop j).take (lineEnd t j - j)) := by
  have e0 : lineEnd t j - j = ((t.drop j).takeWhile (fun x => decide (x ≠ 10))).length := by unfold lineEnd; omega
  have et : (t.drop j).take (lineEnd t j - j) = (t.drop j).takeWhile (fun x => decide (x ≠ 10)) := by
    rw [e0]
    conv => lhs; arg 2; rw [takeWhile_drop (fun x : UInt8 => decide (x ≠ 10)) (t.drop j)]
    rw [List.take_left]
  have el : ((t.drop j).takeWhile (fun x => decide (x ≠ 10))).length ≤ (t.drop j).length := by
    conv => rhs; rw [takeWhile_drop (fun x : UInt8 => decide (x ≠ 10)) (t.drop j)]
    rw [List.length_append]; omega
  have hE : lineEnd t j = j + ((t.drop j).takeWhile (fun x => decide (x ≠ 10))).length := rfl
  rw [List.length_drop] at el
  refine ⟨by omega, by omega, by rw [et]; omega, fun c hc => ?_, fun h => ?_, fun h => ?_⟩
  · rw [et] at hc
    exact of_decide_eq_true (mem_takeWhile (p := fun x : UInt8 => decide (x ≠ 10)) hc)
  · rw [et]
    have e1 := takeWhile_drop (fun x : UInt8 => decide (x ≠ 10)) (t.drop j)
    rw [List.drop_drop, ← hE] at e1
    have e2 : t.drop (lineEnd t j) = 10 :: t.drop (lineEnd t j + 1) := by
      rw [List.drop_eq_getElem_cons h]
      congr 1
      refine Decidable.byContradiction fun q => ?_
      have hc : t[lineEnd t j]? = some t[lineEnd t j] := List.getElem?_eq_getElem h
      have hhit := take_hit (p := fun x : UInt8 => decide (x ≠ 10)) hc (decide_eq_true q)
      -- the run would be longer
      have e3 : (t.drop j).takeWhile (fun x => decide (x ≠ 10)) = (t.drop j).takeWhile (fun x => decide (x ≠ 10)) ++ (t.drop (lineEnd t j)).takeWhile (fun x => decide (x ≠ 10)) := by
        conv => lhs; rw [e1]
        rw [List.takeWhile_append_of_pos (fun x hx => mem_takeWhile (p := fun x : UInt8 => decide (x ≠ 10)) hx)]
      have e4 := congrArg List.length e3
      rw [List.length_append, hhit, List.length_cons] at e4
      omega
    rw [← e2]; exact e1
  · rw [et]
    have e1 := takeWhile_drop (fun x : UInt8 => decide (x ≠ 10)) (t.drop j)
    rw [List.drop_drop, ← hE, h, List.drop_length, List.append_nil] at e1
    exact e1
theorem fault_up {x C dx : Addr} {fs : List (Str × V)} {v : V} {f : Option Fault} {o : HO} (hx : H x = some (.ins C dx fs)) (h : FaultAt H v f) : FaultAt (upd H x o) v f := by
  cases f with
  | none => exact h
  | some g =>
    obtain ⟨a, e, h⟩ := h
    exact ⟨a, e, by rw [upd_ne (ne_of h hx (by intro z; cases z))]; exact h⟩
theorem rd_read_list (T : TxC K ad) (h : sp_read_list K ad vs H Q E) : wp_read_list K ad { nx := fun _ H' => Q .non H', rt := Q } (L2.start N_read_list vs) H := by
  obtain ⟨a, t, rfl, ht, hm, q⟩ := h
  have hM : MOST = 100000 := rfl
  unfold wp_read_list N_read_list
  walk_at "wp"
  refine len_b ht ?_
  walk_at "wp"
  intro x dx nx ndx nex
  rw [decide_eq_false (by omega)]
  refine ⟨x, dx, false, rfl, upd_same, fun H1 S hx1 hS0 hS1 k1 => ⟨rfl, ?_⟩⟩
  have s1 : Same H H1 := Same.made nx ndx k1
  have nSx : S ≠ x := fun z => by rw [z, upd_same] at hS0; cases hS0
  have nSd : S ≠ dx := fun z => by rw [z, upd_ne nex, upd_same] at hS0; cases hS0
  have hSH : H S = none := by rw [upd_ne nSx, upd_ne nSd] at hS0; exact hS0
  walk_at "wp"
  refine fld_r hx1 T.clR T.r_too_long (rd_too_long _ _ _) ?_
  walk_at "wp"
  let F : Addr → Prop := fun b => H b ≠ none ∨ b = x
  have nFS : ¬ F S := fun z => z.elim (fun z => z hSH) (fun z => nSx z)
  have keepS : ∀ {H1 H2 : Hp}, Same H H1 → Keeps F H1 H2 → Same H H2 := fun s k b o hb => k b o (.inl (by rw [hb]; exact fun z => nomatch z)) (s _ _ hb)
  have updS : ∀ {H1 : Hp} {o : HO}, Same H H1 → Same H (upd H1 x o) := fun s => Same.updN s nx
  refine while_ix (ι := Nat × Gh.Reading) (fun jz σ H' => ∃ v3, σ = [some (.ref a), some (.ref x), some (.int (jz.1 : Nat)), v3] ∧ Same H H' ∧ H' x = some (.ins ad.c_Reading dx (rdF false S .non)) ∧ SignsAt ad.c_Sign H' F S jz.2 ∧ Good jz.2 ∧ jz.1 ≤ t.length ∧
    fin t.length (Gh.linesAt jz.2 (Gh.cut Gh.LF jz.1 [] (t.drop jz.1))) = Gh.readList t) (fun jz => t.length - jz.1) (0, ⟨[], none⟩) ?_ ?_
  · exact ⟨none, rfl, s1, hx1, ⟨nFS, hS1, rfl⟩, good_start, Nat.zero_le _, (readList_fin t).symm⟩
  rintro ⟨j, z⟩ σ H' ⟨v3, rfl, s', hx', hS', hg, hj, hfin⟩
  have hfin : fin t.length (Gh.linesAt z (Gh.cut Gh.LF j [] (t.drop j))) = Gh.readList t := hfin
  have hg : Good z := hg
  have hS' : SignsAt ad.c_Sign H' F S z := hS'
  have hj : j ≤ t.length := hj
  have hF' : ∀ b, F b → H' b ≠ none := fun b fb => by
    rcases fb with fb | rfl
    · cases hb : H b with
      | none => exact absurd hb fb
      | some o => rw [s' _ _ hb]; exact fun z => nomatch z
    · rw [hx']; exact fun z => nomatch z
  walk_at "wp"
  refine len_b (s'.seq ht) ?_
  walk_at "wp"
  refine ite2 (fun c1 => ?_) (fun c1 => ?_)
  · have c1 : j < t.length := by omega
    refine ⟨_, fun σ' H' n => n, ?_⟩
    obtain ⟨p1, p2, p3, p4, p5, p6⟩ := line_end_props (t := t) (j := j) hj
    refine ⟨a, t, j, rfl, s'.seq ht, hj, ?_⟩
    walk_at "wp"
    refine fld_r hx' T.clR T.r_signs (rd_signs _ _ _) ?_
    walk_at "wp"
    refine ⟨a, S, t, j, lineEnd t j, F, z, rfl, s'.seq ht, p1, p2, hm, hS', hg, hF', fun H2 v k2 hL => ?_⟩
    have s2 := keepS s' k2
    have hx2 := k2 x _ (.inr rfl) hx'
    walk_at "wp"
    refine ⟨x, _, dx, _, rfl, hx2, T.clR, T.r_fault, (by show 3 < 1000; decide), ?_⟩; rw [put_rd2]
    walk_at "wp"
    have e3 : j + ((t.drop j).take (lineEnd t j - j)).length = lineEnd t j := by rw [p3]; omega
    cases hla : Gh.lineAt z j (lineEnd t j) ((t.drop j).take (lineEnd t j - j)) with
    | error f =>
      rw [hla] at hL
      have hL' : FaultAt H2 v (some f) := hL
      obtain ⟨fa, rfl, hfa⟩ := fault_up (o := .ins ad.c_Reading dx (rdF false S v)) hx2 hL'
      refine fld_r upd_same T.clR T.r_fault (rd_fault _ _ _) ?_
      walk_at "wp"
      refine fld_r upd_same T.clR T.r_fault (rd_fault _ _ _) ?_
      walk_at "wp"
      refine q _ _ (updS s2) ?_
      have er : Gh.readList t = .error f := by
        rw [← hfin]
        by_cases hE : lineEnd t j = t.length
        · rw [p6 hE, lines_last z j (by intro h0; rw [h0] at p3; simp at p3; omega) p4, e3, hla]; rfl
        · rw [p5 (by omega), lines_more z j p4, e3, hla]; rfl
      rw [er]
      exact ⟨dx, S, _, upd_same, fa, rfl, hfa⟩
    | ok z' =>
      rw [hla] at hL
      obtain ⟨rfl, hS2⟩ := hL
      have hg' := good_line hg hla
      refine fld_r upd_same T.clR T.r_fault (rd_fault _ _ _) ?_
      walk_at "wp"
      refine len_b ((updS s2).seq ht) ?_
      walk_at "wp"
      have fin3 : SignsAt ad.c_Sign (upd H2 x (.ins ad.c_Reading dx (rdF false S .non))) F S z' := SignsAt.fr (Fr.read hx2) hS2
      refine ite2 (fun c2 => ?_) (fun c2 => ?_)
      · have hE : lineEnd t j = t.length := by omega
        refine ⟨by show 2 ≤ sizeLine; decide, fun tp htp => ?_⟩
        have ntx : x ≠ tp := ne_of_none upd_same htp
        refine ⟨x, _, dx, _, rfl, (upd_ne ntx).trans upd_same, T.clR, T.r_fault, (by show 3 < 1000; decide), ?_⟩; rw [put_rd2]
        walk_at "wp"
        refine fld_r upd_same T.clR T.r_fault (rd_fault _ _ _) ?_
        walk_at "wp"
        refine q _ _ (updS ((updS s2).trans (Same.new htp))) ?_
        have er : Gh.readList t = .error (1, lineEnd t j) := by
          rw [← hfin, p6 hE, lines_last z j (by intro h0; rw [h0] at p3; simp at p3; omega) p4, e3, hla]; rfl
        rw [er]
        exact ⟨dx, S, _, upd_same, tp, rfl, (upd_ne ntx.symm).trans upd_same⟩
      · have hE : lineEnd t j < t.length := by omega
        refine fld_r upd_same T.clR T.r_fault (rd_fault _ _ _) ?_
        walk_at "wp"
        refine ⟨t.length - (lineEnd t j + 1), by show _ < t.length - j; omega, (lineEnd t j + 1, z'), rfl, _, rfl, updS s2, upd_same, fin3, hg', hE, ?_⟩
        rw [← hfin, p5 hE, lines_more z j p4, e3, hla]
  · have ej : j = t.length := by omega
    subst ej
    refine fld_r hx' T.clR T.r_signs (rd_signs _ _ _) ?_
    walk_at "wp"
    refine len_b (s'.seq ht) ?_
    walk_at "wp"
    refine ⟨S, t.length, F, z, rfl, hS', hg, fun H2 v s2 hf => ?_⟩
    have hx2 := s2 _ _ hx'
    walk_at "wp"
    refine ⟨x, _, dx, _, rfl, hx2, T.clR, T.r_fault, (by show 3 < 1000; decide), ?_⟩; rw [put_rd2]
    walk_at "wp"
    refine q _ _ (updS (s'.trans s2)) ?_
    rw [List.drop_length, lines_end, fin_ok hg] at hfin
    have hf3 := fault_up (o := .ins ad.c_Reading dx (rdF false S v)) hx2 hf
    cases hte : textEndFault z t.length with
    | some f =>
      rw [hte] at hf3 hfin
      rw [← hfin]
      exact ⟨dx, S, v, upd_same, hf3⟩
    | none =>
      rw [hte] at hf3 hfin
      rw [← hfin]
      have hz : ∃ d, z.now = some d := by
        unfold textEndFault at hte
        cases hn : z.now with
        | none => rw [hn] at hte; cases hte
        | some d => exact ⟨d, rfl⟩
      obtain ⟨d, hz⟩ := hz
      exact ⟨dx, S, v, upd_same, hf3, ListAt.fr (Fr.read hx2) (list_of_signs (hS'.same s2) hz)⟩
end
end Pg

end
section
set_option Elab.async false
set_option linter.all false
set_option maxRecDepth 100000
set_option maxHeartbeats 2000000
namespace Pg
open PySem PySem.Spec PyProof.Rows L2
open Gh (Bytes Name Draft Fault Signs isSmall isDigit isBig nameOf)
open Gm
local macro_rules | `(tactic| walk_at "wp") => `(tactic| try simp only [tSeq, tAsg, gName, tVar, tC, tRet, tRetN, tIfS, tDrop, tNext, tAnd, tOr, tNot, tTest, tB, tOp, tUn, tChain, tCB, tCons, tNil, tIf, tAndV, tCall, tPart, tNoPart, tSl, tTup, tLst, iList, iTup, iEnum, wipe, tFld, tBM, tMake, sFld, gTup, gCons, gNil, i0, u0, eq_i, ne_i, isN_non, isN_ref, notN_non, notN_ref, bl_test, int_ex,
  L2.start, List.map_cons, List.map_nil, List.length_cons, List.length_nil, List.cons_append, List.nil_append, List.append_nil, List.replicate, Nat.reduceAdd, Nat.reduceSub, List.getElem?_cons_zero, List.getElem?_cons_succ, Option.some.injEq, exists_eq_left', List.set_cons_zero, List.set_cons_succ, decide_eq_true_eq, Bool.not_eq_true', decide_eq_false_iff_not, Bool.false_eq_true, if_true, if_false, Bool.not_true, Bool.not_false])
section
variable {K : PySem.W.Frag} {ad : Ad} {vs : List V} {H : Hp} {Q : VK} {E : XK}
theorem read_err {x : Addr} {f : Fault} (h : ReadAt ad H x (.error f)) : ∃ dx S fa, H x = some (.ins ad.c_Reading dx (rdF false S (.ref fa))) ∧ H fa = some (.tup [.int f.1, .int f.2]) := by
  obtain ⟨dx, S, v, h1, fa, rfl, h2⟩ := h
  exact ⟨dx, S, fa, h1, h2⟩
theorem read_ok {x : Addr} {l : Signs} (h : ReadAt ad H x (.ok l)) : ∃ dx S as, H x = some (.ins ad.c_Reading dx (rdF false S .non)) ∧ H S = some (.lst (as.map V.ref)) ∧ DoneAt ad.c_Sign H (fun _ => True) as l := by
  obtain ⟨dx, S, v, h1, rfl, as, h2, h3⟩ := h
  exact ⟨dx, S, as, h1, h2, h3⟩
theorem rd_text_refusal (T : TxC K ad) (h : sp_text_refusal K ad vs H Q E) : wp_text_refusal K ad { nx := fun _ H' => Q .non H', rt := Q } (L2.start N_text_refusal vs) H := by
  obtain ⟨x, r, rfl, hr, q⟩ := h
  unfold wp_text_refusal N_text_refusal
  walk_at "wp"
  cases r with
  | error f =>
    obtain ⟨dx, S, fa, h1, h2⟩ := read_err hr
    refine fld_r h1 T.clR T.r_too_long (rd_too_long _ _ _) ?_
    walk_at "wp"
    refine fld_r h1 T.clR T.r_fault (rd_fault _ _ _) ?_
    walk_at "wp"
    exact q
  | ok l =>
    obtain ⟨dx, S, as, h1, h2, h3⟩ := read_ok hr
    refine fld_r h1 T.clR T.r_too_long (rd_too_long _ _ _) ?_
    walk_at "wp"
    refine fld_r h1 T.clR T.r_fault (rd_fault _ _ _) ?_
    walk_at "wp"
    exact q
theorem rd_sign_refusal (T : TxC K ad) (h : sp_sign_refusal K ad vs H Q E) : wp_sign_refusal K ad { nx := fun _ H' => Q .non H', rt := Q } (L2.start N_sign_refusal vs) H := by
  obtain ⟨x, r, k, rfl, hr, q⟩ := h
  unfold wp_sign_refusal N_sign_refusal
  walk_at "wp"
  refine ⟨x, r, rfl, hr, ?_⟩
  walk_at "wp"
  cases r with
  | error f =>
    refine ite2 (fun c => absurd c (by show ¬ (-6 : Int) = 0; decide)) (fun c => ?_)
    exact q
  | ok l =>
    obtain ⟨dx, S, as, h1, h2, h3⟩ := read_ok hr
    refine ite2 (fun c => ?_) (fun c => absurd rfl c)
    refine fld_r h1 T.clR T.r_signs (rd_signs _ _ _) ?_
    walk_at "wp"
    refine len_h h2 ?_
    rw [List.length_map, paired_len h3]
    walk_at "wp"
    have e : refAt k (.ok l) = if l.length ≤ k then -4 else 0 := rfl
    rw [e] at q
    refine ite2 (fun c => ?_) (fun c => ?_)
    · rw [if_pos (by omega)] at q; exact q
    · rw [if_neg (by omega)] at q; exact q
theorem pick {R : Except Fault Signs} {x : Addr} {k : Nat} (hr : ReadAt ad H x R) (hz : refAt k R = 0) : ∃ (l : Signs) (s : Gh.Sign) (dx S : Addr) (as : List Addr) (a r : Addr) (p : Nat), R = .ok l ∧ l[k]? = some s ∧ H x = some (.ins ad.c_Reading dx (rdF false S .non)) ∧ H S = some (.lst (as.map V.ref)) ∧ (as.map V.ref)[k]? = some (.ref a) ∧ SgAt ad.c_Sign H (fun _ => True) a r p s.name.text s.sounds s.shape.rows := by
  cases R with
  | error f => exact absurd hz (by show ¬ (-6 : Int) = 0; decide)
  | ok l =>
    obtain ⟨dx, S, as, h1, h2, h3⟩ := read_ok hr
    have hk : k < l.length := by
      refine Decidable.byContradiction fun c => ?_
      have : refAt k (.ok l) = -4 := by show (if l.length ≤ k then (-4 : Int) else 0) = -4; rw [if_pos (by omega)]
      rw [this] at hz
      exact absurd hz (by decide)
    obtain ⟨s, hs⟩ : ∃ s, l[k]? = some s := ⟨_, List.getElem?_eq_getElem hk⟩
    obtain ⟨a, ha, r, p, hat, _⟩ := paired_get' h3 hs
    exact ⟨l, s, dx, S, as, a, r, p, rfl, hs, h1, h2, by simp [ha], hat⟩
theorem pick_no {t : Bytes} {k : Nat} {f : Gh.Sign → List Int} (hz : ¬ refAt k (Gh.readList t) = 0) : ofSign t k f = [refAt k (Gh.readList t)] := by
  unfold ofSign
  cases h : Gh.readList t with
  | error e => rfl
  | ok l =>
    rw [h] at hz
    have : l.length ≤ k := Decidable.byContradiction fun c => hz (by show (if l.length ≤ k then (-4 : Int) else 0) = 0; rw [if_neg c])
    simp only
    rw [List.getElem?_eq_none this]
    show _ = [if l.length ≤ k then (-4 : Int) else 0]
    rw [if_pos this]
theorem pick_yes {t : Bytes} {k : Nat} {f : Gh.Sign → List Int} {l : Signs} {s : Gh.Sign} (h1 : Gh.readList t = .ok l) (h2 : l[k]? = some s) : ofSign t k f = f s := by
  unfold ofSign
  rw [h1]
  simp only
  rw [h2]
theorem rd_counted (T : TxC K ad) (h : sp_counted K ad vs H Q E) : wp_counted K ad { nx := fun _ H' => Q .non H', rt := Q } (L2.start N_counted vs) H := by
  obtain ⟨a, w, rfl, ha, hm, q⟩ := h
  have hM : MOST = 100000 := rfl
  unfold wp_counted N_counted
  walk_at "wp"
  refine len_b (SqL.of ha) ?_
  walk_at "wp"
  refine ⟨by show 1 ≤ sizeLine; decide, fun lp hlp => ?_⟩
  have s2 : Same H (upd H lp (.lst [.int (w.length : Nat)])) := Same.new hlp
  refine ⟨lp, a, _, _, rfl, rfl, upd_same, s2 _ _ ha, ?_, fun p hp => q _ p upd_same⟩
  rw [bv_len]
  exact size_le (by show _ ≤ 100000; simp; omega)
theorem rd_name (T : TxC K ad) (h : sp_name K ad vs H Q E) : wp_name K ad { nx := fun _ H' => Q .non H', rt := Q } (L2.start N_name vs) H := by
  obtain ⟨a, t, k, rfl, ht, hm, q⟩ := h
  unfold wp_name N_name
  walk_at "wp"
  refine ⟨a, t, rfl, ht, hm, fun H1 x s1 hr => ?_⟩
  walk_at "wp"
  refine ⟨x, _, k, rfl, hr, ?_⟩
  walk_at "wp"
  refine ite2 (fun c => ?_) (fun c => ?_)
  · rw [pick_no c] at q
    exact ⟨by show 1 ≤ sizeLine; decide, fun p hp => q _ p upd_same⟩
  · obtain ⟨l, s, dx, S, as, sa, r, p, e1, e2, h1, h2, h3, h4⟩ := pick hr (Decidable.byContradiction c)
    rw [pick_yes e1 e2] at q
    obtain ⟨dx', n, so, ss, as', k1, k2, _⟩ := sg_fld T.clS h4
    refine fld_r h1 T.clR T.r_signs (rd_signs _ _ _) ?_
    walk_at "wp"
    refine ix_l (SqL.of h2) h3 ?_
    walk_at "wp"
    refine fld_r k1 T.clS T.s_name (sg_name _ _ _ _) ?_
    walk_at "wp"
    have g := readList_good e1 s (List.mem_of_getElem? e2)
    have := nameOf_len g.nm
    exact ⟨n, s.name.text, rfl, k2, by show _ < 100000; omega, q⟩
end
end Pg

end
section
set_option Elab.async false
set_option linter.all false
set_option maxRecDepth 100000
set_option maxHeartbeats 2000000
namespace Pg
open PySem PySem.Spec PyProof.Rows L2
open Gh (Bytes Name Draft Fault Signs isSmall isDigit isBig nameOf)
open Gm
local macro_rules | `(tactic| walk_at "wp") => `(tactic| try simp only [tSeq, tAsg, gName, tVar, tC, tRet, tRetN, tIfS, tDrop, tNext, tAnd, tOr, tNot, tTest, tB, tOp, tUn, tChain, tCB, tCons, tNil, tIf, tAndV, tCall, tPart, tNoPart, tSl, tTup, tLst, iList, iTup, iEnum, wipe, tFld, tBM, tMake, tDNewT, tDIn, tDNotIn, sDPut, tBM0, sFld, gTup, gCons, gNil, i0, u0, eq_i, ne_i, isN_non, isN_ref, notN_non, notN_ref, bl_test, int_ex,
  L2.start, List.map_cons, List.map_nil, List.length_cons, List.length_nil, List.cons_append, List.nil_append, List.append_nil, List.replicate, Nat.reduceAdd, Nat.reduceSub, List.getElem?_cons_zero, List.getElem?_cons_succ, Option.some.injEq, exists_eq_left', List.set_cons_zero, List.set_cons_succ, decide_eq_true_eq, Bool.not_eq_true', decide_eq_false_iff_not, Bool.false_eq_true, if_true, if_false, Bool.not_true, Bool.not_false])
section
variable {K : PySem.W.Frag} {ad : Ad} {vs : List V} {H : Hp} {Q : VK} {E : XK}
end
end Pg

end
section
set_option Elab.async false
set_option linter.all false
set_option maxRecDepth 100000
set_option maxHeartbeats 2000000
namespace Pg
open PySem PySem.Spec PyProof.Rows L2
open Gh (Bytes Name Draft Fault Signs isSmall isDigit isBig nameOf)
open Gm
local macro_rules | `(tactic| walk_at "wp") => `(tactic| try simp only [tSeq, tAsg, gName, tVar, tC, tRet, tRetN, tIfS, tDrop, tNext, tAnd, tOr, tNot, tTest, tB, tOp, tUn, tChain, tCB, tCons, tNil, tIf, tAndV, tCall, tPart, tNoPart, tSl, tTup, tLst, iList, iTup, iEnum, wipe, tFld, tBM, tMake, tDNewT, tDIn, tDNotIn, sDPut, tBM0, sFld, gTup, gCons, gNil, i0, u0, eq_i, ne_i, isN_non, isN_ref, notN_non, notN_ref, bl_test, int_ex,
  L2.start, List.map_cons, List.map_nil, List.length_cons, List.length_nil, List.cons_append, List.nil_append, List.append_nil, List.replicate, Nat.reduceAdd, Nat.reduceSub, List.getElem?_cons_zero, List.getElem?_cons_succ, Option.some.injEq, exists_eq_left', List.set_cons_zero, List.set_cons_succ, decide_eq_true_eq, Bool.not_eq_true', decide_eq_false_iff_not, Bool.false_eq_true, if_true, if_false, Bool.not_true, Bool.not_false])
section
variable {K : PySem.W.Frag} {ad : Ad} {vs : List V} {H : Hp} {Q : VK} {E : XK}
end
end Pg

end
section
set_option Elab.async false
set_option linter.all false
set_option maxRecDepth 100000
set_option maxHeartbeats 2000000
namespace Pg
open PySem PySem.Spec PyProof.Rows L2
open Gh (Bytes Name Draft Fault Signs isSmall isDigit isBig nameOf)
open Gm
local macro_rules | `(tactic| walk_at "wp") => `(tactic| try simp only [tSeq, tAsg, gName, tVar, tC, tRet, tRetN, tIfS, tDrop, tNext, tAnd, tOr, tNot, tTest, tB, tOp, tUn, tChain, tCB, tCons, tNil, tIf, tAndV, tCall, tPart, tNoPart, tSl, tTup, tLst, iList, iTup, iEnum, wipe, tFld, tBM, tMake, tDNewT, tDIn, tDNotIn, sDPut, tBM0, sFld, gTup, gCons, gNil, i0, u0, eq_i, ne_i, isN_non, isN_ref, notN_non, notN_ref, bl_test, int_ex,
  L2.start, List.map_cons, List.map_nil, List.length_cons, List.length_nil, List.cons_append, List.nil_append, List.append_nil, List.replicate, Nat.reduceAdd, Nat.reduceSub, List.getElem?_cons_zero, List.getElem?_cons_succ, Option.some.injEq, exists_eq_left', List.set_cons_zero, List.set_cons_succ, decide_eq_true_eq, Bool.not_eq_true', decide_eq_false_iff_not, Bool.false_eq_true, if_true, if_false, Bool.not_true, Bool.not_false])
section
variable {K : PySem.W.Frag} {ad : Ad} {vs : List V} {H : Hp} {Q : VK} {E : XK}
end
end Pg

end
section
set_option Elab.async false
set_option linter.all false
set_option maxRecDepth 100000
set_option maxHeartbeats 2000000
namespace Pg
open PySem PySem.Spec PyProof.Rows L2
open Gh (Bytes Name Draft Fault Signs isSmall isDigit isBig nameOf)
open Gm
local macro_rules | `(tactic| walk_at "wp") => `(tactic| try simp only [tSeq, tAsg, gName, tVar, tC, tRet, tRetN, tIfS, tDrop, tNext, tAnd, tOr, tNot, tTest, tB, tOp, tUn, tChain, tCB, tCons, tNil, tIf, tAndV, tCall, tPart, tNoPart, tSl, tTup, tLst, iList, iTup, iEnum, wipe, tFld, tBM, tMake, tDNewT, tDIn, tDNotIn, sDPut, tBM0, sFld, gTup, gCons, gNil, i0, u0, eq_i, ne_i, isN_non, isN_ref, notN_non, notN_ref, bl_test, int_ex,
  L2.start, List.map_cons, List.map_nil, List.length_cons, List.length_nil, List.cons_append, List.nil_append, List.append_nil, List.replicate, Nat.reduceAdd, Nat.reduceSub, List.getElem?_cons_zero, List.getElem?_cons_succ, Option.some.injEq, exists_eq_left', List.set_cons_zero, List.set_cons_succ, decide_eq_true_eq, Bool.not_eq_true', decide_eq_false_iff_not, Bool.false_eq_true, if_true, if_false, Bool.not_true, Bool.not_false])
section
variable {K : PySem.W.Frag} {ad : Ad} {vs : List V} {H : Hp} {Q : VK} {E : XK}
end
end Pg

end
section
set_option Elab.async false
set_option linter.all false
set_option maxRecDepth 100000
set_option maxHeartbeats 2000000
namespace Pg
open PySem PySem.Spec PyProof.Rows L2
open Gh (Bytes Name Draft Fault Signs isSmall isDigit isBig nameOf)
open Gm
local macro_rules | `(tactic| walk_at "wp") => `(tactic| try simp only [tSeq, tAsg, gName, tVar, tC, tRet, tRetN, tIfS, tDrop, tNext, tAnd, tOr, tNot, tTest, tB, tOp, tUn, tChain, tCB, tCons, tNil, tIf, tAndV, tCall, tPart, tNoPart, tSl, tTup, tLst, iList, iTup, iEnum, wipe, tFld, tBM, tMake, tDNewT, tDIn, tDNotIn, sDPut, tBM0, sFld, gTup, gCons, gNil, i0, u0, eq_i, ne_i, isN_non, isN_ref, notN_non, notN_ref, bl_test, int_ex,
  L2.start, List.map_cons, List.map_nil, List.length_cons, List.length_nil, List.cons_append, List.nil_append, List.append_nil, List.replicate, Nat.reduceAdd, Nat.reduceSub, List.getElem?_cons_zero, List.getElem?_cons_succ, Option.some.injEq, exists_eq_left', List.set_cons_zero, List.set_cons_succ, decide_eq_true_eq, Bool.not_eq_true', decide_eq_false_iff_not, Bool.false_eq_true, if_true, if_false, Bool.not_true, Bool.not_false])
section
variable {K : PySem.W.Frag} {ad : Ad} {H : Hp} {Q : VK} {E : XK} {vs : List V}
end
end Pg

end
section
set_option Elab.async false
set_option linter.all false
set_option maxRecDepth 100000
set_option maxHeartbeats 2000000
namespace Pg
open PySem PySem.Spec PyProof.Rows L2
open Gh (Bytes Name Draft Fault Signs isSmall isDigit isBig nameOf)
open Gm
local macro_rules | `(tactic| walk_at "wp") => `(tactic| try simp only [tSeq, tAsg, gName, tVar, tC, tRet, tRetN, tIfS, tDrop, tNext, tAnd, tOr, tNot, tTest, tB, tOp, tUn, tChain, tCB, tCons, tNil, tIf, tAndV, tCall, tPart, tNoPart, tSl, tTup, tLst, iList, iTup, iEnum, wipe, tFld, tBM, tMake, tDNewT, tDIn, tDNotIn, sDPut, tBM0, sFld, gTup, gCons, gNil, i0, u0, eq_i, ne_i, isN_non, isN_ref, notN_non, notN_ref, bl_test, int_ex,
  L2.start, List.map_cons, List.map_nil, List.length_cons, List.length_nil, List.cons_append, List.nil_append, List.append_nil, List.replicate, Nat.reduceAdd, Nat.reduceSub, List.getElem?_cons_zero, List.getElem?_cons_succ, Option.some.injEq, exists_eq_left', List.set_cons_zero, List.set_cons_succ, decide_eq_true_eq, Bool.not_eq_true', decide_eq_false_iff_not, Bool.false_eq_true, if_true, if_false, Bool.not_true, Bool.not_false])
section
variable {K : PySem.W.Frag} {ad : Ad} {H : Hp} {Q : VK} {E : XK} {vs : List V}
end
end Pg

end
section
set_option Elab.async false
set_option linter.all false
set_option maxRecDepth 100000
set_option maxHeartbeats 2000000
namespace Pg
open PySem PySem.Spec PyProof.Rows L2
open Gh (Bytes Name Draft Fault Signs isSmall isDigit isBig nameOf)
open Gm
local macro_rules | `(tactic| walk_at "wp") => `(tactic| try simp only [tSeq, tAsg, gName, tVar, tC, tRet, tRetN, tIfS, tDrop, tNext, tAnd, tOr, tNot, tTest, tB, tOp, tUn, tChain, tCB, tCons, tNil, tIf, tAndV, tCall, tPart, tNoPart, tSl, tTup, tLst, iList, iTup, iEnum, wipe, tFld, tBM, tMake, tDNewT, tDIn, tDNotIn, sDPut, tBM0, sFld, gTup, gCons, gNil, i0, u0, eq_i, ne_i, isN_non, isN_ref, notN_non, notN_ref, bl_test, int_ex,
  L2.start, List.map_cons, List.map_nil, List.length_cons, List.length_nil, List.cons_append, List.nil_append, List.append_nil, List.replicate, Nat.reduceAdd, Nat.reduceSub, List.getElem?_cons_zero, List.getElem?_cons_succ, Option.some.injEq, exists_eq_left', List.set_cons_zero, List.set_cons_succ, decide_eq_true_eq, Bool.not_eq_true', decide_eq_false_iff_not, Bool.false_eq_true, if_true, if_false, Bool.not_true, Bool.not_false])
section
variable {K : PySem.W.Frag} {ad : Ad} {H : Hp} {Q : VK} {E : XK} {vs : List V}
end
end Pg

end
section
set_option Elab.async false
set_option linter.all false
set_option maxRecDepth 100000
set_option maxHeartbeats 2000000
namespace Pg
open PySem PySem.Spec PyProof.Rows L2
open Gh (Bytes Name Draft Fault Signs isSmall isDigit isBig nameOf)
open Gm
local macro_rules | `(tactic| walk_at "wp") => `(tactic| try simp only [tSeq, tAsg, gName, tVar, tC, tRet, tRetN, tIfS, tDrop, tNext, tAnd, tOr, tNot, tTest, tB, tOp, tUn, tChain, tCB, tCons, tNil, tIf, tAndV, tCall, tPart, tNoPart, tSl, tTup, tLst, iList, iTup, iEnum, wipe, tFld, tBM, tMake, tDNewT, tDIn, tDNotIn, sDPut, tBM0, sFld, gTup, gCons, gNil, i0, u0, eq_i, ne_i, isN_non, isN_ref, notN_non, notN_ref, bl_test, int_ex,
  L2.start, List.map_cons, List.map_nil, List.length_cons, List.length_nil, List.cons_append, List.nil_append, List.append_nil, List.replicate, Nat.reduceAdd, Nat.reduceSub, List.getElem?_cons_zero, List.getElem?_cons_succ, Option.some.injEq, exists_eq_left', List.set_cons_zero, List.set_cons_succ, decide_eq_true_eq, Bool.not_eq_true', decide_eq_false_iff_not, Bool.false_eq_true, if_true, if_false, Bool.not_true, Bool.not_false])
section
variable {K : PySem.W.Frag} {ad : Ad} {H : Hp} {Q : VK} {E : XK} {vs : List V}
end
end Pg

end
section
set_option Elab.async false
set_option linter.all false
namespace Pg
open PySem PySem.Spec PyProof.Rows L2
open Gh (Bytes Signs nameOf)
open Gm
open PySem.W (Codec WData)
theorem text_bi : ∀ {ns : List Int}, ns.all (Codec.inInt 0 255) = true → bi (GlyphANeutral.text ns) = ns
  | [], _ => rfl
  | n :: ns, h => by
    rw [List.all_cons, Bool.and_eq_true] at h
    have hn : 0 ≤ n ∧ n ≤ 255 := Codec.inInt_iff.mp h.1
    have ih := text_bi h.2
    show ((UInt8.ofNat n.toNat).toNat : Int) :: bi (GlyphANeutral.text ns) = n :: ns
    rw [ih]
    congr 1
    rw [UInt8.toNat_ofNat', Nat.mod_eq_of_lt (by omega)]
    omega
theorem text_len (ns : List Int) : (GlyphANeutral.text ns).length = ns.length := by simp [GlyphANeutral.text, GlyphANeutral.nats]
theorem text_at {K : PySem.W.Frag} {H : Hp} {a : Addr} {ns : List Int} (hs : SqL K H a (ns.map V.int)) (hb : ns.all (Codec.inInt 0 255) = true) : SqL K H a (bv (GlyphANeutral.text ns)) := by
  unfold bv
  rw [text_bi hb]; exact hs
theorem judge_eq (ns : List Int) (h : ns.length ≤ 100000) : PyWqbbbt.judge ns = judgeOf (GlyphANeutral.text ns) := by
  show GlyphANeutral.shown (GlyphA.answer (.judge (GlyphANeutral.text ns))) = _
  unfold GlyphA.answer judgeOf
  simp only
  rw [if_neg (by rw [text_len]; show ¬ 1048576 < _; omega)]
  cases Gh.readList (GlyphANeutral.text ns) <;> rfl
theorem tells_dw {K : PySem.W.Frag} {H : Hp} {l l' : List Int} (e : l' = l) : Tells H (fun v H' => Dw K H' v (WData.list (l'.map WData.int))) l := fun H' p hp => by
  rw [e]; exact .lst (SqL.of hp) (dw_ints _)
theorem sign_eq (ns : List Int) (k : Nat) (f : Gh.Sign → GlyphA.Answer) (g : Gh.Sign → List Int) (h : ns.length ≤ 100000) (hf : ∀ s, GlyphANeutral.shown (f s) = g s) : GlyphANeutral.shown (GlyphA.ofSign (GlyphANeutral.text ns) k f) = ofSign (GlyphANeutral.text ns) k g := by
  unfold GlyphA.ofSign ofSign GlyphA.ofList
  rw [if_neg (by rw [text_len]; show ¬ 1048576 < _; omega)]
  cases Gh.readList (GlyphANeutral.text ns) with
  | error f => rfl
  | ok l =>
    simp only
    cases l[k]? with
    | none => rfl
    | some s => exact hf s
theorem name_req {K : PySem.W.Frag} {H : Hp} {a : Addr} {ad : Ad} {k : Int} {ns : List Int} {E : XK} (hk : 0 ≤ k) (hs : SqL K H a (ns.map V.int)) (hl : ns.length ≤ 100000) (hb : ns.all (Codec.inInt 0 255) = true) :
    sp_name K ad [.int k, .ref a] H (fun v H' => Dw K H' v (WData.list ((PyWqbbbt.name k ns).map WData.int))) E :=
  ⟨a, GlyphANeutral.text ns, k.toNat, by rw [Int.toNat_of_nonneg hk], text_at hs hb, by rw [text_len]; exact hl, tells_dw (sign_eq ns k.toNat _ _ hl fun s => rfl)⟩
end Pg

end
section
set_option linter.all false
namespace Pg
open PySem PySem.Spec PyProof.Rows L2
theorem len_Sign {K : PySem.W.Frag} {ad : Ad} {vs : List V} {H : Hp} {Q : VK} {E : XK} (h : sp_Sign K ad vs H Q E) : vs.length = 4 := by
  obtain ⟨_, _, _, _, _, rfl, _⟩ := h
  rfl
theorem len_Reading {K : PySem.W.Frag} {ad : Ad} {vs : List V} {H : Hp} {Q : VK} {E : XK} (h : sp_Reading K ad vs H Q E) : vs.length = 2 := by
  obtain ⟨_, _, _, rfl, _⟩ := h
  rfl
theorem len_line_end {K : PySem.W.Frag} {ad : Ad} {vs : List V} {H : Hp} {Q : VK} {E : XK} (h : sp_line_end K ad vs H Q E) : vs.length = 2 := by
  obtain ⟨_, _, _, rfl, _⟩ := h
  rfl
theorem len_split_words {K : PySem.W.Frag} {ad : Ad} {vs : List V} {H : Hp} {Q : VK} {E : XK} (h : sp_split_words K ad vs H Q E) : vs.length = 3 := by
  obtain ⟨_, _, _, _, rfl, _⟩ := h
  rfl
theorem len_has_bare_rim {K : PySem.W.Frag} {ad : Ad} {vs : List V} {H : Hp} {Q : VK} {E : XK} (h : sp_has_bare_rim K ad vs H Q E) : vs.length = 1 := by
  obtain ⟨_, _, _, rfl, _⟩ := h
  rfl
theorem len_whole_sign_fault {K : PySem.W.Frag} {ad : Ad} {vs : List V} {H : Hp} {Q : VK} {E : XK} (h : sp_whole_sign_fault K ad vs H Q E) : vs.length = 2 := by
  obtain ⟨_, _, _, _, _, rfl, _⟩ := h
  rfl
theorem len_is_small_letter {K : PySem.W.Frag} {ad : Ad} {vs : List V} {H : Hp} {Q : VK} {E : XK} (h : sp_is_small_letter K ad vs H Q E) : vs.length = 1 := by
  obtain ⟨_, rfl, _⟩ := h
  rfl
theorem len_small_letter_at {K : PySem.W.Frag} {ad : Ad} {vs : List V} {H : Hp} {Q : VK} {E : XK} (h : sp_small_letter_at K ad vs H Q E) : vs.length = 2 := by
  obtain ⟨_, _, _, rfl, _⟩ := h
  rfl
theorem len_digit_run_end {K : PySem.W.Frag} {ad : Ad} {vs : List V} {H : Hp} {Q : VK} {E : XK} (h : sp_digit_run_end K ad vs H Q E) : vs.length = 2 := by
  obtain ⟨_, _, _, rfl, _⟩ := h
  rfl
theorem len_number_of {K : PySem.W.Frag} {ad : Ad} {vs : List V} {H : Hp} {Q : VK} {E : XK} (h : sp_number_of K ad vs H Q E) : vs.length = 1 := by
  obtain ⟨_, _, rfl, _⟩ := h
  rfl
theorem len_name_key {K : PySem.W.Frag} {ad : Ad} {vs : List V} {H : Hp} {Q : VK} {E : XK} (h : sp_name_key K ad vs H Q E) : vs.length = 1 := by
  obtain ⟨_, _, rfl, _⟩ := h
  rfl
theorem len_name_fault {K : PySem.W.Frag} {ad : Ad} {vs : List V} {H : Hp} {Q : VK} {E : XK} (h : sp_name_fault K ad vs H Q E) : vs.length = 3 := by
  obtain ⟨_, _, _, _, _, _, _, rfl, _⟩ := h
  rfl
theorem len_is_sound {K : PySem.W.Frag} {ad : Ad} {vs : List V} {H : Hp} {Q : VK} {E : XK} (h : sp_is_sound K ad vs H Q E) : vs.length = 1 := by
  obtain ⟨_, _, rfl, _⟩ := h
  rfl
theorem len_sounds_fault {K : PySem.W.Frag} {ad : Ad} {vs : List V} {H : Hp} {Q : VK} {E : XK} (h : sp_sounds_fault K ad vs H Q E) : vs.length = 1 := by
  obtain ⟨_, _, rfl, _⟩ := h
  rfl
theorem len_sign_line_fault {K : PySem.W.Frag} {ad : Ad} {vs : List V} {H : Hp} {Q : VK} {E : XK} (h : sp_sign_line_fault K ad vs H Q E) : vs.length = 4 := by
  obtain ⟨_, _, _, _, _, _, _, _, rfl, _⟩ := h
  rfl
theorem len_take_sign_line {K : PySem.W.Frag} {ad : Ad} {vs : List V} {H : Hp} {Q : VK} {E : XK} (h : sp_take_sign_line K ad vs H Q E) : vs.length = 4 := by
  obtain ⟨_, _, _, _, _, _, _, _, rfl, _⟩ := h
  rfl
theorem len_row_fault {K : PySem.W.Frag} {ad : Ad} {vs : List V} {H : Hp} {Q : VK} {E : XK} (h : sp_row_fault K ad vs H Q E) : vs.length = 3 := by
  obtain ⟨_, _, _, _, _, _, rfl, _⟩ := h
  rfl
theorem len_take_row {K : PySem.W.Frag} {ad : Ad} {vs : List V} {H : Hp} {Q : VK} {E : XK} (h : sp_take_row K ad vs H Q E) : vs.length = 3 := by
  obtain ⟨_, _, _, _, _, _, rfl, _⟩ := h
  rfl
theorem len_take_line {K : PySem.W.Frag} {ad : Ad} {vs : List V} {H : Hp} {Q : VK} {E : XK} (h : sp_take_line K ad vs H Q E) : vs.length = 4 := by
  obtain ⟨_, _, _, _, _, _, _, rfl, _⟩ := h
  rfl
theorem len_text_end_fault {K : PySem.W.Frag} {ad : Ad} {vs : List V} {H : Hp} {Q : VK} {E : XK} (h : sp_text_end_fault K ad vs H Q E) : vs.length = 2 := by
  obtain ⟨_, _, _, _, rfl, _⟩ := h
  rfl
theorem len_read_list {K : PySem.W.Frag} {ad : Ad} {vs : List V} {H : Hp} {Q : VK} {E : XK} (h : sp_read_list K ad vs H Q E) : vs.length = 1 := by
  obtain ⟨_, _, rfl, _⟩ := h
  rfl
theorem len_text_refusal {K : PySem.W.Frag} {ad : Ad} {vs : List V} {H : Hp} {Q : VK} {E : XK} (h : sp_text_refusal K ad vs H Q E) : vs.length = 1 := by
  obtain ⟨_, _, rfl, _⟩ := h
  rfl
theorem len_sign_refusal {K : PySem.W.Frag} {ad : Ad} {vs : List V} {H : Hp} {Q : VK} {E : XK} (h : sp_sign_refusal K ad vs H Q E) : vs.length = 2 := by
  obtain ⟨_, _, _, rfl, _⟩ := h
  rfl
theorem len_counted {K : PySem.W.Frag} {ad : Ad} {vs : List V} {H : Hp} {Q : VK} {E : XK} (h : sp_counted K ad vs H Q E) : vs.length = 1 := by
  obtain ⟨_, _, rfl, _⟩ := h
  rfl
theorem len_name {K : PySem.W.Frag} {ad : Ad} {vs : List V} {H : Hp} {Q : VK} {E : XK} (h : sp_name K ad vs H Q E) : vs.length = 2 := by
  obtain ⟨_, _, _, rfl, _⟩ := h
  rfl
structure Txt (K : PySem.W.Frag) (mg : Str → Option Value) (ad : Ad) : Prop extends TxC K ad where
  g_BARE_RIM : GV mg "BARE_RIM" (.int 4)
  g_BLANK : GV mg "BLANK" (.int 32)
  g_CAPITAL_A : GV mg "CAPITAL_A" (.int 65)
  g_CAPITAL_Z : GV mg "CAPITAL_Z" (.int 90)
  g_DIGIT_0 : GV mg "DIGIT_0" (.int 48)
  g_DIGIT_9 : GV mg "DIGIT_9" (.int 57)
  g_INK : GV mg "INK" (.int 35)
  g_LINE_FEED : GV mg "LINE_FEED" (.int 10)
  g_MOST_BYTES : GV mg "MOST_BYTES" (.int 1048576)
  g_MOST_CELLS : GV mg "MOST_CELLS" (.int 32)
  g_MOST_DIGITS : GV mg "MOST_DIGITS" (.int 3)
  g_MOST_LETTERS : GV mg "MOST_LETTERS" (.int 8)
  g_MOST_SIGNS : GV mg "MOST_SIGNS" (.int 512)
  g_MOST_SOUNDS : GV mg "MOST_SOUNDS" (.int 8)
  g_NOT_REFUSED : GV mg "NOT_REFUSED" (.int 0)
  g_NO_INK : GV mg "NO_INK" (.int 46)
  g_NO_LIST : GV mg "NO_LIST" (.int (-6))
  g_NO_SUCH : GV mg "NO_SUCH" (.int (-4))
  g_SIGN_WORD : GV mg "SIGN_WORD" (.ref ad.a_SIGN_WORD)
  g_SMALL_A : GV mg "SMALL_A" (.int 97)
  g_SMALL_Z : GV mg "SMALL_Z" (.int 122)
  g_TOO_LONG : GV mg "TOO_LONG" (.int (-2))
  g_TOO_MANY : GV mg "TOO_MANY" (.int 3)
  g_WRONG_FORM : GV mg "WRONG_FORM" (.int 1)
  g_WRONG_ORDER : GV mg "WRONG_ORDER" (.int 2)
  g_WRONG_WIDTH : GV mg "WRONG_WIDTH" (.int 5)
  n_all : mg "all" = none
  n_any : mg "any" = none
  n_enumerate : mg "enumerate" = none
  n_len : mg "len" = none
  n_range : mg "range" = none
  n_tuple : mg "tuple" = none
end Pg

end
section
set_option Elab.async false
set_option linter.all false
set_option maxRecDepth 100000
set_option maxHeartbeats 4000000
namespace Pg
open PySem PySem.Spec PyProof.Rows L2
def top (i : Nat) : Stmt := PySem.Challenge.pw_signlists_s03_name.main.body.getD i (.Pass ⟨0, 0, 0, 0⟩)
section
variable {P : Program} {w : World} {K : PySem.W.Frag} {mg : Str → Option Value} {base : Heap} {ad : Ad}
abbrev s_Sign : Stmt := inClass (top 23) 0
theorem sc_Sign : FnScope N_Sign ["self", "place", "name", "sounds"] (defScope s_Sign) := ⟨rfl, rfl, rfl, by decide +kernel, rfl, by decide +kernel, by decide +kernel⟩
theorem ok_Sign {f : Addr} {fd : FuncData} (F : Fun K "__init__" "Sign.__init__" s_Sign f fd) (T : Txt K mg ad)  : FnOk P w K mg base CX0 1 f fd ["self", "place", "name", "sounds"] (sp_Sign K ad) := by
  have S := sc_Sign
  refine F.ok sc_Sign (fun vs H Q E h => len_Sign h) (fun cdv A outer s H vs Q E hr h => ⟨wp_Sign K ad, ?_, rd_Sign T.toTxC h⟩)
  exact (pss_cons (ps_fld (pv 0) (pv 1) rfl)
      (pss_cons (ps_fld (pv 0) (pv 2) rfl)
      (pss_cons (ps_fld (pv 0) (pv 3) rfl)
      (pss_one (ps_fld (pv 0) (pe_lst pa_nil) rfl)))))
abbrev s_Reading : Stmt := inClass (top 24) 0
theorem sc_Reading : FnScope N_Reading ["self", "too_long"] (defScope s_Reading) := ⟨rfl, rfl, rfl, by decide +kernel, rfl, by decide +kernel, by decide +kernel⟩
theorem ok_Reading {f : Addr} {fd : FuncData} (F : Fun K "__init__" "Reading.__init__" s_Reading f fd) (T : Txt K mg ad)  : FnOk P w K mg base CX0 1 f fd ["self", "too_long"] (sp_Reading K ad) := by
  have S := sc_Reading
  refine F.ok sc_Reading (fun vs H Q E h => len_Reading h) (fun cdv A outer s H vs Q E hr h => ⟨wp_Reading K ad, ?_, rd_Reading T.toTxC h⟩)
  exact (pss_cons (ps_fld (pv 0) (pv 1) rfl)
      (pss_cons (ps_fld (pv 0) (pe_lst pa_nil) rfl)
      (pss_one (ps_fld (pv 0) pe_non rfl))))
abbrev s_line_end : Stmt := top 26
theorem sc_line_end : FnScope N_line_end ["t", "start"] (defScope s_line_end) := ⟨rfl, rfl, rfl, by decide +kernel, rfl, by decide +kernel, by decide +kernel⟩
theorem ok_line_end {f : Addr} {fd : FuncData} (F : Fun K "line_end" "line_end" s_line_end f fd) (T : Txt K mg ad)  : FnOk P w K mg base CX0 1 f fd ["t", "start"] (sp_line_end K ad) := by
  have S := sc_line_end
  refine F.ok sc_line_end (fun vs H Q E h => len_line_end h) (fun cdv A outer s H vs Q E hr h => ⟨wp_line_end K ad, ?_, rd_line_end T.toTxC h⟩)
  exact (pss_cons (ps_set (i := 2) S.nd rfl (Or.inl rfl) (pv 1))
      (pss_cons (ps_while PassesOwn.never (PW.pt (pw_and (pt_cmpR op_lt (pv 2) (pe_callB call_len (by rfl) T.n_len PySem.boot_len (pa_cons (pv 0) pa_nil)) (nomark _)) (pw_and1 (pt_cmpR op_ne (pe_ix ix_list (pv 0) (pv 2) (fun _ _ => rfl)) (pe_gv T.g_LINE_FEED rfl) (nomark _))))) (pss_one (ps_set (i := 2) S.nd rfl (Or.inl rfl) (pe_op op_add (pv 2) pe_int))))
      (pss_one (ps_ret (pv 2)))))
abbrev s_split_words : Stmt := top 28
theorem sc_split_words : FnScope N_split_words ["t", "start", "end"] (defScope s_split_words) := ⟨rfl, rfl, rfl, by decide +kernel, rfl, by decide +kernel, by decide +kernel⟩
theorem ok_split_words {f : Addr} {fd : FuncData} (F : Fun K "split_words" "split_words" s_split_words f fd) (T : Txt K mg ad)  : FnOk P w K mg base CX0 1 f fd ["t", "start", "end"] (sp_split_words K ad) := by
  have S := sc_split_words
  refine F.ok sc_split_words (fun vs H Q E h => len_split_words h) (fun cdv A outer s H vs Q E hr h => ⟨wp_split_words K ad, ?_, rd_split_words T.toTxC h⟩)
  exact (pss_cons (ps_set (i := 3) S.nd rfl (Or.inl rfl) (pe_lst pa_nil))
      (pss_cons (ps_set (i := 4) S.nd rfl (Or.inl rfl) (pv 1))
      (pss_cons (ps_for PassesOwn.never rfl (pi_range2 rfl T.n_range (pa_cons (pv 1) (pa_cons (pv 2) pa_nil))) (pg_name (i := 5) S.nd rfl (Or.inl rfl)) (pss_one (ps_if (pt_cmpR op_eq (pe_ix ix_list (pv 0) (pv 5) (fun _ _ => rfl)) (pe_gv T.g_BLANK rfl) (nomark _)) (pss_cons (ps_expr (pe_bm PySem.F.plainAttrs_list PySem.F.slot_list_append PySem.F.type_list_append mt_append (pv 3) (pa_cons (pe_tup (pa_cons (pv 4) (pa_cons (pe_slice sl_list (pv 0) (po_some (pv 4)) (po_some (pv 5))) pa_nil))) pa_nil)))
      (pss_one (ps_set (i := 4) S.nd rfl (Or.inl rfl) (pe_op op_add (pv 5) pe_int)))) pss_nil)))
      (pss_cons (ps_expr (pe_bm PySem.F.plainAttrs_list PySem.F.slot_list_append PySem.F.type_list_append mt_append (pv 3) (pa_cons (pe_tup (pa_cons (pv 4) (pa_cons (pe_slice sl_list (pv 0) (po_some (pv 4)) (po_some (pv 2))) pa_nil))) pa_nil)))
      (pss_one (ps_ret (pv 3)))))))
abbrev s_has_bare_rim : Stmt := top 33
theorem sc_has_bare_rim : FnScope N_has_bare_rim ["rows"] (defScope s_has_bare_rim) := ⟨rfl, rfl, rfl, by decide +kernel, rfl, by decide +kernel, by decide +kernel⟩
theorem ok_has_bare_rim {f : Addr} {fd : FuncData} (F : Fun K "has_bare_rim" "has_bare_rim" s_has_bare_rim f fd) (T : Txt K mg ad)  : FnOk P w K mg base CX0 1 f fd ["rows"] (sp_has_bare_rim K ad) := by
  have S := sc_has_bare_rim
  refine F.ok sc_has_bare_rim (fun vs H Q E h => len_has_bare_rim h) (fun cdv A outer s H vs Q E hr h => ⟨wp_has_bare_rim K ad, ?_, rd_has_bare_rim T.toTxC h⟩)
  exact (pss_cons (ps_setLc (i := 1) rfl S.nd rfl rfl rfl (pi_list (pv 0)) (own := [("row", 2)]) (blkOk_by (show blkC N_has_bare_rim (defScope s_has_bare_rim) _ _ = true from by decide +kernel)) (fun _ _ _ _ _ => (pg_name (i := 2) S.nd rfl (Or.inl rfl))) (fun _ _ _ _ _ => pts_nil) (fun _ _ _ _ _ => (pe_ix ix_list (pv 2) pe_int (fun _ _ => rfl))))
      (pss_cons (ps_setLc (i := 3) rfl S.nd rfl rfl rfl (pi_list (pv 0)) (own := [("row", 2)]) (blkOk_by (show blkC N_has_bare_rim (defScope s_has_bare_rim) _ _ = true from by decide +kernel)) (fun _ _ _ _ _ => (pg_name (i := 2) S.nd rfl (Or.inl rfl))) (fun _ _ _ _ _ => pts_nil) (fun _ _ _ _ _ => (pe_ix ix_list (pv 2) (pe_un un_neg pe_int) (fun _ _ => rfl))))
      (pss_one (ps_ret (pe_callB (cr_any rfl) (by rfl) T.n_any PyProof.Rows.boot_any (pa_cons (pe_lc rfl S.nd (pi_tup (pe_tup (pa_cons (pe_ix ix_list (pv 0) pe_int (fun _ _ => rfl)) (pa_cons (pe_ix ix_list (pv 0) (pe_un un_neg pe_int) (fun _ _ => rfl)) (pa_cons (pv 1) (pa_cons (pv 3) pa_nil)))))) (own := [("side", 4)]) (blkOk_by (show blkC N_has_bare_rim (defScope s_has_bare_rim) _ _ = true from by decide +kernel)) (fun _ _ _ _ _ => (pg_name (i := 4) S.nd rfl (Or.inl rfl))) (fun _ _ _ _ _ => pts_nil) (fun _ _ _ _ _ => (pe_cmpR op_notIn_seq (pe_gv T.g_INK rfl) (pv 4) (by rfl)))) pa_nil))))))
abbrev s_whole_sign_fault : Stmt := top 32
theorem sc_whole_sign_fault : FnScope N_whole_sign_fault ["sign", "place"] (defScope s_whole_sign_fault) := ⟨rfl, rfl, rfl, by decide +kernel, rfl, by decide +kernel, by decide +kernel⟩
theorem ok_whole_sign_fault {f : Addr} {fd : FuncData} (F : Fun K "whole_sign_fault" "whole_sign_fault" s_whole_sign_fault f fd) (T : Txt K mg ad) (O_has_bare_rim : OkF P w K mg base 1 "has_bare_rim" ["rows"] (sp_has_bare_rim K ad)) : FnOk P w K mg base CX0 2 f fd ["sign", "place"] (sp_whole_sign_fault K ad) := by
  have S := sc_whole_sign_fault
  refine F.ok sc_whole_sign_fault (fun vs H Q E h => len_whole_sign_fault h) (fun cdv A outer s H vs Q E hr h => ⟨wp_whole_sign_fault K ad, ?_, rd_whole_sign_fault T.toTxC h⟩)
  exact (pss_cons (ps_if (pt_cmpR op_eq (pe_callB call_len (by rfl) T.n_len PySem.boot_len (pa_cons (pe_fld (pv 0) rfl) pa_nil)) pe_int (nomark _)) (pss_one (ps_ret (pe_tup (pa_cons (pe_gv T.g_WRONG_FORM rfl) (pa_cons (pv 1) pa_nil))))) pss_nil)
      (pss_cons (ps_if (pt_val (pe_callF O_has_bare_rim (hr.mono (by decide)) rfl (pa_cons (pe_fld (pv 0) rfl) pa_nil))) (pss_one (ps_ret (pe_tup (pa_cons (pe_gv T.g_BARE_RIM rfl) (pa_cons (pe_fld (pv 0) rfl) pa_nil))))) pss_nil)
      (pss_one (ps_ret pe_non))))
abbrev s_is_small_letter : Stmt := top 37
theorem sc_is_small_letter : FnScope N_is_small_letter ["value"] (defScope s_is_small_letter) := ⟨rfl, rfl, rfl, by decide +kernel, rfl, by decide +kernel, by decide +kernel⟩
theorem ok_is_small_letter {f : Addr} {fd : FuncData} (F : Fun K "is_small_letter" "is_small_letter" s_is_small_letter f fd) (T : Txt K mg ad)  : FnOk P w K mg base CX0 1 f fd ["value"] (sp_is_small_letter K ad) := by
  have S := sc_is_small_letter
  refine F.ok sc_is_small_letter (fun vs H Q E h => len_is_small_letter h) (fun cdv A outer s H vs Q E hr h => ⟨wp_is_small_letter K ad, ?_, rd_is_small_letter T.toTxC h⟩)
  exact (pss_one (ps_ret (pe_chain op_le op_le (pe_gv T.g_SMALL_A rfl) (pv 0) (pe_gv T.g_SMALL_Z rfl))))
abbrev s_small_letter_at : Stmt := top 36
theorem sc_small_letter_at : FnScope N_small_letter_at ["word", "at"] (defScope s_small_letter_at) := ⟨rfl, rfl, rfl, by decide +kernel, rfl, by decide +kernel, by decide +kernel⟩
theorem ok_small_letter_at {f : Addr} {fd : FuncData} (F : Fun K "small_letter_at" "small_letter_at" s_small_letter_at f fd) (T : Txt K mg ad) (O_is_small_letter : OkF P w K mg base 1 "is_small_letter" ["value"] (sp_is_small_letter K ad)) : FnOk P w K mg base CX0 2 f fd ["word", "at"] (sp_small_letter_at K ad) := by
  have S := sc_small_letter_at
  refine F.ok sc_small_letter_at (fun vs H Q E h => len_small_letter_at h) (fun cdv A outer s H vs Q E hr h => ⟨wp_small_letter_at K ad, ?_, rd_small_letter_at T.toTxC h⟩)
  exact (pss_cons (ps_if (PW.pt (pw_and (pt_cmpR op_lt (pv 1) (pe_callB call_len (by rfl) T.n_len PySem.boot_len (pa_cons (pv 0) pa_nil)) (nomark _)) (pw_and1 (pt_val (pe_callF O_is_small_letter (hr.mono (by decide)) rfl (pa_cons (pe_ix ix_list (pv 0) (pv 1) (fun _ _ => rfl)) pa_nil)))))) (pss_one (ps_ret (pe_ix ix_list (pv 0) (pv 1) (fun _ _ => rfl)))) pss_nil)
      (pss_one (ps_ret pe_int)))
abbrev s_digit_run_end : Stmt := top 38
theorem sc_digit_run_end : FnScope N_digit_run_end ["word", "start"] (defScope s_digit_run_end) := ⟨rfl, rfl, rfl, by decide +kernel, rfl, by decide +kernel, by decide +kernel⟩
theorem ok_digit_run_end {f : Addr} {fd : FuncData} (F : Fun K "digit_run_end" "digit_run_end" s_digit_run_end f fd) (T : Txt K mg ad)  : FnOk P w K mg base CX0 1 f fd ["word", "start"] (sp_digit_run_end K ad) := by
  have S := sc_digit_run_end
  refine F.ok sc_digit_run_end (fun vs H Q E h => len_digit_run_end h) (fun cdv A outer s H vs Q E hr h => ⟨wp_digit_run_end K ad, ?_, rd_digit_run_end T.toTxC h⟩)
  exact (pss_cons (ps_set (i := 2) S.nd rfl (Or.inl rfl) (pv 1))
      (pss_cons (ps_while PassesOwn.never (PW.pt (pw_and (pt_cmpR op_lt (pv 2) (pe_callB call_len (by rfl) T.n_len PySem.boot_len (pa_cons (pv 0) pa_nil)) (nomark _)) (pw_and1 (pt_chain op_le op_le (pe_gv T.g_DIGIT_0 rfl) (pe_ix ix_list (pv 0) (pv 2) (fun _ _ => rfl)) (pe_gv T.g_DIGIT_9 rfl))))) (pss_one (ps_set (i := 2) S.nd rfl (Or.inl rfl) (pe_op op_add (pv 2) pe_int))))
      (pss_one (ps_ret (pv 2)))))
abbrev s_number_of : Stmt := top 39
theorem sc_number_of : FnScope N_number_of ["digits"] (defScope s_number_of) := ⟨rfl, rfl, rfl, by decide +kernel, rfl, by decide +kernel, by decide +kernel⟩
theorem ok_number_of {f : Addr} {fd : FuncData} (F : Fun K "number_of" "number_of" s_number_of f fd) (T : Txt K mg ad)  : FnOk P w K mg base CX0 1 f fd ["digits"] (sp_number_of K ad) := by
  have S := sc_number_of
  refine F.ok sc_number_of (fun vs H Q E h => len_number_of h) (fun cdv A outer s H vs Q E hr h => ⟨wp_number_of K ad, ?_, rd_number_of T.toTxC h⟩)
  exact (pss_cons (ps_if (PW.pt (pw_or (pt_cmpR op_eq (pe_callB call_len (by rfl) T.n_len PySem.boot_len (pa_cons (pv 0) pa_nil)) pe_int (nomark _)) (pw_or (pt_cmpR op_gt (pe_callB call_len (by rfl) T.n_len PySem.boot_len (pa_cons (pv 0) pa_nil)) (pe_gv T.g_MOST_DIGITS rfl) (nomark _)) (pw_or1 (pt_cmpR op_eq (pe_ix ix_list (pv 0) pe_int (fun _ _ => rfl)) (pe_gv T.g_DIGIT_0 rfl) (nomark _)))))) (pss_one (ps_ret pe_int)) pss_nil)
      (pss_cons (ps_set (i := 1) S.nd rfl (Or.inl rfl) pe_int)
      (pss_cons (ps_for PassesOwn.never rfl (pi_list (pv 0)) (pg_name (i := 2) S.nd rfl (Or.inl rfl)) (pss_one (ps_set (i := 1) S.nd rfl (Or.inl rfl) (pe_op op_sub (pe_op op_add (pe_op op_mul (pv 1) pe_int) (pv 2)) (pe_gv T.g_DIGIT_0 rfl)))))
      (pss_one (ps_ret (pv 1))))))
abbrev s_name_key : Stmt := top 35
theorem sc_name_key : FnScope N_name_key ["word"] (defScope s_name_key) := ⟨rfl, rfl, rfl, by decide +kernel, rfl, by decide +kernel, by decide +kernel⟩
theorem ok_name_key {f : Addr} {fd : FuncData} (F : Fun K "name_key" "name_key" s_name_key f fd) (T : Txt K mg ad) (O_small_letter_at : OkF P w K mg base 2 "small_letter_at" ["word", "at"] (sp_small_letter_at K ad)) (O_digit_run_end : OkF P w K mg base 1 "digit_run_end" ["word", "start"] (sp_digit_run_end K ad)) (O_number_of : OkF P w K mg base 1 "number_of" ["digits"] (sp_number_of K ad)) : FnOk P w K mg base CX0 3 f fd ["word"] (sp_name_key K ad) := by
  have S := sc_name_key
  refine F.ok sc_name_key (fun vs H Q E h => len_name_key h) (fun cdv A outer s H vs Q E hr h => ⟨wp_name_key K ad, ?_, rd_name_key T.toTxC h⟩)
  exact (pss_cons (ps_if (PW.pt (pw_or (pt_cmpR op_eq (pe_callB call_len (by rfl) T.n_len PySem.boot_len (pa_cons (pv 0) pa_nil)) pe_int (nomark _)) (pw_or1 (pt_not (pt_chain op_le op_le (pe_gv T.g_CAPITAL_A rfl) (pe_ix ix_list (pv 0) pe_int (fun _ _ => rfl)) (pe_gv T.g_CAPITAL_Z rfl)))))) (pss_one (ps_ret pe_non)) pss_nil)
      (pss_cons (ps_set (i := 1) S.nd rfl (Or.inl rfl) (pe_callF O_small_letter_at (hr.mono (by decide)) rfl (pa_cons (pv 0) (pa_cons pe_int pa_nil))))
      (pss_cons (ps_set (i := 2) S.nd rfl (Or.inl rfl) (pe_ifExp (pt_cmpR op_eq (pv 1) pe_int (nomark _)) pe_int pe_int))
      (pss_cons (ps_set (i := 3) S.nd rfl (Or.inl rfl) (pe_callF O_digit_run_end (hr.mono (by decide)) rfl (pa_cons (pv 0) (pa_cons (pv 2) pa_nil))))
      (pss_cons (ps_set (i := 4) S.nd rfl (Or.inl rfl) (pe_callF O_number_of (hr.mono (by decide)) rfl (pa_cons (pe_slice sl_list (pv 0) (po_some (pv 2)) (po_some (pv 3))) pa_nil)))
      (pss_cons (ps_set (i := 5) S.nd rfl (Or.inl rfl) (pe_callF O_small_letter_at (hr.mono (by decide)) rfl (pa_cons (pv 0) (pa_cons (pv 3) pa_nil))))
      (pss_cons (ps_set (i := 6) S.nd rfl (Or.inl rfl) (pe_ifExp (pt_cmpR op_eq (pv 5) pe_int (nomark _)) (pv 3) (pe_op op_add (pv 3) pe_int)))
      (pss_cons (ps_if (PW.pt (pw_or (pt_cmpR op_eq (pv 4) pe_int (nomark _)) (pw_or1 (pt_cmpR op_ne (pv 6) (pe_callB call_len (by rfl) T.n_len PySem.boot_len (pa_cons (pv 0) pa_nil)) (nomark _))))) (pss_one (ps_ret pe_non)) pss_nil)
      (pss_one (ps_ret (pe_tup (pa_cons (pe_ix ix_list (pv 0) pe_int (fun _ _ => rfl)) (pa_cons (pv 1) (pa_cons (pv 4) (pa_cons (pv 5) pa_nil)))))))))))))))
abbrev s_name_fault : Stmt := top 34
theorem sc_name_fault : FnScope N_name_fault ["words", "end", "signs"] (defScope s_name_fault) := ⟨rfl, rfl, rfl, by decide +kernel, rfl, by decide +kernel, by decide +kernel⟩
theorem ok_name_fault {f : Addr} {fd : FuncData} (F : Fun K "name_fault" "name_fault" s_name_fault f fd) (T : Txt K mg ad) (O_name_key : OkF P w K mg base 3 "name_key" ["word"] (sp_name_key K ad)) : FnOk P w K mg base CX0 4 f fd ["words", "end", "signs"] (sp_name_fault K ad) := by
  have S := sc_name_fault
  refine F.ok sc_name_fault (fun vs H Q E h => len_name_fault h) (fun cdv A outer s H vs Q E hr h => ⟨wp_name_fault K ad, ?_, rd_name_fault T.toTxC h⟩)
  exact (pss_cons (ps_if (pt_cmpR op_eq (pe_callB call_len (by rfl) T.n_len PySem.boot_len (pa_cons (pv 0) pa_nil)) pe_int (nomark _)) (pss_one (ps_ret (pe_tup (pa_cons (pe_gv T.g_WRONG_FORM rfl) (pa_cons (pv 1) pa_nil))))) pss_nil)
      (pss_cons (ps_set (i := 3) S.nd rfl (Or.inl rfl) (pe_callF O_name_key (hr.mono (by decide)) rfl (pa_cons (pe_ix ix_tup (pe_ix ix_list (pv 0) pe_int (fun _ _ => rfl)) pe_int (fun _ _ => rfl)) pa_nil)))
      (pss_cons (ps_if (pt_cmpR op_isN (pv 3) pe_non (nomark _)) (pss_one (ps_ret (pe_tup (pa_cons (pe_gv T.g_WRONG_FORM rfl) (pa_cons (pe_ix ix_tup (pe_ix ix_list (pv 0) pe_int (fun _ _ => rfl)) pe_int (fun _ _ => rfl)) pa_nil))))) pss_nil)
      (pss_cons (ps_if (PW.pt (pw_and (pt_cmpR op_gt (pe_callB call_len (by rfl) T.n_len PySem.boot_len (pa_cons (pv 2) pa_nil)) pe_int (nomark _)) (pw_and1 (pt_cmpR (op_leT hr.units0) (pv 3) (pe_callF O_name_key (hr.mono (by decide)) rfl (pa_cons (pe_fld (pe_ix ix_list (pv 2) (pe_un un_neg pe_int) (fun _ _ => rfl)) rfl) pa_nil)) (nomark _))))) (pss_one (ps_ret (pe_tup (pa_cons (pe_gv T.g_WRONG_ORDER rfl) (pa_cons (pe_ix ix_tup (pe_ix ix_list (pv 0) pe_int (fun _ _ => rfl)) pe_int (fun _ _ => rfl)) pa_nil))))) pss_nil)
      (pss_one (ps_ret pe_non))))))
abbrev s_is_sound : Stmt := top 41
theorem sc_is_sound : FnScope N_is_sound ["word"] (defScope s_is_sound) := ⟨rfl, rfl, rfl, by decide +kernel, rfl, by decide +kernel, by decide +kernel⟩
theorem ok_is_sound {f : Addr} {fd : FuncData} (F : Fun K "is_sound" "is_sound" s_is_sound f fd) (T : Txt K mg ad) (O_is_small_letter : OkF P w K mg base 1 "is_small_letter" ["value"] (sp_is_small_letter K ad)) : FnOk P w K mg base CX0 2 f fd ["word"] (sp_is_sound K ad) := by
  have S := sc_is_sound
  refine F.ok sc_is_sound (fun vs H Q E h => len_is_sound h) (fun cdv A outer s H vs Q E hr h => ⟨wp_is_sound K ad, ?_, rd_is_sound T.toTxC h⟩)
  exact (pss_one (ps_ret (pe_and (pe_chain op_le op_le pe_int (pe_callB call_len (by rfl) T.n_len PySem.boot_len (pa_cons (pv 0) pa_nil)) (pe_gv T.g_MOST_LETTERS rfl)) (pe_one (pe_callB (cr_all rfl) (by rfl) T.n_all PyProof.Rows.boot_all (pa_cons (pe_lc rfl S.nd (pi_list (pv 0)) (own := [("value", 1)]) (blkOk_by (show blkC N_is_sound (defScope s_is_sound) _ _ = true from by decide +kernel)) (fun _ _ _ _ _ => (pg_name (i := 1) S.nd rfl (Or.inl rfl))) (fun _ _ _ _ _ => pts_nil) (fun _ _ _ _ _ => (pe_callF O_is_small_letter (hr.mono (by decide)) rfl (pa_cons (pv 1) pa_nil)))) pa_nil))))))
abbrev s_sounds_fault : Stmt := top 40
theorem sc_sounds_fault : FnScope N_sounds_fault ["words"] (defScope s_sounds_fault) := ⟨rfl, rfl, rfl, by decide +kernel, rfl, by decide +kernel, by decide +kernel⟩
theorem ok_sounds_fault {f : Addr} {fd : FuncData} (F : Fun K "sounds_fault" "sounds_fault" s_sounds_fault f fd) (T : Txt K mg ad) (O_is_sound : OkF P w K mg base 2 "is_sound" ["word"] (sp_is_sound K ad)) : FnOk P w K mg base CX0 3 f fd ["words"] (sp_sounds_fault K ad) := by
  have S := sc_sounds_fault
  refine F.ok sc_sounds_fault (fun vs H Q E h => len_sounds_fault h) (fun cdv A outer s H vs Q E hr h => ⟨wp_sounds_fault K ad, ?_, rd_sounds_fault T.toTxC h⟩)
  exact (pss_cons (ps_set (i := 1) S.nd rfl (Or.inl rfl) (pe_lst pa_nil))
      (pss_cons (ps_for PassesOwn.never rfl (pi_list (pv 0)) (pg_tup rfl (pgs_cons (pg_name (i := 2) S.nd rfl (Or.inl rfl)) (pgs_cons (pg_name (i := 3) S.nd rfl (Or.inl rfl)) pgs_nil))) (pss_cons (ps_if (pt_not (pt_val (pe_callF O_is_sound (hr.mono (by decide)) rfl (pa_cons (pv 3) pa_nil)))) (pss_one (ps_ret (pe_tup (pa_cons (pe_gv T.g_WRONG_FORM rfl) (pa_cons (pv 2) pa_nil))))) pss_nil)
      (pss_cons (ps_if (pt_cmpR (op_inD hr.units) (pv 3) (pv 1) (by rfl)) (pss_one (ps_ret (pe_tup (pa_cons (pe_gv T.g_WRONG_ORDER rfl) (pa_cons (pv 2) pa_nil))))) pss_nil)
      (pss_cons (ps_if (pt_cmpR op_eq (pe_callB call_len (by rfl) T.n_len PySem.boot_len (pa_cons (pv 1) pa_nil)) (pe_gv T.g_MOST_SOUNDS rfl) (nomark _)) (pss_one (ps_ret (pe_tup (pa_cons (pe_gv T.g_TOO_MANY rfl) (pa_cons (pv 2) pa_nil))))) pss_nil)
      (pss_one (ps_expr (pe_bm PySem.F.plainAttrs_list PySem.F.slot_list_append PySem.F.type_list_append mt_append (pv 1) (pa_cons (pv 3) pa_nil))))))))
      (pss_one (ps_ret pe_non))))
abbrev s_sign_line_fault : Stmt := top 30
theorem sc_sign_line_fault : FnScope N_sign_line_fault ["words", "start", "end", "signs"] (defScope s_sign_line_fault) := ⟨rfl, rfl, rfl, by decide +kernel, rfl, by decide +kernel, by decide +kernel⟩
theorem ok_sign_line_fault {f : Addr} {fd : FuncData} (F : Fun K "sign_line_fault" "sign_line_fault" s_sign_line_fault f fd) (T : Txt K mg ad) (O_whole_sign_fault : OkF P w K mg base 2 "whole_sign_fault" ["sign", "place"] (sp_whole_sign_fault K ad)) (O_name_fault : OkF P w K mg base 4 "name_fault" ["words", "end", "signs"] (sp_name_fault K ad)) (O_sounds_fault : OkF P w K mg base 3 "sounds_fault" ["words"] (sp_sounds_fault K ad)) : FnOk P w K mg base CX0 5 f fd ["words", "start", "end", "signs"] (sp_sign_line_fault K ad) := by
  have S := sc_sign_line_fault
  refine F.ok sc_sign_line_fault (fun vs H Q E h => len_sign_line_fault h) (fun cdv A outer s H vs Q E hr h => ⟨wp_sign_line_fault K ad, ?_, rd_sign_line_fault T.toTxC h⟩)
  exact (pss_cons (ps_set (i := 4) S.nd rfl (Or.inl rfl) pe_non)
      (pss_cons (ps_if (pt_cmpR op_gt (pe_callB call_len (by rfl) T.n_len PySem.boot_len (pa_cons (pv 3) pa_nil)) pe_int (nomark _)) (pss_one (ps_set (i := 4) S.nd rfl (Or.inl rfl) (pe_callF O_whole_sign_fault (hr.mono (by decide)) rfl (pa_cons (pe_ix ix_list (pv 3) (pe_un un_neg pe_int) (fun _ _ => rfl)) (pa_cons (pv 1) pa_nil))))) pss_nil)
      (pss_cons (ps_if (pt_cmpR op_isN (pv 4) pe_non (nomark _)) (pss_one (ps_set (i := 4) S.nd rfl (Or.inl rfl) (pe_callF O_name_fault (hr.mono (by decide)) rfl (pa_cons (pv 0) (pa_cons (pv 2) (pa_cons (pv 3) pa_nil)))))) pss_nil)
      (pss_cons (ps_if (pt_cmpR op_isN (pv 4) pe_non (nomark _)) (pss_one (ps_set (i := 4) S.nd rfl (Or.inl rfl) (pe_callF O_sounds_fault (hr.mono (by decide)) rfl (pa_cons (pe_slice sl_list (pv 0) (po_some pe_int) po_none) pa_nil)))) pss_nil)
      (pss_cons (ps_if (PW.pt (pw_and (pt_cmpR op_isN (pv 4) pe_non (nomark _)) (pw_and1 (pt_cmpR op_eq (pe_callB call_len (by rfl) T.n_len PySem.boot_len (pa_cons (pv 3) pa_nil)) (pe_gv T.g_MOST_SIGNS rfl) (nomark _))))) (pss_one (ps_set (i := 4) S.nd rfl (Or.inl rfl) (pe_tup (pa_cons (pe_gv T.g_TOO_MANY rfl) (pa_cons (pv 1) pa_nil))))) pss_nil)
      (pss_one (ps_ret (pv 4))))))))
abbrev s_take_sign_line : Stmt := top 29
theorem sc_take_sign_line : FnScope N_take_sign_line ["words", "start", "end", "signs"] (defScope s_take_sign_line) := ⟨rfl, rfl, rfl, by decide +kernel, rfl, by decide +kernel, by decide +kernel⟩
theorem ok_take_sign_line {f : Addr} {fd : FuncData} (F : Fun K "take_sign_line" "take_sign_line" s_take_sign_line f fd) (T : Txt K mg ad) (O_sign_line_fault : OkF P w K mg base 5 "sign_line_fault" ["words", "start", "end", "signs"] (sp_sign_line_fault K ad)) (O_Sign : OkC P w K mg base 1 "Sign" ad.c_Sign ["self", "place", "name", "sounds"] (sp_Sign K ad)) : FnOk P w K mg base CX0 6 f fd ["words", "start", "end", "signs"] (sp_take_sign_line K ad) := by
  have S := sc_take_sign_line
  refine F.ok sc_take_sign_line (fun vs H Q E h => len_take_sign_line h) (fun cdv A outer s H vs Q E hr h => ⟨wp_take_sign_line K ad, ?_, rd_take_sign_line T.toTxC h⟩)
  exact (pss_cons (ps_set (i := 4) S.nd rfl (Or.inl rfl) (pe_callF O_sign_line_fault (hr.mono (by decide)) rfl (pa_cons (pv 0) (pa_cons (pv 1) (pa_cons (pv 2) (pa_cons (pv 3) pa_nil))))))
      (pss_cons (ps_if (pt_cmpR op_isN (pv 4) pe_non (nomark _)) (pss_cons (ps_setLc (i := 5) rfl S.nd rfl rfl rfl (pi_list (pe_slice sl_list (pv 0) (po_some pe_int) po_none)) (own := [("word", 6)]) (blkOk_by (show blkC N_take_sign_line (defScope s_take_sign_line) _ _ = true from by decide +kernel)) (fun _ _ _ _ _ => (pg_name (i := 6) S.nd rfl (Or.inl rfl))) (fun _ _ _ _ _ => pts_nil) (fun _ _ _ _ _ => (pe_ix ix_tup (pv 6) pe_int (fun _ _ => rfl))))
      (pss_one (ps_expr (pe_bm PySem.F.plainAttrs_list PySem.F.slot_list_append PySem.F.type_list_append mt_append (pv 3) (pa_cons (pe_makeF O_Sign (hr.mono (by decide)) rfl (pa_cons (pv 1) (pa_cons (pe_ix ix_tup (pe_ix ix_list (pv 0) pe_int (fun _ _ => rfl)) pe_int (fun _ _ => rfl)) (pa_cons (pv 5) pa_nil)))) pa_nil))))) pss_nil)
      (pss_one (ps_ret (pv 4)))))
abbrev s_row_fault : Stmt := top 43
theorem sc_row_fault : FnScope N_row_fault ["row", "start", "rows"] (defScope s_row_fault) := ⟨rfl, rfl, rfl, by decide +kernel, rfl, by decide +kernel, by decide +kernel⟩
theorem ok_row_fault {f : Addr} {fd : FuncData} (F : Fun K "row_fault" "row_fault" s_row_fault f fd) (T : Txt K mg ad)  : FnOk P w K mg base CX0 1 f fd ["row", "start", "rows"] (sp_row_fault K ad) := by
  have S := sc_row_fault
  refine F.ok sc_row_fault (fun vs H Q E h => len_row_fault h) (fun cdv A outer s H vs Q E hr h => ⟨wp_row_fault K ad, ?_, rd_row_fault T.toTxC h⟩)
  exact (pss_cons (ps_for PassesOwn.never rfl (pi_enum rfl T.n_enumerate (pa_cons (pv 0) pa_nil)) (pg_tup rfl (pgs_cons (pg_name (i := 3) S.nd rfl (Or.inl rfl)) (pgs_cons (pg_name (i := 4) S.nd rfl (Or.inl rfl)) pgs_nil))) (pss_one (ps_if (PW.pt (pw_and (pt_cmpR op_ne (pv 4) (pe_gv T.g_INK rfl) (nomark _)) (pw_and1 (pt_cmpR op_ne (pv 4) (pe_gv T.g_NO_INK rfl) (nomark _))))) (pss_one (ps_ret (pe_tup (pa_cons (pe_gv T.g_WRONG_FORM rfl) (pa_cons (pe_op op_add (pv 1) (pv 3)) pa_nil))))) pss_nil)))
      (pss_cons (ps_if (PW.pt (pw_or (pt_cmpR op_gt (pe_callB call_len (by rfl) T.n_len PySem.boot_len (pa_cons (pv 0) pa_nil)) (pe_gv T.g_MOST_CELLS rfl) (nomark _)) (pw_or1 (PW.pt (pw_and (pt_cmpR op_gt (pe_callB call_len (by rfl) T.n_len PySem.boot_len (pa_cons (pv 2) pa_nil)) pe_int (nomark _)) (pw_and1 (pt_cmpR op_ne (pe_callB call_len (by rfl) T.n_len PySem.boot_len (pa_cons (pv 0) pa_nil)) (pe_callB call_len (by rfl) T.n_len PySem.boot_len (pa_cons (pe_ix ix_list (pv 2) pe_int (fun _ _ => rfl)) pa_nil)) (nomark _)))))))) (pss_one (ps_ret (pe_tup (pa_cons (pe_gv T.g_WRONG_WIDTH rfl) (pa_cons (pv 1) pa_nil))))) pss_nil)
      (pss_cons (ps_if (pt_cmpR op_eq (pe_callB call_len (by rfl) T.n_len PySem.boot_len (pa_cons (pv 2) pa_nil)) (pe_gv T.g_MOST_CELLS rfl) (nomark _)) (pss_one (ps_ret (pe_tup (pa_cons (pe_gv T.g_TOO_MANY rfl) (pa_cons (pv 1) pa_nil))))) pss_nil)
      (pss_one (ps_ret pe_non)))))
abbrev s_take_row : Stmt := top 42
theorem sc_take_row : FnScope N_take_row ["row", "start", "signs"] (defScope s_take_row) := ⟨rfl, rfl, rfl, by decide +kernel, rfl, by decide +kernel, by decide +kernel⟩
theorem ok_take_row {f : Addr} {fd : FuncData} (F : Fun K "take_row" "take_row" s_take_row f fd) (T : Txt K mg ad) (O_row_fault : OkF P w K mg base 1 "row_fault" ["row", "start", "rows"] (sp_row_fault K ad)) : FnOk P w K mg base CX0 2 f fd ["row", "start", "signs"] (sp_take_row K ad) := by
  have S := sc_take_row
  refine F.ok sc_take_row (fun vs H Q E h => len_take_row h) (fun cdv A outer s H vs Q E hr h => ⟨wp_take_row K ad, ?_, rd_take_row T.toTxC h⟩)
  exact (pss_cons (ps_if (PW.pt (pw_or (pt_cmpR op_eq (pe_callB call_len (by rfl) T.n_len PySem.boot_len (pa_cons (pv 2) pa_nil)) pe_int (nomark _)) (pw_or1 (pt_cmpR op_eq (pe_callB call_len (by rfl) T.n_len PySem.boot_len (pa_cons (pv 0) pa_nil)) pe_int (nomark _))))) (pss_one (ps_ret (pe_tup (pa_cons (pe_gv T.g_WRONG_FORM rfl) (pa_cons (pv 1) pa_nil))))) pss_nil)
      (pss_cons (ps_set (i := 3) S.nd rfl (Or.inl rfl) (pe_callF O_row_fault (hr.mono (by decide)) rfl (pa_cons (pv 0) (pa_cons (pv 1) (pa_cons (pe_fld (pe_ix ix_list (pv 2) (pe_un un_neg pe_int) (fun _ _ => rfl)) rfl) pa_nil)))))
      (pss_cons (ps_if (pt_cmpR op_isN (pv 3) pe_non (nomark _)) (pss_one (ps_expr (pe_bm PySem.F.plainAttrs_list PySem.F.slot_list_append PySem.F.type_list_append mt_append (pe_fld (pe_ix ix_list (pv 2) (pe_un un_neg pe_int) (fun _ _ => rfl)) rfl) (pa_cons (pv 0) pa_nil)))) pss_nil)
      (pss_one (ps_ret (pv 3))))))
abbrev s_take_line : Stmt := top 27
theorem sc_take_line : FnScope N_take_line ["t", "start", "end", "signs"] (defScope s_take_line) := ⟨rfl, rfl, rfl, by decide +kernel, rfl, by decide +kernel, by decide +kernel⟩
theorem ok_take_line {f : Addr} {fd : FuncData} (F : Fun K "take_line" "take_line" s_take_line f fd) (T : Txt K mg ad) (O_split_words : OkF P w K mg base 1 "split_words" ["t", "start", "end"] (sp_split_words K ad)) (O_take_sign_line : OkF P w K mg base 6 "take_sign_line" ["words", "start", "end", "signs"] (sp_take_sign_line K ad)) (O_take_row : OkF P w K mg base 2 "take_row" ["row", "start", "signs"] (sp_take_row K ad)) : FnOk P w K mg base CX0 7 f fd ["t", "start", "end", "signs"] (sp_take_line K ad) := by
  have S := sc_take_line
  refine F.ok sc_take_line (fun vs H Q E h => len_take_line h) (fun cdv A outer s H vs Q E hr h => ⟨wp_take_line K ad, ?_, rd_take_line T.toTxC h⟩)
  exact (pss_cons (ps_set (i := 4) S.nd rfl (Or.inl rfl) (pe_callF O_split_words (hr.mono (by decide)) rfl (pa_cons (pv 0) (pa_cons (pv 1) (pa_cons (pv 2) pa_nil)))))
      (pss_cons (ps_if (pt_cmpR (op_eqD hr.units) (pe_callTy call_tuple_of (by rfl) T.n_tuple PyProof.Rows.boot_tuple (pa_cons (pe_ix ix_tup (pe_ix ix_list (pv 4) pe_int (fun _ _ => rfl)) pe_int (fun _ _ => rfl)) pa_nil)) (pe_gv T.g_SIGN_WORD rfl) (nomark _)) (pss_one (ps_ret (pe_callF O_take_sign_line (hr.mono (by decide)) rfl (pa_cons (pv 4) (pa_cons (pv 1) (pa_cons (pv 2) (pa_cons (pv 3) pa_nil))))))) pss_nil)
      (pss_one (ps_ret (pe_callF O_take_row (hr.mono (by decide)) rfl (pa_cons (pe_slice sl_list (pv 0) (po_some (pv 1)) (po_some (pv 2))) (pa_cons (pv 1) (pa_cons (pv 3) pa_nil))))))))
abbrev s_text_end_fault : Stmt := top 31
theorem sc_text_end_fault : FnScope N_text_end_fault ["signs", "end"] (defScope s_text_end_fault) := ⟨rfl, rfl, rfl, by decide +kernel, rfl, by decide +kernel, by decide +kernel⟩
theorem ok_text_end_fault {f : Addr} {fd : FuncData} (F : Fun K "text_end_fault" "text_end_fault" s_text_end_fault f fd) (T : Txt K mg ad) (O_whole_sign_fault : OkF P w K mg base 2 "whole_sign_fault" ["sign", "place"] (sp_whole_sign_fault K ad)) : FnOk P w K mg base CX0 3 f fd ["signs", "end"] (sp_text_end_fault K ad) := by
  have S := sc_text_end_fault
  refine F.ok sc_text_end_fault (fun vs H Q E h => len_text_end_fault h) (fun cdv A outer s H vs Q E hr h => ⟨wp_text_end_fault K ad, ?_, rd_text_end_fault T.toTxC h⟩)
  exact (pss_cons (ps_if (pt_cmpR op_eq (pe_callB call_len (by rfl) T.n_len PySem.boot_len (pa_cons (pv 0) pa_nil)) pe_int (nomark _)) (pss_one (ps_ret (pe_tup (pa_cons (pe_gv T.g_WRONG_FORM rfl) (pa_cons (pv 1) pa_nil))))) pss_nil)
      (pss_one (ps_ret (pe_callF O_whole_sign_fault (hr.mono (by decide)) rfl (pa_cons (pe_ix ix_list (pv 0) (pe_un un_neg pe_int) (fun _ _ => rfl)) (pa_cons (pv 1) pa_nil))))))
abbrev s_read_list : Stmt := top 25
theorem sc_read_list : FnScope N_read_list ["t"] (defScope s_read_list) := ⟨rfl, rfl, rfl, by decide +kernel, rfl, by decide +kernel, by decide +kernel⟩
theorem ok_read_list {f : Addr} {fd : FuncData} (F : Fun K "read_list" "read_list" s_read_list f fd) (T : Txt K mg ad) (O_line_end : OkF P w K mg base 1 "line_end" ["t", "start"] (sp_line_end K ad)) (O_take_line : OkF P w K mg base 7 "take_line" ["t", "start", "end", "signs"] (sp_take_line K ad)) (O_text_end_fault : OkF P w K mg base 3 "text_end_fault" ["signs", "end"] (sp_text_end_fault K ad)) (O_Reading : OkC P w K mg base 1 "Reading" ad.c_Reading ["self", "too_long"] (sp_Reading K ad)) : FnOk P w K mg base CX0 8 f fd ["t"] (sp_read_list K ad) := by
  have S := sc_read_list
  refine F.ok sc_read_list (fun vs H Q E h => len_read_list h) (fun cdv A outer s H vs Q E hr h => ⟨wp_read_list K ad, ?_, rd_read_list T.toTxC h⟩)
  exact (pss_cons (ps_set (i := 1) S.nd rfl (Or.inl rfl) (pe_makeF O_Reading (hr.mono (by decide)) rfl (pa_cons (pe_cmpR op_gt (pe_callB call_len (by rfl) T.n_len PySem.boot_len (pa_cons (pv 0) pa_nil)) (pe_gv T.g_MOST_BYTES rfl) (nomark _)) pa_nil)))
      (pss_cons (ps_if (pt_val (pe_fld (pv 1) rfl)) (pss_one (ps_ret (pv 1))) pss_nil)
      (pss_cons (ps_set (i := 2) S.nd rfl (Or.inl rfl) pe_int)
      (pss_cons (ps_while PassesOwn.never (pt_cmpR op_lt (pv 2) (pe_callB call_len (by rfl) T.n_len PySem.boot_len (pa_cons (pv 0) pa_nil)) (nomark _)) (pss_cons (ps_set (i := 3) S.nd rfl (Or.inl rfl) (pe_callF O_line_end (hr.mono (by decide)) rfl (pa_cons (pv 0) (pa_cons (pv 2) pa_nil))))
      (pss_cons (ps_fld (pv 1) (pe_callF O_take_line (hr.mono (by decide)) rfl (pa_cons (pv 0) (pa_cons (pv 2) (pa_cons (pv 3) (pa_cons (pe_fld (pv 1) rfl) pa_nil))))) rfl)
      (pss_cons (ps_if (PW.pt (pw_and (pt_cmpR op_isN (pe_fld (pv 1) rfl) pe_non (nomark _)) (pw_and1 (pt_cmpR op_eq (pv 3) (pe_callB call_len (by rfl) T.n_len PySem.boot_len (pa_cons (pv 0) pa_nil)) (nomark _))))) (pss_one (ps_fld (pv 1) (pe_tup (pa_cons (pe_gv T.g_WRONG_FORM rfl) (pa_cons (pv 3) pa_nil))) rfl)) pss_nil)
      (pss_cons (ps_if (pt_cmpR op_notN (pe_fld (pv 1) rfl) pe_non (nomark _)) (pss_one (ps_ret (pv 1))) pss_nil)
      (pss_one (ps_set (i := 2) S.nd rfl (Or.inl rfl) (pe_op op_add (pv 3) pe_int))))))))
      (pss_cons (ps_fld (pv 1) (pe_callF O_text_end_fault (hr.mono (by decide)) rfl (pa_cons (pe_fld (pv 1) rfl) (pa_cons (pe_callB call_len (by rfl) T.n_len PySem.boot_len (pa_cons (pv 0) pa_nil)) pa_nil))) rfl)
      (pss_one (ps_ret (pv 1))))))))
abbrev s_text_refusal : Stmt := top 51
theorem sc_text_refusal : FnScope N_text_refusal ["reading"] (defScope s_text_refusal) := ⟨rfl, rfl, rfl, by decide +kernel, rfl, by decide +kernel, by decide +kernel⟩
theorem ok_text_refusal {f : Addr} {fd : FuncData} (F : Fun K "text_refusal" "text_refusal" s_text_refusal f fd) (T : Txt K mg ad)  : FnOk P w K mg base CX0 1 f fd ["reading"] (sp_text_refusal K ad) := by
  have S := sc_text_refusal
  refine F.ok sc_text_refusal (fun vs H Q E h => len_text_refusal h) (fun cdv A outer s H vs Q E hr h => ⟨wp_text_refusal K ad, ?_, rd_text_refusal T.toTxC h⟩)
  exact (pss_cons (ps_if (pt_val (pe_fld (pv 0) rfl)) (pss_one (ps_ret (pe_gv T.g_TOO_LONG rfl))) pss_nil)
      (pss_cons (ps_if (pt_cmpR op_notN (pe_fld (pv 0) rfl) pe_non (nomark _)) (pss_one (ps_ret (pe_gv T.g_NO_LIST rfl))) pss_nil)
      (pss_one (ps_ret (pe_gv T.g_NOT_REFUSED rfl)))))
abbrev s_sign_refusal : Stmt := top 52
theorem sc_sign_refusal : FnScope N_sign_refusal ["reading", "k"] (defScope s_sign_refusal) := ⟨rfl, rfl, rfl, by decide +kernel, rfl, by decide +kernel, by decide +kernel⟩
theorem ok_sign_refusal {f : Addr} {fd : FuncData} (F : Fun K "sign_refusal" "sign_refusal" s_sign_refusal f fd) (T : Txt K mg ad) (O_text_refusal : OkF P w K mg base 1 "text_refusal" ["reading"] (sp_text_refusal K ad)) : FnOk P w K mg base CX0 2 f fd ["reading", "k"] (sp_sign_refusal K ad) := by
  have S := sc_sign_refusal
  refine F.ok sc_sign_refusal (fun vs H Q E h => len_sign_refusal h) (fun cdv A outer s H vs Q E hr h => ⟨wp_sign_refusal K ad, ?_, rd_sign_refusal T.toTxC h⟩)
  exact (pss_cons (ps_set (i := 2) S.nd rfl (Or.inl rfl) (pe_callF O_text_refusal (hr.mono (by decide)) rfl (pa_cons (pv 0) pa_nil)))
      (pss_cons (ps_if (PW.pt (pw_and (pt_cmpR op_eq (pv 2) (pe_gv T.g_NOT_REFUSED rfl) (nomark _)) (pw_and1 (pt_cmpR op_ge (pv 1) (pe_callB call_len (by rfl) T.n_len PySem.boot_len (pa_cons (pe_fld (pv 0) rfl) pa_nil)) (nomark _))))) (pss_one (ps_ret (pe_gv T.g_NO_SUCH rfl))) pss_nil)
      (pss_one (ps_ret (pv 2)))))
abbrev s_counted : Stmt := top 50
theorem sc_counted : FnScope N_counted ["values"] (defScope s_counted) := ⟨rfl, rfl, rfl, by decide +kernel, rfl, by decide +kernel, by decide +kernel⟩
theorem ok_counted {f : Addr} {fd : FuncData} (F : Fun K "counted" "counted" s_counted f fd) (T : Txt K mg ad)  : FnOk P w K mg base CX0 1 f fd ["values"] (sp_counted K ad) := by
  have S := sc_counted
  refine F.ok sc_counted (fun vs H Q E h => len_counted h) (fun cdv A outer s H vs Q E hr h => ⟨wp_counted K ad, ?_, rd_counted T.toTxC h⟩)
  exact (pss_one (ps_ret (pe_op op_cat (pe_lst (pa_cons (pe_callB call_len (by rfl) T.n_len PySem.boot_len (pa_cons (pv 0) pa_nil)) pa_nil)) (pv 0))))
abbrev s_name : Stmt := top 49
theorem sc_name : FnScope N_name ["k", "t"] (defScope s_name) := ⟨rfl, rfl, rfl, by decide +kernel, rfl, by decide +kernel, by decide +kernel⟩
theorem ok_name {f : Addr} {fd : FuncData} (F : Fun K "name" "name" s_name f fd) (T : Txt K mg ad) (O_read_list : OkF P w K mg base 8 "read_list" ["t"] (sp_read_list K ad)) (O_sign_refusal : OkF P w K mg base 2 "sign_refusal" ["reading", "k"] (sp_sign_refusal K ad)) (O_counted : OkF P w K mg base 1 "counted" ["values"] (sp_counted K ad)) : FnOk P w K mg base CX0 9 f fd ["k", "t"] (sp_name K ad) := by
  have S := sc_name
  refine F.ok sc_name (fun vs H Q E h => len_name h) (fun cdv A outer s H vs Q E hr h => ⟨wp_name K ad, ?_, rd_name T.toTxC h⟩)
  exact (pss_cons (ps_set (i := 2) S.nd rfl (Or.inl rfl) (pe_callF O_read_list (hr.mono (by decide)) rfl (pa_cons (pv 1) pa_nil)))
      (pss_cons (ps_set (i := 3) S.nd rfl (Or.inl rfl) (pe_callF O_sign_refusal (hr.mono (by decide)) rfl (pa_cons (pv 2) (pa_cons (pv 0) pa_nil))))
      (pss_cons (ps_if (pt_cmpR op_ne (pv 3) (pe_gv T.g_NOT_REFUSED rfl) (nomark _)) (pss_one (ps_ret (pe_lst (pa_cons (pv 3) pa_nil)))) pss_nil)
      (pss_one (ps_ret (pe_callF O_counted (hr.mono (by decide)) rfl (pa_cons (pe_fld (pe_ix ix_list (pe_fld (pv 2) rfl) (pv 0) (fun _ _ => rfl)) rfl) pa_nil)))))))
end
end Pg

end
section
set_option Elab.async false
set_option linter.all false
set_option maxRecDepth 100000
set_option maxHeartbeats 4000000
namespace Pg
open PySem PySem.Spec PyProof.Rows L2
section
variable {P : Program} {w : World} {K : PySem.W.Frag} {mg : Str → Option Value} {base : Heap} {ad : Ad}
structure Its (K : PySem.W.Frag) (mg : Str → Option Value) (ad : Ad) : Prop where
  T : Txt K mg ad
  f_Sign : CIn K mg ad.c_Sign "Sign" "Sign.__init__" s_Sign ["self", "place", "name", "sounds"]
  f_Reading : CIn K mg ad.c_Reading "Reading" "Reading.__init__" s_Reading ["self", "too_long"]
  f_line_end : FIn K mg "line_end" "line_end" s_line_end ["t", "start"]
  f_split_words : FIn K mg "split_words" "split_words" s_split_words ["t", "start", "end"]
  f_has_bare_rim : FIn K mg "has_bare_rim" "has_bare_rim" s_has_bare_rim ["rows"]
  f_whole_sign_fault : FIn K mg "whole_sign_fault" "whole_sign_fault" s_whole_sign_fault ["sign", "place"]
  f_is_small_letter : FIn K mg "is_small_letter" "is_small_letter" s_is_small_letter ["value"]
  f_small_letter_at : FIn K mg "small_letter_at" "small_letter_at" s_small_letter_at ["word", "at"]
  f_digit_run_end : FIn K mg "digit_run_end" "digit_run_end" s_digit_run_end ["word", "start"]
  f_number_of : FIn K mg "number_of" "number_of" s_number_of ["digits"]
  f_name_key : FIn K mg "name_key" "name_key" s_name_key ["word"]
  f_name_fault : FIn K mg "name_fault" "name_fault" s_name_fault ["words", "end", "signs"]
  f_is_sound : FIn K mg "is_sound" "is_sound" s_is_sound ["word"]
  f_sounds_fault : FIn K mg "sounds_fault" "sounds_fault" s_sounds_fault ["words"]
  f_sign_line_fault : FIn K mg "sign_line_fault" "sign_line_fault" s_sign_line_fault ["words", "start", "end", "signs"]
  f_take_sign_line : FIn K mg "take_sign_line" "take_sign_line" s_take_sign_line ["words", "start", "end", "signs"]
  f_row_fault : FIn K mg "row_fault" "row_fault" s_row_fault ["row", "start", "rows"]
  f_take_row : FIn K mg "take_row" "take_row" s_take_row ["row", "start", "signs"]
  f_take_line : FIn K mg "take_line" "take_line" s_take_line ["t", "start", "end", "signs"]
  f_text_end_fault : FIn K mg "text_end_fault" "text_end_fault" s_text_end_fault ["signs", "end"]
  f_read_list : FIn K mg "read_list" "read_list" s_read_list ["t"]
  f_text_refusal : FIn K mg "text_refusal" "text_refusal" s_text_refusal ["reading"]
  f_sign_refusal : FIn K mg "sign_refusal" "sign_refusal" s_sign_refusal ["reading", "k"]
  f_counted : FIn K mg "counted" "counted" s_counted ["values"]
  f_name : FIn K mg "name" "name" s_name ["k", "t"]
theorem all_ok (I : Its K mg ad) {f : Addr} {fd : FuncData} (F : Fun K "name" "name" s_name f fd) : FnOk P w K mg base CX0 9 f fd ["k", "t"] (sp_name K ad) := by
  have O_Sign : OkC P w K mg base 1 "Sign" ad.c_Sign ["self", "place", "name", "sounds"] (sp_Sign K ad) := I.f_Sign.ok fun f fd F => ok_Sign F I.T 
  have O_Reading : OkC P w K mg base 1 "Reading" ad.c_Reading ["self", "too_long"] (sp_Reading K ad) := I.f_Reading.ok fun f fd F => ok_Reading F I.T 
  have O_line_end : OkF P w K mg base 1 "line_end" ["t", "start"] (sp_line_end K ad) := I.f_line_end.ok fun f fd F => ok_line_end F I.T 
  have O_split_words : OkF P w K mg base 1 "split_words" ["t", "start", "end"] (sp_split_words K ad) := I.f_split_words.ok fun f fd F => ok_split_words F I.T 
  have O_has_bare_rim : OkF P w K mg base 1 "has_bare_rim" ["rows"] (sp_has_bare_rim K ad) := I.f_has_bare_rim.ok fun f fd F => ok_has_bare_rim F I.T 
  have O_whole_sign_fault : OkF P w K mg base 2 "whole_sign_fault" ["sign", "place"] (sp_whole_sign_fault K ad) := I.f_whole_sign_fault.ok fun f fd F => ok_whole_sign_fault F I.T O_has_bare_rim
  have O_is_small_letter : OkF P w K mg base 1 "is_small_letter" ["value"] (sp_is_small_letter K ad) := I.f_is_small_letter.ok fun f fd F => ok_is_small_letter F I.T 
  have O_small_letter_at : OkF P w K mg base 2 "small_letter_at" ["word", "at"] (sp_small_letter_at K ad) := I.f_small_letter_at.ok fun f fd F => ok_small_letter_at F I.T O_is_small_letter
  have O_digit_run_end : OkF P w K mg base 1 "digit_run_end" ["word", "start"] (sp_digit_run_end K ad) := I.f_digit_run_end.ok fun f fd F => ok_digit_run_end F I.T 
  have O_number_of : OkF P w K mg base 1 "number_of" ["digits"] (sp_number_of K ad) := I.f_number_of.ok fun f fd F => ok_number_of F I.T 
  have O_name_key : OkF P w K mg base 3 "name_key" ["word"] (sp_name_key K ad) := I.f_name_key.ok fun f fd F => ok_name_key F I.T O_small_letter_at O_digit_run_end O_number_of
  have O_name_fault : OkF P w K mg base 4 "name_fault" ["words", "end", "signs"] (sp_name_fault K ad) := I.f_name_fault.ok fun f fd F => ok_name_fault F I.T O_name_key
  have O_is_sound : OkF P w K mg base 2 "is_sound" ["word"] (sp_is_sound K ad) := I.f_is_sound.ok fun f fd F => ok_is_sound F I.T O_is_small_letter
  have O_sounds_fault : OkF P w K mg base 3 "sounds_fault" ["words"] (sp_sounds_fault K ad) := I.f_sounds_fault.ok fun f fd F => ok_sounds_fault F I.T O_is_sound
  have O_sign_line_fault : OkF P w K mg base 5 "sign_line_fault" ["words", "start", "end", "signs"] (sp_sign_line_fault K ad) := I.f_sign_line_fault.ok fun f fd F => ok_sign_line_fault F I.T O_whole_sign_fault O_name_fault O_sounds_fault
  have O_take_sign_line : OkF P w K mg base 6 "take_sign_line" ["words", "start", "end", "signs"] (sp_take_sign_line K ad) := I.f_take_sign_line.ok fun f fd F => ok_take_sign_line F I.T O_sign_line_fault O_Sign
  have O_row_fault : OkF P w K mg base 1 "row_fault" ["row", "start", "rows"] (sp_row_fault K ad) := I.f_row_fault.ok fun f fd F => ok_row_fault F I.T 
  have O_take_row : OkF P w K mg base 2 "take_row" ["row", "start", "signs"] (sp_take_row K ad) := I.f_take_row.ok fun f fd F => ok_take_row F I.T O_row_fault
  have O_take_line : OkF P w K mg base 7 "take_line" ["t", "start", "end", "signs"] (sp_take_line K ad) := I.f_take_line.ok fun f fd F => ok_take_line F I.T O_split_words O_take_sign_line O_take_row
  have O_text_end_fault : OkF P w K mg base 3 "text_end_fault" ["signs", "end"] (sp_text_end_fault K ad) := I.f_text_end_fault.ok fun f fd F => ok_text_end_fault F I.T O_whole_sign_fault
  have O_read_list : OkF P w K mg base 8 "read_list" ["t"] (sp_read_list K ad) := I.f_read_list.ok fun f fd F => ok_read_list F I.T O_line_end O_take_line O_text_end_fault O_Reading
  have O_text_refusal : OkF P w K mg base 1 "text_refusal" ["reading"] (sp_text_refusal K ad) := I.f_text_refusal.ok fun f fd F => ok_text_refusal F I.T 
  have O_sign_refusal : OkF P w K mg base 2 "sign_refusal" ["reading", "k"] (sp_sign_refusal K ad) := I.f_sign_refusal.ok fun f fd F => ok_sign_refusal F I.T O_text_refusal
  have O_counted : OkF P w K mg base 1 "counted" ["values"] (sp_counted K ad) := I.f_counted.ok fun f fd F => ok_counted F I.T 
  exact ok_name F I.T O_read_list O_sign_refusal O_counted
theorem main_mk {fa : Addr} (hfa : mg "name" = some (.ref fa)) (h : ∃ ad, Its K mg ad) : ∃ fd : FuncData, (∀ (s : Shared) (us : List Value), us.length = (["k", "t"] : List Str).length → BindsTo s fd ⟨us, []⟩ ((["k", "t"] : List Str).zip us)) ∧ ∀ base : Heap, K.In base → base.Ns mainGlobals mg → FnOk P w K mg base CX0 9 fa fd ["k", "t"] (sp_name K ⟨0, 0, 0, 0, 0⟩) := by
  obtain ⟨ad, I⟩ := h
  obtain ⟨f, fd, F, m, hb⟩ := I.f_name
  have e := hfa.symm.trans m
  cases e
  exact ⟨fd, fun s us hu => .of_eq (hb us hu), fun base _ _ => all_ok I F⟩
theorem its_mk {h : Heap} (X : K.In h) (G : h.Ns mainGlobals mg) {A_c_Sign A_c_Reading A_a_SIGN_WORD : Addr} {od_SIGN_WORD : Option Addr} {nn_SIGN_WORD : Nat} {sl_SIGN_WORD : Array (Option Value)} {tk_SIGN_WORD0 tk_SIGN_WORD1 tk_SIGN_WORD2 tk_SIGN_WORD3 : Tok}
    (i_Reading : CIn K mg A_c_Reading "Reading" "Reading.__init__" s_Reading ["self", "too_long"])
    (pg_Reading : PySem.W.plainGet K A_c_Reading Str.empty = true)
    (hd_Reading : PySem.W.hasDictIn K A_c_Reading = true)
    (po_Reading : PySem.W.plainOver K A_c_Reading = true)
    (sa_Reading : PySem.W.findIn K (.ref A_c_Reading) "__setattr__" = some (some (.builtin "object.__setattr__")))
    (na_Reading_too_long : PySem.W.findIn K (.ref A_c_Reading) "too_long" = some none)
    (na_Reading_signs : PySem.W.findIn K (.ref A_c_Reading) "signs" = some none)
    (na_Reading_fault : PySem.W.findIn K (.ref A_c_Reading) "fault" = some none)
    (i_Sign : CIn K mg A_c_Sign "Sign" "Sign.__init__" s_Sign ["self", "place", "name", "sounds"])
    (pg_Sign : PySem.W.plainGet K A_c_Sign Str.empty = true)
    (hd_Sign : PySem.W.hasDictIn K A_c_Sign = true)
    (po_Sign : PySem.W.plainOver K A_c_Sign = true)
    (sa_Sign : PySem.W.findIn K (.ref A_c_Sign) "__setattr__" = some (some (.builtin "object.__setattr__")))
    (na_Sign_place : PySem.W.findIn K (.ref A_c_Sign) "place" = some none)
    (na_Sign_name : PySem.W.findIn K (.ref A_c_Sign) "name" = some none)
    (na_Sign_sounds : PySem.W.findIn K (.ref A_c_Sign) "sounds" = some none)
    (na_Sign_rows : PySem.W.findIn K (.ref A_c_Sign) "rows" = some none)
    (g_SIGN_WORD : PySem.W.nsIn K mainGlobals "SIGN_WORD" = some (some (.ref A_a_SIGN_WORD)))
    (l_SIGN_WORD : K.lookup A_a_SIGN_WORD = some ⟨.type "tuple", od_SIGN_WORD, .seq #[.int 115 tk_SIGN_WORD0, .int 105 tk_SIGN_WORD1, .int 103 tk_SIGN_WORD2, .int 110 tk_SIGN_WORD3] nn_SIGN_WORD, sl_SIGN_WORD⟩)
    (g_BARE_RIM : GV mg "BARE_RIM" (.int 4))
    (g_BLANK : GV mg "BLANK" (.int 32))
    (g_CAPITAL_A : GV mg "CAPITAL_A" (.int 65))
    (g_CAPITAL_Z : GV mg "CAPITAL_Z" (.int 90))
    (g_DIGIT_0 : GV mg "DIGIT_0" (.int 48))
    (g_DIGIT_9 : GV mg "DIGIT_9" (.int 57))
    (g_INK : GV mg "INK" (.int 35))
    (g_LINE_FEED : GV mg "LINE_FEED" (.int 10))
    (g_MOST_BYTES : GV mg "MOST_BYTES" (.int 1048576))
    (g_MOST_CELLS : GV mg "MOST_CELLS" (.int 32))
    (g_MOST_DIGITS : GV mg "MOST_DIGITS" (.int 3))
    (g_MOST_LETTERS : GV mg "MOST_LETTERS" (.int 8))
    (g_MOST_SIGNS : GV mg "MOST_SIGNS" (.int 512))
    (g_MOST_SOUNDS : GV mg "MOST_SOUNDS" (.int 8))
    (g_NOT_REFUSED : GV mg "NOT_REFUSED" (.int 0))
    (g_NO_INK : GV mg "NO_INK" (.int 46))
    (g_NO_LIST : GV mg "NO_LIST" (.int (-6)))
    (g_NO_SUCH : GV mg "NO_SUCH" (.int (-4)))
    (g_SMALL_A : GV mg "SMALL_A" (.int 97))
    (g_SMALL_Z : GV mg "SMALL_Z" (.int 122))
    (g_TOO_LONG : GV mg "TOO_LONG" (.int (-2)))
    (g_TOO_MANY : GV mg "TOO_MANY" (.int 3))
    (g_WRONG_FORM : GV mg "WRONG_FORM" (.int 1))
    (g_WRONG_ORDER : GV mg "WRONG_ORDER" (.int 2))
    (g_WRONG_WIDTH : GV mg "WRONG_WIDTH" (.int 5))
    (n_all : PySem.W.nsIn K mainGlobals "all" = some none)
    (n_any : PySem.W.nsIn K mainGlobals "any" = some none)
    (n_enumerate : PySem.W.nsIn K mainGlobals "enumerate" = some none)
    (n_len : PySem.W.nsIn K mainGlobals "len" = some none)
    (n_range : PySem.W.nsIn K mainGlobals "range" = some none)
    (n_tuple : PySem.W.nsIn K mainGlobals "tuple" = some none)
    (i_line_end : FIn K mg "line_end" "line_end" s_line_end ["t", "start"])
    (i_split_words : FIn K mg "split_words" "split_words" s_split_words ["t", "start", "end"])
    (i_has_bare_rim : FIn K mg "has_bare_rim" "has_bare_rim" s_has_bare_rim ["rows"])
    (i_whole_sign_fault : FIn K mg "whole_sign_fault" "whole_sign_fault" s_whole_sign_fault ["sign", "place"])
    (i_is_small_letter : FIn K mg "is_small_letter" "is_small_letter" s_is_small_letter ["value"])
    (i_small_letter_at : FIn K mg "small_letter_at" "small_letter_at" s_small_letter_at ["word", "at"])
    (i_digit_run_end : FIn K mg "digit_run_end" "digit_run_end" s_digit_run_end ["word", "start"])
    (i_number_of : FIn K mg "number_of" "number_of" s_number_of ["digits"])
    (i_name_key : FIn K mg "name_key" "name_key" s_name_key ["word"])
    (i_name_fault : FIn K mg "name_fault" "name_fault" s_name_fault ["words", "end", "signs"])
    (i_is_sound : FIn K mg "is_sound" "is_sound" s_is_sound ["word"])
    (i_sounds_fault : FIn K mg "sounds_fault" "sounds_fault" s_sounds_fault ["words"])
    (i_sign_line_fault : FIn K mg "sign_line_fault" "sign_line_fault" s_sign_line_fault ["words", "start", "end", "signs"])
    (i_take_sign_line : FIn K mg "take_sign_line" "take_sign_line" s_take_sign_line ["words", "start", "end", "signs"])
    (i_row_fault : FIn K mg "row_fault" "row_fault" s_row_fault ["row", "start", "rows"])
    (i_take_row : FIn K mg "take_row" "take_row" s_take_row ["row", "start", "signs"])
    (i_take_line : FIn K mg "take_line" "take_line" s_take_line ["t", "start", "end", "signs"])
    (i_text_end_fault : FIn K mg "text_end_fault" "text_end_fault" s_text_end_fault ["signs", "end"])
    (i_read_list : FIn K mg "read_list" "read_list" s_read_list ["t"])
    (i_text_refusal : FIn K mg "text_refusal" "text_refusal" s_text_refusal ["reading"])
    (i_sign_refusal : FIn K mg "sign_refusal" "sign_refusal" s_sign_refusal ["reading", "k"])
    (i_counted : FIn K mg "counted" "counted" s_counted ["values"])
    (i_name : FIn K mg "name" "name" s_name ["k", "t"]) : ∃ ad, Its K mg ad := by
  refine ⟨⟨A_c_Sign, A_c_Reading, A_a_SIGN_WORD, 0, 0⟩, ?_⟩
  have T : Txt K mg ⟨A_c_Sign, A_c_Reading, A_a_SIGN_WORD, 0, 0⟩ := { clS := ⟨pg_Sign, hd_Sign, po_Sign, sa_Sign⟩, clR := ⟨pg_Reading, hd_Reading, po_Reading, sa_Reading⟩, s_place := na_Sign_place, s_name := na_Sign_name, s_sounds := na_Sign_sounds, s_rows := na_Sign_rows, r_too_long := na_Reading_too_long, r_signs := na_Reading_signs, r_fault := na_Reading_fault, w_sign := fun H => .inr ⟨_, _, _, l_SIGN_WORD, rfl, rfl, (by show 4 ≤ sizeLine; decide), .cons ⟨_, rfl⟩ (.cons ⟨_, rfl⟩ (.cons ⟨_, rfl⟩ (.cons ⟨_, rfl⟩ .nil)))⟩, g_BARE_RIM := g_BARE_RIM, g_BLANK := g_BLANK, g_CAPITAL_A := g_CAPITAL_A, g_CAPITAL_Z := g_CAPITAL_Z, g_DIGIT_0 := g_DIGIT_0, g_DIGIT_9 := g_DIGIT_9, g_INK := g_INK, g_LINE_FEED := g_LINE_FEED, g_MOST_BYTES := g_MOST_BYTES, g_MOST_CELLS := g_MOST_CELLS, g_MOST_DIGITS := g_MOST_DIGITS, g_MOST_LETTERS := g_MOST_LETTERS, g_MOST_SIGNS := g_MOST_SIGNS, g_MOST_SOUNDS := g_MOST_SOUNDS, g_NOT_REFUSED := g_NOT_REFUSED, g_NO_INK := g_NO_INK, g_NO_LIST := g_NO_LIST, g_NO_SUCH := g_NO_SUCH, g_SIGN_WORD := gv_mk X G g_SIGN_WORD rfl, g_SMALL_A := g_SMALL_A, g_SMALL_Z := g_SMALL_Z, g_TOO_LONG := g_TOO_LONG, g_TOO_MANY := g_TOO_MANY, g_WRONG_FORM := g_WRONG_FORM, g_WRONG_ORDER := g_WRONG_ORDER, g_WRONG_WIDTH := g_WRONG_WIDTH, n_all := PySem.W.mg_none_of X G n_all, n_any := PySem.W.mg_none_of X G n_any, n_enumerate := PySem.W.mg_none_of X G n_enumerate, n_len := PySem.W.mg_none_of X G n_len, n_range := PySem.W.mg_none_of X G n_range, n_tuple := PySem.W.mg_none_of X G n_tuple }
  exact { T := T, f_Sign := i_Sign, f_Reading := i_Reading, f_line_end := i_line_end, f_split_words := i_split_words, f_has_bare_rim := i_has_bare_rim, f_whole_sign_fault := i_whole_sign_fault, f_is_small_letter := i_is_small_letter, f_small_letter_at := i_small_letter_at, f_digit_run_end := i_digit_run_end, f_number_of := i_number_of, f_name_key := i_name_key, f_name_fault := i_name_fault, f_is_sound := i_is_sound, f_sounds_fault := i_sounds_fault, f_sign_line_fault := i_sign_line_fault, f_take_sign_line := i_take_sign_line, f_row_fault := i_row_fault, f_take_row := i_take_row, f_take_line := i_take_line, f_text_end_fault := i_text_end_fault, f_read_list := i_read_list, f_text_refusal := i_text_refusal, f_sign_refusal := i_sign_refusal, f_counted := i_counted, f_name := i_name }
end
end Pg
open PySem PySem.W PyProof.Rows
set_option maxRecDepth 100000 in
set_option maxHeartbeats 0 in
theorem PySem.Challenge.cw_signlists_s03_name_holds : PySem.Challenge.rw_signlists_s03_name.Holds := by
  w_on; k_headS; (case hw => exact ⟨[.int 0, .list []], by decide +kernel, by decide +kernel⟩)
  k_fillS
  refine L2.walk_specK (r := PySem.Challenge.rw_signlists_s03_name) (k := 9) (CX := L2.CX0) (ps := ["k", "t"]) (sp := fun K => Pg.sp_name K ⟨0, 0, 0, 0, 0⟩) (by decide +kernel) rfl rfl ⟨rfl, by decide, by decide⟩ (fun w h Y => PySem.W.kIn_of Y) ?F ?S (fun _ _ _ _ z => z)
  case F =>
    intro w mg fa h Y KX G hmg
    refine Pg.main_mk hmg ?_
    refine' Pg.its_mk KX G ?i_Reading ?pg_Reading ?hd_Reading ?po_Reading ?sa_Reading ?na_Reading_too_long ?na_Reading_signs ?na_Reading_fault ?i_Sign ?pg_Sign ?hd_Sign ?po_Sign ?sa_Sign ?na_Sign_place ?na_Sign_name ?na_Sign_sounds ?na_Sign_rows ?g_SIGN_WORD ?l_SIGN_WORD ?g_BARE_RIM ?g_BLANK ?g_CAPITAL_A ?g_CAPITAL_Z ?g_DIGIT_0 ?g_DIGIT_9 ?g_INK ?g_LINE_FEED ?g_MOST_BYTES ?g_MOST_CELLS ?g_MOST_DIGITS ?g_MOST_LETTERS ?g_MOST_SIGNS ?g_MOST_SOUNDS ?g_NOT_REFUSED ?g_NO_INK ?g_NO_LIST ?g_NO_SUCH ?g_SMALL_A ?g_SMALL_Z ?g_TOO_LONG ?g_TOO_MANY ?g_WRONG_FORM ?g_WRONG_ORDER ?g_WRONG_WIDTH ?n_all ?n_any ?n_enumerate ?n_len ?n_range ?n_tuple ?i_line_end ?i_split_words ?i_has_bare_rim ?i_whole_sign_fault ?i_is_small_letter ?i_small_letter_at ?i_digit_run_end ?i_number_of ?i_name_key ?i_name_fault ?i_is_sound ?i_sounds_fault ?i_sign_line_fault ?i_take_sign_line ?i_row_fault ?i_take_row ?i_take_line ?i_text_end_fault ?i_read_list ?i_text_refusal ?i_sign_refusal ?i_counted ?i_name
    (case i_Reading => (refine' Pg.cin_mk KX G ?aC ?a ?i ?l ?c ?kp ?mk ?kc ?hb; (case aC => k_is); (case a => k_is); (case i => k_is); (case l => k_is); (case c => k_is); (case kp => k_is); (case mk => k_is); (case kc => k_is); (case hb => exact fun _ _ _ _ _ _ us hl => match us, hl with | [_, _], _ => rfl)))
    (case pg_Reading => k_is)
    (case hd_Reading => k_is)
    (case po_Reading => k_is)
    (case sa_Reading => k_is)
    (case na_Reading_too_long => k_is)
    (case na_Reading_signs => k_is)
    (case na_Reading_fault => k_is)
    (case i_Sign => (refine' Pg.cin_mk KX G ?aC ?a ?i ?l ?c ?kp ?mk ?kc ?hb; (case aC => k_is); (case a => k_is); (case i => k_is); (case l => k_is); (case c => k_is); (case kp => k_is); (case mk => k_is); (case kc => k_is); (case hb => exact fun _ _ _ _ _ _ us hl => match us, hl with | [_, _, _, _], _ => rfl)))
    (case pg_Sign => k_is)
    (case hd_Sign => k_is)
    (case po_Sign => k_is)
    (case sa_Sign => k_is)
    (case na_Sign_place => k_is)
    (case na_Sign_name => k_is)
    (case na_Sign_sounds => k_is)
    (case na_Sign_rows => k_is)
    (case g_SIGN_WORD => k_is)
    (case l_SIGN_WORD => k_is)
    (case g_BARE_RIM => (refine' Pg.gv_mk KX G ?a ?r; (case a => k_is); (case r => exact ⟨_, rfl⟩)))
    (case g_BLANK => (refine' Pg.gv_mk KX G ?a ?r; (case a => k_is); (case r => exact ⟨_, rfl⟩)))
    (case g_CAPITAL_A => (refine' Pg.gv_mk KX G ?a ?r; (case a => k_is); (case r => exact ⟨_, rfl⟩)))
    (case g_CAPITAL_Z => (refine' Pg.gv_mk KX G ?a ?r; (case a => k_is); (case r => exact ⟨_, rfl⟩)))
    (case g_DIGIT_0 => (refine' Pg.gv_mk KX G ?a ?r; (case a => k_is); (case r => exact ⟨_, rfl⟩)))
    (case g_DIGIT_9 => (refine' Pg.gv_mk KX G ?a ?r; (case a => k_is); (case r => exact ⟨_, rfl⟩)))
    (case g_INK => (refine' Pg.gv_mk KX G ?a ?r; (case a => k_is); (case r => exact ⟨_, rfl⟩)))
    (case g_LINE_FEED => (refine' Pg.gv_mk KX G ?a ?r; (case a => k_is); (case r => exact ⟨_, rfl⟩)))
    (case g_MOST_BYTES => (refine' Pg.gv_mk KX G ?a ?r; (case a => k_is); (case r => exact ⟨_, rfl⟩)))
    (case g_MOST_CELLS => (refine' Pg.gv_mk KX G ?a ?r; (case a => k_is); (case r => exact ⟨_, rfl⟩)))
    (case g_MOST_DIGITS => (refine' Pg.gv_mk KX G ?a ?r; (case a => k_is); (case r => exact ⟨_, rfl⟩)))
    (case g_MOST_LETTERS => (refine' Pg.gv_mk KX G ?a ?r; (case a => k_is); (case r => exact ⟨_, rfl⟩)))
    (case g_MOST_SIGNS => (refine' Pg.gv_mk KX G ?a ?r; (case a => k_is); (case r => exact ⟨_, rfl⟩)))
    (case g_MOST_SOUNDS => (refine' Pg.gv_mk KX G ?a ?r; (case a => k_is); (case r => exact ⟨_, rfl⟩)))
    (case g_NOT_REFUSED => (refine' Pg.gv_mk KX G ?a ?r; (case a => k_is); (case r => exact ⟨_, rfl⟩)))
    (case g_NO_INK => (refine' Pg.gv_mk KX G ?a ?r; (case a => k_is); (case r => exact ⟨_, rfl⟩)))
    (case g_NO_LIST => (refine' Pg.gv_mk KX G ?a ?r; (case a => k_is); (case r => exact ⟨_, rfl⟩)))
    (case g_NO_SUCH => (refine' Pg.gv_mk KX G ?a ?r; (case a => k_is); (case r => exact ⟨_, rfl⟩)))
    (case g_SMALL_A => (refine' Pg.gv_mk KX G ?a ?r; (case a => k_is); (case r => exact ⟨_, rfl⟩)))
    (case g_SMALL_Z => (refine' Pg.gv_mk KX G ?a ?r; (case a => k_is); (case r => exact ⟨_, rfl⟩)))
    (case g_TOO_LONG => (refine' Pg.gv_mk KX G ?a ?r; (case a => k_is); (case r => exact ⟨_, rfl⟩)))
    (case g_TOO_MANY => (refine' Pg.gv_mk KX G ?a ?r; (case a => k_is); (case r => exact ⟨_, rfl⟩)))
    (case g_WRONG_FORM => (refine' Pg.gv_mk KX G ?a ?r; (case a => k_is); (case r => exact ⟨_, rfl⟩)))
    (case g_WRONG_ORDER => (refine' Pg.gv_mk KX G ?a ?r; (case a => k_is); (case r => exact ⟨_, rfl⟩)))
    (case g_WRONG_WIDTH => (refine' Pg.gv_mk KX G ?a ?r; (case a => k_is); (case r => exact ⟨_, rfl⟩)))
    (case n_all => k_is)
    (case n_any => k_is)
    (case n_enumerate => k_is)
    (case n_len => k_is)
    (case n_range => k_is)
    (case n_tuple => k_is)
    (case i_line_end => (refine' Pg.fin_mk KX G ?a ?l ?c ?kp ?hb; (case a => k_is); (case l => k_is); (case c => k_is); (case kp => k_is); (case hb => exact fun _ _ _ _ _ _ us hl => match us, hl with | [_, _], _ => rfl)))
    (case i_split_words => (refine' Pg.fin_mk KX G ?a ?l ?c ?kp ?hb; (case a => k_is); (case l => k_is); (case c => k_is); (case kp => k_is); (case hb => exact fun _ _ _ _ _ _ us hl => match us, hl with | [_, _, _], _ => rfl)))
    (case i_has_bare_rim => (refine' Pg.fin_mk KX G ?a ?l ?c ?kp ?hb; (case a => k_is); (case l => k_is); (case c => k_is); (case kp => k_is); (case hb => exact fun _ _ _ _ _ _ us hl => match us, hl with | [_], _ => rfl)))
    (case i_whole_sign_fault => (refine' Pg.fin_mk KX G ?a ?l ?c ?kp ?hb; (case a => k_is); (case l => k_is); (case c => k_is); (case kp => k_is); (case hb => exact fun _ _ _ _ _ _ us hl => match us, hl with | [_, _], _ => rfl)))
    (case i_is_small_letter => (refine' Pg.fin_mk KX G ?a ?l ?c ?kp ?hb; (case a => k_is); (case l => k_is); (case c => k_is); (case kp => k_is); (case hb => exact fun _ _ _ _ _ _ us hl => match us, hl with | [_], _ => rfl)))
    (case i_small_letter_at => (refine' Pg.fin_mk KX G ?a ?l ?c ?kp ?hb; (case a => k_is); (case l => k_is); (case c => k_is); (case kp => k_is); (case hb => exact fun _ _ _ _ _ _ us hl => match us, hl with | [_, _], _ => rfl)))
    (case i_digit_run_end => (refine' Pg.fin_mk KX G ?a ?l ?c ?kp ?hb; (case a => k_is); (case l => k_is); (case c => k_is); (case kp => k_is); (case hb => exact fun _ _ _ _ _ _ us hl => match us, hl with | [_, _], _ => rfl)))
    (case i_number_of => (refine' Pg.fin_mk KX G ?a ?l ?c ?kp ?hb; (case a => k_is); (case l => k_is); (case c => k_is); (case kp => k_is); (case hb => exact fun _ _ _ _ _ _ us hl => match us, hl with | [_], _ => rfl)))
    (case i_name_key => (refine' Pg.fin_mk KX G ?a ?l ?c ?kp ?hb; (case a => k_is); (case l => k_is); (case c => k_is); (case kp => k_is); (case hb => exact fun _ _ _ _ _ _ us hl => match us, hl with | [_], _ => rfl)))
    (case i_name_fault => (refine' Pg.fin_mk KX G ?a ?l ?c ?kp ?hb; (case a => k_is); (case l => k_is); (case c => k_is); (case kp => k_is); (case hb => exact fun _ _ _ _ _ _ us hl => match us, hl with | [_, _, _], _ => rfl)))
    (case i_is_sound => (refine' Pg.fin_mk KX G ?a ?l ?c ?kp ?hb; (case a => k_is); (case l => k_is); (case c => k_is); (case kp => k_is); (case hb => exact fun _ _ _ _ _ _ us hl => match us, hl with | [_], _ => rfl)))
    (case i_sounds_fault => (refine' Pg.fin_mk KX G ?a ?l ?c ?kp ?hb; (case a => k_is); (case l => k_is); (case c => k_is); (case kp => k_is); (case hb => exact fun _ _ _ _ _ _ us hl => match us, hl with | [_], _ => rfl)))
    (case i_sign_line_fault => (refine' Pg.fin_mk KX G ?a ?l ?c ?kp ?hb; (case a => k_is); (case l => k_is); (case c => k_is); (case kp => k_is); (case hb => exact fun _ _ _ _ _ _ us hl => match us, hl with | [_, _, _, _], _ => rfl)))
    (case i_take_sign_line => (refine' Pg.fin_mk KX G ?a ?l ?c ?kp ?hb; (case a => k_is); (case l => k_is); (case c => k_is); (case kp => k_is); (case hb => exact fun _ _ _ _ _ _ us hl => match us, hl with | [_, _, _, _], _ => rfl)))
    (case i_row_fault => (refine' Pg.fin_mk KX G ?a ?l ?c ?kp ?hb; (case a => k_is); (case l => k_is); (case c => k_is); (case kp => k_is); (case hb => exact fun _ _ _ _ _ _ us hl => match us, hl with | [_, _, _], _ => rfl)))
    (case i_take_row => (refine' Pg.fin_mk KX G ?a ?l ?c ?kp ?hb; (case a => k_is); (case l => k_is); (case c => k_is); (case kp => k_is); (case hb => exact fun _ _ _ _ _ _ us hl => match us, hl with | [_, _, _], _ => rfl)))
    (case i_take_line => (refine' Pg.fin_mk KX G ?a ?l ?c ?kp ?hb; (case a => k_is); (case l => k_is); (case c => k_is); (case kp => k_is); (case hb => exact fun _ _ _ _ _ _ us hl => match us, hl with | [_, _, _, _], _ => rfl)))
    (case i_text_end_fault => (refine' Pg.fin_mk KX G ?a ?l ?c ?kp ?hb; (case a => k_is); (case l => k_is); (case c => k_is); (case kp => k_is); (case hb => exact fun _ _ _ _ _ _ us hl => match us, hl with | [_, _], _ => rfl)))
    (case i_read_list => (refine' Pg.fin_mk KX G ?a ?l ?c ?kp ?hb; (case a => k_is); (case l => k_is); (case c => k_is); (case kp => k_is); (case hb => exact fun _ _ _ _ _ _ us hl => match us, hl with | [_], _ => rfl)))
    (case i_text_refusal => (refine' Pg.fin_mk KX G ?a ?l ?c ?kp ?hb; (case a => k_is); (case l => k_is); (case c => k_is); (case kp => k_is); (case hb => exact fun _ _ _ _ _ _ us hl => match us, hl with | [_], _ => rfl)))
    (case i_sign_refusal => (refine' Pg.fin_mk KX G ?a ?l ?c ?kp ?hb; (case a => k_is); (case l => k_is); (case c => k_is); (case kp => k_is); (case hb => exact fun _ _ _ _ _ _ us hl => match us, hl with | [_, _], _ => rfl)))
    (case i_counted => (refine' Pg.fin_mk KX G ?a ?l ?c ?kp ?hb; (case a => k_is); (case l => k_is); (case c => k_is); (case kp => k_is); (case hb => exact fun _ _ _ _ _ _ us hl => match us, hl with | [_], _ => rfl)))
    (case i_name => (refine' Pg.fin_mk KX G ?a ?l ?c ?kp ?hb; (case a => k_is); (case l => k_is); (case c => k_is); (case kp => k_is); (case hb => exact fun _ _ _ _ _ _ us hl => match us, hl with | [_, _], _ => rfl)))
  case S =>
    intro K H xs a hO hwi hask hx
    cases hx with
    | cons h0 t0 =>
      cases t0 with
      | cons h1 t1 =>
        cases t1
        cases h0
        cases h1 with
        | lst s1 d1 =>
          have e1 := L2.ints_dw a.2.1 _ d1
          subst e1
          have q : (Codec.inInt 0 4294967295 a.1 && ((Codec.inLen 0 100000 a.2.1 && a.2.1.all (Codec.inInt 0 255)) && true)) = true := hwi
          have q0 := (Bool.and_eq_true _ _).mp q
          have q1 := (Bool.and_eq_true _ _).mp q0.2
          have p1 := (Bool.and_eq_true _ _).mp q1.1
          exact Pg.name_req (Codec.inInt_iff.mp q0.1).1 s1 (Codec.inNat_iff.mp p1.1).2 p1.2
end
