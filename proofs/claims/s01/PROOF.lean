import PyProof.Rows.All
import Wide.All
import OpenK.AllK
import Wide.FinOn
import PyProof.EqAt
import PyProof.EqKinds
import PyProof.TupleCall
import KE.BitLaws
import Open.SpecLaws
import KE.OsHead
import KE.OsGo
import PySem.Challenge.RW_weighbridge_s01_answers
section
set_option Elab.async false
set_option linter.all false
set_option maxRecDepth 100000
namespace L2
open PySem PySem.Spec PyProof.Rows

abbrev Key := Sum Int Str
def keyIs : Key → Value → Bool
  | .inl k, v => Value.isInt k v
  | .inr x, v => Value.isStrOf x v
def keyH (w : World) : Key → Int
  | .inl k => hashInt k
  | .inr x => hashStr w x
theorem keyIs_shape : ∀ {k : Key} {v : Value}, keyIs k v = true → (∃ i t, k = Sum.inl i ∧ v = Value.int i t) ∨ (∃ x t, k = Sum.inr x ∧ v = Value.str x t)
  | .inl i, v, h => by
    obtain ⟨t, e⟩ := Value.isInt_shape (k := i) (v := v) h
    exact .inl ⟨i, t, rfl, e⟩
  | .inr x, v, h => by
    obtain ⟨t, e⟩ := Value.isStrOf_shape (x := x) (v := v) h
    exact .inr ⟨x, t, rfl, e⟩
theorem key_ll (a b : Int) : decide ((Sum.inl a : Key) = Sum.inl b) = (a == b) := by
  by_cases e : a = b
  · subst e; simp
  · have h : ¬ (Sum.inl a : Key) = Sum.inl b := fun q => e (Sum.inl.inj q)
    rw [decide_eq_false h]
    exact (beq_eq_false_iff_ne.mpr e).symm
theorem key_rr (a b : Str) : decide ((Sum.inr a : Key) = Sum.inr b) = decide (a = b) := by
  by_cases e : a = b
  · subst e; simp
  · have h : ¬ (Sum.inr a : Key) = Sum.inr b := fun q => e (Sum.inr.inj q)
    rw [decide_eq_false h, decide_eq_false e]
theorem key_lr (a : Int) (b : Str) : decide ((Sum.inl a : Key) = Sum.inr b) = false := decide_eq_false (fun q => nomatch q)
theorem key_rl (a : Str) (b : Int) : decide ((Sum.inr a : Key) = Sum.inl b) = false := decide_eq_false (fun q => nomatch q)

def mixKind (prog : Program) (w : World) : PySem.KeyKind prog w Key where
  is := keyIs
  hash := keyH w
  inj := fun v a b ha hb => by
    rcases keyIs_shape ha with ⟨i, t, rfl, rfl⟩ | ⟨x, t, rfl, rfl⟩
    · rcases keyIs_shape hb with ⟨j, u, rfl, e⟩ | ⟨y, u, rfl, e⟩
      · injection e with e1 _; rw [e1]
      · exact nomatch e
    · rcases keyIs_shape hb with ⟨j, u, rfl, e⟩ | ⟨y, u, rfl, e⟩
      · exact nomatch e
      · injection e with e1 _; rw [e1]
  byValue := fun k v h => by
    rcases keyIs_shape h with ⟨i, t, rfl, rfl⟩ | ⟨x, t, rfl, rfl⟩ <;> rfl
  pyHash := fun hv h => by
    rcases keyIs_shape hv with ⟨i, t, rfl, rfl⟩ | ⟨x, t, rfl, rfl⟩
    · exact wpAny_pyHash_int h
    · exact wpAny_pyHash_str h
  eqBool := fun hu hv h => by
    rcases keyIs_shape hu with ⟨i, t, rfl, rfl⟩ | ⟨x, t, rfl, rfl⟩
    · rcases keyIs_shape hv with ⟨j, u, rfl, rfl⟩ | ⟨y, u, rfl, rfl⟩
      · rw [key_ll] at h; exact wpAny_eqBool_int h
      · rw [key_lr] at h; exact SeqAt.EqAt.int_str i t y u _ _ _ _ h
    · rcases keyIs_shape hv with ⟨j, u, rfl, rfl⟩ | ⟨y, u, rfl, rfl⟩
      · rw [key_rl] at h; exact SeqAt.EqAt.str_int x t j u _ _ _ _ h
      · rw [key_rr] at h; exact wpAny_eqBool_str h
  «strs» := fun k x t v h => by
    rcases keyIs_shape h with ⟨i, u, rfl, e⟩ | ⟨y, u, rfl, e⟩
    · exact nomatch e
    · injection e with e1 _
      subst e1
      cases v <;> rfl

end L2

namespace L2
open PySem PySem.Spec PyProof.Rows

inductive V where
  | non | bl (b : Bool) | int (i : Int) | str (x : Str) | byt (b : Array UInt8) | flt (b : UInt64) | ref (a : Addr) | ty (n : String)
  deriving DecidableEq

def RelV : V → Value → Prop
  | .non, u => u = Value.none
  | .bl b, u => u = Value.bool b
  | .int i, u => ∃ t, u = Value.int i t
  | .str x, u => ∃ t, u = Value.str x t
  | .byt b, u => ∃ t, u = Value.bytes b t
  | .flt b, u => ∃ t, u = Value.float b t
  | .ref a, u => u = Value.ref a
  | .ty n, u => u = Value.type n

abbrev Vals : List V → List Value → Prop := Paired RelV
theorem Vals.length {xs : List V} {us : List Value} (r : Vals xs us) : xs.length = us.length := Paired.length r
theorem Vals.get : ∀ {xs : List V} {us : List Value} {i : Nat} {x : V}, Vals xs us → xs[i]? = some x → ∃ u, us[i]? = some u ∧ RelV x u
  | _, _, _, _, .nil, e => by simp at e
  | _, _, 0, _, .cons r _, e => by simp at e; subst e; exact ⟨_, rfl, r⟩
  | _, _, i + 1, x, .cons _ t, e => by
    obtain ⟨u, h1, h2⟩ := Vals.get (i := i) (x := x) t (by simpa using e)
    exact ⟨u, by simpa using h1, h2⟩
theorem Vals.set {x : V} {u : Value} (r : RelV x u) : ∀ {xs : List V} {us : List Value} (i : Nat), Vals xs us → Vals (xs.set i x) (us.set i u)
  | _, _, _, .nil => .nil
  | _, _, 0, .cons _ t => .cons r t
  | _, _, i + 1, .cons q t => .cons q (Vals.set r i t)
theorem Vals.append : ∀ {xs ys : List V} {us ws : List Value}, Vals xs us → Vals ys ws → Vals (xs ++ ys) (us ++ ws)
  | _, _, _, _, .nil, s => s
  | _, _, _, _, .cons r t, s => .cons r (Vals.append t s)
theorem Vals.take : ∀ {xs : List V} {us : List Value} (n : Nat), Vals xs us → Vals (xs.take n) (us.take n)
  | _, _, 0, _ => .nil
  | _, _, _ + 1, .nil => .nil
  | _, _, n + 1, .cons r t => .cons r (Vals.take n t)
theorem Vals.drop : ∀ {xs : List V} {us : List Value} (n : Nat), Vals xs us → Vals (xs.drop n) (us.drop n)
  | _, _, 0, r => r
  | _, _, _ + 1, .nil => .nil
  | _, _, n + 1, .cons _ t => Vals.drop n t
theorem Vals.none_of : ∀ {xs : List V} {us : List Value} {i : Nat}, Vals xs us → xs[i]? = none → us[i]? = none := fun {xs us i} r e => by
  have h1 := r.length
  have h2 : xs.length ≤ i := List.getElem?_eq_none_iff.mp e
  exact List.getElem?_eq_none_iff.mpr (by omega)

def RelO : Option V → Option Value → Prop
  | some v, some u => RelV v u
  | none, none => True
  | _, _ => False
def KV {κ : Type} : List (κ × V) → List (κ × Value) → Prop := Paired fun (p : κ × V) (q : κ × Value) => p.1 = q.1 ∧ RelV p.2 q.2

def kV : Key → V
  | .inl i => .int i
  | .inr x => .str x

inductive HO where
  /-- a list -/
  | lst (xs : List V)
  /-- a tuple (never changes) -/
  | tup (xs : List V)
  /-- a dict whose keys are ints and texts; one whose keys are tuples of ints and texts (the empty one is both) -/
  | dK (kvs : List (Key × V)) | dT (kvs : List (List Key × V))
  /-- a set of ints: its members, its size -/
  | set (S : Int → Bool) (n : Nat)
  /-- an instance of the class at C, its dict at dx, its attributes -/
  | ins (C dx : Addr) (fs : List (Str × V))
  /-- the dict of the instance at x -/
  | own (x : Addr)
  /-- the dict of an exception -/
  | xd (fs : List (Str × V))
  /-- a bound method, f of x -/
  | met (f x : Addr)
  /-- a range object lo, lo + 1, .. below hi -/
  | rng (lo hi : Int)
  /-- a thing that is known to the object (the script; a dict while a loop walks it): read, never written while it is so -/
  | frz (o : Obj) (u : HO)
  /-- a code object's table -/
  | tbl (ps : Array Value)
  /-- any other thing, by what is true of its one object (a def of one's own: SetO a S n := HO.ext fun h => ..) -/
  | ext (φ : Heap → Prop)

abbrev Hp := Addr → Option HO
def upd (H : Hp) (a : Addr) (o : HO) : Hp := fun b => if b = a then some o else H b
theorem upd_same {H : Hp} {a : Addr} {o : HO} : upd H a o a = some o := by unfold upd; rw [if_pos rfl]
theorem upd_ne {H : Hp} {a b : Addr} {o : HO} (h : b ≠ a) : upd H a o b = H b := by unfold upd; rw [if_neg h]
theorem upd_upd {H : Hp} {a : Addr} {o u : HO} : upd (upd H a o) a u = upd H a u := by
  funext b; unfold upd; split <;> rfl
theorem ne_of {H : Hp} {a b : Addr} {o u : HO} (h : H a = some o) (h' : H b = some u) (d : o ≠ u) : a ≠ b := by
  intro e; subst e; rw [h] at h'; exact d (Option.some.inj h')
theorem ne_of_none {H : Hp} {a b : Addr} {o : HO} (h : H a = some o) (h' : H b = none) : a ≠ b := by
  intro e; subst e; rw [h] at h'; cases h'

section
variable (P : Program) (w : World)
def ObjOk (H : Hp) (h : Heap) (a : Addr) : HO → Prop
  | .lst xs => xs.length ≤ sizeLine ∧ ∃ (its : List Value) (n : Nat), Vals xs its ∧ h.get? a = some { cls := .type "list", data := .seq its.toArray n }
  | .tup xs => xs.length ≤ sizeLine ∧ ∃ its : List Value, Vals xs its ∧ IsTup h a its.toArray
  | .dK kvs => kvs.length ≤ sizeLine ∧ (a == sysModules) = false ∧ ∃ vs, KV kvs vs ∧ h.DictOf (mixKind P w) a vs
  | .dT kvs => kvs.length ≤ sizeLine ∧ (a == sysModules) = false ∧ ∃ xs : List (List Key × Addr × Value),
      Paired (fun (p : List Key × V) (q : List Key × Addr × Value) => p.1 = q.1 ∧ H q.2.1 = some (.tup (p.1.map kV)) ∧ RelV p.2 q.2.2) kvs xs ∧
      ∃ o es ep, h.get? a = some o ∧ o.ExactDict ∧ o.data = .dict es ep ∧ es.toList = xs.map (entryOfKey (tupleKind (mixKind P w))) ∧ (xs.map (·.1)).Nodup
  | .set S n => h.SetOf (intKind P w) a S n
  | .ins C dx fs => H dx = some (.own a) ∧ fs.length ≤ 1000 ∧ dx ≠ a ∧ h.get? a = some (PySem.W.instObj C dx) ∧
      ∃ mA, h.Ns1 dx mA ∧ (∀ f, RelO (fs.lookup f) (mA f)) ∧ PySem.Within mA (fs.map (·.1))
  | .own _ => ∃ o, h.get? a = some o
  | .xd fs => ∃ mA, h.Ns1 a mA ∧ ∀ f, RelO (fs.lookup f) (mA f)
  | .rng lo hi => ∃ t u v, h.get? a = some { cls := .type "range", data := .fields #[.int lo t, .int hi u, .int 1 v] }
  | .frz o u => h.get? a = some o ∧ ObjOk H h a u
  | .tbl ps => h.get? a = some { cls := .none, data := .fields ps }
  | .met f x => h.get? a = some (PySem.W.methodObj (.ref f) (.ref x))
  | .ext φ => φ h ∧ (∃ o, h.get? a = some o) ∧ ∀ h1 h2 : Heap, φ h1 → (∀ o, h1.get? a = some o → h2.get? a = some o) → φ h2
def HOk (H : Hp) (h : Heap) : Prop := ∀ a o, H a = some o → ObjOk P w H h a o
end

section
variable {P : Program} {w : World} {H H' : Hp} {h h' : Heap} {a : Addr} {o : HO}
theorem ObjOk.lt (x : ObjOk P w H h a o) : a < h.objs.size := by
  cases o with
  | lst xs => obtain ⟨_, _, _, _, e⟩ := x; exact Heap.lt_size e
  | tup xs => obtain ⟨_, _, _, p⟩ := x; exact p.lt
  | dK kvs => obtain ⟨_, _, _, _, o, _, _, e, _⟩ := x; exact Heap.lt_size e
  | dT kvs => obtain ⟨_, _, _, _, o, _, _, e, _⟩ := x; exact Heap.lt_size e
  | set S n => obtain ⟨o, _, _, _, e, _⟩ := x; exact Heap.lt_size e
  | ins C dx fs => obtain ⟨_, _, _, e, _⟩ := x; exact Heap.lt_size e
  | own y => obtain ⟨_, e⟩ := x; exact Heap.lt_size e
  | xd fs => obtain ⟨_, ⟨_, _, _, e, _⟩, _⟩ := x; exact Heap.lt_size e
  | rng lo hi => obtain ⟨_, _, _, e⟩ := x; exact Heap.lt_size e
  | frz ob u => obtain ⟨e, _⟩ := x; exact Heap.lt_size e
  | tbl ps => exact Heap.lt_size (show h.get? a = some _ from x)
  | met f y => exact Heap.lt_size (show h.get? a = some _ from x)
  | ext φ => obtain ⟨_, ⟨_, e⟩, _⟩ := x; exact Heap.lt_size e
theorem Paired.mapP {α β : Type} {F G : α → β → Prop} : ∀ {l₁ : List α} {l₂ : List β}, Paired F l₁ l₂ → (∀ a b, F a b → G a b) → Paired G l₁ l₂
  | _, _, .nil, _ => .nil
  | _, _, .cons r t, f => .cons (f _ _ r) (Paired.mapP t f)
theorem ObjOk.stay (x : ObjOk P w H h a o) (k : ∀ b u, (b = a ∨ H b = some (.own a)) → h.get? b = some u → h'.get? b = some u)
    (ho : ∀ b, H b = some (.own a) → H' b = some (.own a)) (ht : ∀ b xs, H b = some (.tup xs) → H' b = some (.tup xs)) : ObjOk P w H' h' a o := by
  induction o with
  | lst xs => obtain ⟨z, its, n, r, e⟩ := x; exact ⟨z, its, n, r, k _ _ (.inl rfl) e⟩
  | tup xs => obtain ⟨z, its, r, ob, e, c⟩ := x; exact ⟨z, its, r, ob, k _ _ (.inl rfl) e, c⟩
  | dK kvs => obtain ⟨z, y, vs, r, ob, es, ep, e, c⟩ := x; exact ⟨z, y, vs, r, ob, es, ep, k _ _ (.inl rfl) e, c⟩
  | dT kvs =>
    obtain ⟨z, y, xs, r, ob, es, ep, e, c⟩ := x
    exact ⟨z, y, xs, Paired.mapP r fun p q z => ⟨z.1, ht _ _ z.2.1, z.2.2⟩, ob, es, ep, k _ _ (.inl rfl) e, c⟩
  | set S n => obtain ⟨ob, es, ep, t, e, c⟩ := x; exact ⟨ob, es, ep, t, k _ _ (.inl rfl) e, c⟩
  | ins C dx fs =>
    obtain ⟨d, z, ne, e, mA, ⟨od, es, ep, e2, c⟩, r⟩ := x
    exact ⟨ho _ d, z, ne, k _ _ (.inl rfl) e, mA, ⟨od, es, ep, k _ _ (.inr d) e2, c⟩, r⟩
  | own y => obtain ⟨ob, e⟩ := x; exact ⟨ob, k _ _ (.inl rfl) e⟩
  | xd fs => obtain ⟨mA, ⟨od, es, ep, e, c⟩, r⟩ := x; exact ⟨mA, ⟨od, es, ep, k _ _ (.inl rfl) e, c⟩, r⟩
  | rng lo hi => obtain ⟨t, u, v, e⟩ := x; exact ⟨t, u, v, k _ _ (.inl rfl) e⟩
  | frz ob u ih => obtain ⟨e, q⟩ := x; exact ⟨k _ _ (.inl rfl) e, ih q⟩
  | tbl ps =>
    have e : h.get? a = some { cls := .none, data := .fields ps } := x
    show h'.get? a = some { cls := .none, data := .fields ps }
    exact k a _ (.inl rfl) e
  | met f y =>
    have e : h.get? a = some (PySem.W.methodObj (.ref f) (.ref y)) := x
    show h'.get? a = some (PySem.W.methodObj (.ref f) (.ref y))
    exact k a _ (.inl rfl) e
  | ext φ => obtain ⟨p, ⟨o, e⟩, st⟩ := x; exact ⟨st _ _ p fun o q => k _ _ (.inl rfl) q, ⟨o, k _ _ (.inl rfl) e⟩, st⟩
theorem HOk.lt (x : HOk P w H h) (e : H a = some o) : a < h.objs.size := (x a o e).lt
theorem HOk.fresh (x : HOk P w H h) (e : h.objs.size ≤ a) : H a = none := by
  cases q : H a with
  | none => rfl
  | some u => exact absurd (Nat.lt_of_lt_of_le (x.lt q) e) (Nat.lt_irrefl _)
theorem HOk.kept (x : HOk P w H h) (k : ∀ b u, h.get? b = some u → h'.get? b = some u) : HOk P w H h' := fun a o e =>
  (x a o e).stay (fun b u _ q => k b u q) (fun _ q => q) fun _ _ q => q
theorem HOk.laid (x : HOk P w H h) (k : ∀ b u, h.get? b = some u → h'.get? b = some u) (hp : h.objs.size ≤ a) (new : ObjOk P w (upd H a o) h' a o) : HOk P w (upd H a o) h' := fun b u e => by
  have hn := x.fresh hp
  by_cases hb : b = a
  · subst hb; rw [upd_same] at e; cases e; exact new
  · rw [upd_ne hb] at e
    exact (x b u e).stay (fun c v _ q => k c v q) (fun c q => by rw [upd_ne (ne_of_none q hn)]; exact q) fun c xs q => by rw [upd_ne (ne_of_none q hn)]; exact q
end

def Rd (H : Hp) (a : Addr) (u : HO) : Prop := H a = some u ∨ ∃ o, H a = some (.frz o u)
theorem Rd.of {H : Hp} {a : Addr} {u : HO} (h : H a = some u) : Rd H a u := .inl h
theorem Rd.ok {P : Program} {w : World} {H : Hp} {h : Heap} {a : Addr} {u : HO} (r : Rd H a u) (x : HOk P w H h) : ObjOk P w H h a u := by
  rcases r with r | ⟨o, r⟩
  · exact x a u r
  · obtain ⟨_, q⟩ := x a _ r
    exact q
def Mut : Option HO → Prop
  | some (.lst _) => True
  | some (.dK _) => True
  | some (.dT _) => True
  | some (.set _ _) => True
  | some (.ins _ _ _) => True
  | some (.ext _) => True
  | _ => False
section
variable {P : Program} {w : World} {H : Hp} {h h' : Heap} {x e : Addr} {o' : HO}
theorem HOk.write (ok : HOk P w H h) (mu : Mut (H x)) (he : e = x ∨ H e = some (.own x)) (k : ∀ b u, b ≠ e → h.get? b = some u → h'.get? b = some u) (heo : ∃ u, h'.get? e = some u)
    (new : ObjOk P w (upd H x o') h' x o') : HOk P w (upd H x o') h' := fun b u q => by
  have nown : ∀ c y, H c = some (.own y) → c ≠ x := fun c y r z => by subst z; rw [r] at mu; exact mu
  have ntup : ∀ c xs, H c = some (.tup xs) → c ≠ x := fun c xs r z => by subst z; rw [r] at mu; exact mu
  by_cases hb : b = x
  · subst hb; rw [upd_same] at q; cases q; exact new
  · rw [upd_ne hb] at q
    by_cases hbe : b = e
    · have q' : H b = some (.own x) := by
        rcases he with z | z
        · exact absurd (hbe.trans z) hb
        · rw [hbe]; exact z
      rw [q] at q'; cases q'
      obtain ⟨v, hv⟩ := heo
      exact ⟨v, by rw [hbe]; exact hv⟩
    · refine (ok b u q).stay (fun c v hc r => k c v ?_ r) (fun c r => by rw [upd_ne (nown c b r)]; exact r) fun c xs r => by rw [upd_ne (ntup c xs r)]; exact r
      rcases hc with rfl | hc
      · exact hbe
      · rintro rfl
        rcases he with z | z
        · exact nown c b hc z
        · rw [hc] at z; cases z; exact hb rfl
end

structure Un (fs ex : List Addr) (H H' : Hp) (h h' : Heap) : Prop where
  keep : ∀ b o, h.get? b = some o → H b = none → b ∉ fs → b ∉ ex → h'.get? b = some o
  slot : ∀ b o, h.get? b = some o → H b = none → b ∈ fs → b ∉ ex → ∃ sl, h'.get? b = some { o with slots := sl }
  free : ∀ b o, h.get? b = some o → H b = none → b ∉ ex → H' b = none
  there : ∀ b o, h.get? b = some o → b ∉ ex → ∃ o', h'.get? b = some o'
  tups : ∀ b xs, H b = some (.tup xs) → H' b = some (.tup xs)
  frzs : ∀ b o u, H b = some (.frz o u) → H' b = some (.frz o u)
  tbls : ∀ b ps, H b = some (.tbl ps) → ∃ more, H' b = some (.tbl (ps ++ more))
section
variable {fs fs' ex ex' : List Addr} {H H1 H2 : Hp} {h h1 h2 h' : Heap} {a x e : Addr} {o : HO}
theorem Un.any (u : Un fs ex H H1 h h1) {b : Addr} {ob : Obj} (q : h.get? b = some ob) (n : H b = none) (hx : b ∉ ex) : ∃ sl, h1.get? b = some { ob with slots := sl } := by
  by_cases hb : b ∈ fs
  · exact u.slot b ob q n hb hx
  · exact ⟨ob.slots, u.keep b ob q n hb hx⟩
theorem Un.trans (a : Un fs ex H H1 h h1) (b : Un fs ex H1 H2 h1 h2) : Un fs ex H H2 h h2 where
  keep := fun c ob q n hc hx => b.keep c ob (a.keep c ob q n hc hx) (a.free c ob q n hx) hc hx
  slot := fun c ob q n hc hx => by
    obtain ⟨sl, e1⟩ := a.slot c ob q n hc hx
    obtain ⟨sl', e2⟩ := b.slot c _ e1 (a.free c ob q n hx) hc hx
    exact ⟨sl', e2⟩
  free := fun c ob q n hx => by
    obtain ⟨o', e1⟩ := a.there c ob q hx
    exact b.free c o' e1 (a.free c ob q n hx) hx
  there := fun c ob q hx => by
    obtain ⟨o', e1⟩ := a.there c ob q hx
    exact b.there c o' e1 hx
  tups := fun c xs q => b.tups c xs (a.tups c xs q)
  frzs := fun c ob xs q => b.frzs c ob xs (a.frzs c ob xs q)
  tbls := fun c ps q => by
    obtain ⟨m1, e1⟩ := a.tbls c ps q
    obtain ⟨m2, e2⟩ := b.tbls c _ e1
    exact ⟨m1 ++ m2, by rw [e2, Array.append_assoc]⟩
theorem Un.kept (k : ∀ b u, h.get? b = some u → h'.get? b = some u) : Un fs ex H H h h' :=
  ⟨fun b ob q _ _ _ => k b ob q, fun b ob q _ _ _ => ⟨ob.slots, k b ob q⟩, fun _ _ _ n _ => n, fun b ob q _ => ⟨ob, k b ob q⟩, fun _ _ q => q, fun _ _ _ q => q, fun _ ps q => ⟨#[], by rw [q]; simp⟩⟩
theorem Un.refl : Un fs ex H H h h := Un.kept fun _ _ q => q
theorem Un.laid (k : ∀ b u, h.get? b = some u → h'.get? b = some u) (hp : h.objs.size ≤ a) (hn : H a = none) : Un fs ex H (upd H a o) h h' where
  keep := fun b u q _ _ _ => k b u q
  slot := fun b u q _ _ _ => ⟨u.slots, k b u q⟩
  free := fun b u q n _ => by rw [upd_ne (Nat.ne_of_lt (Nat.lt_of_lt_of_le (Heap.lt_size q) hp))]; exact n
  there := fun b u q _ => ⟨u, k b u q⟩
  tups := fun b xs q => by rw [upd_ne (ne_of_none q hn)]; exact q
  frzs := fun b u xs q => by rw [upd_ne (ne_of_none q hn)]; exact q
  tbls := fun b ps q => ⟨#[], by rw [upd_ne (ne_of_none q hn), q]; simp⟩
theorem Un.write (mu : Mut (H x)) (he : e = x ∨ H e = some (.own x)) (k : ∀ b u, b ≠ e → h.get? b = some u → h'.get? b = some u) (heo : ∃ u, h'.get? e = some u) : Un fs ex H (upd H x o) h h' := by
  have hx : ∀ b, H b = none → b ≠ x := fun b n z => by subst z; rw [n] at mu; exact mu
  have hb : ∀ b, H b = none → b ≠ e := fun b n z => by
    subst z
    rcases he with r | r
    · exact hx b n r
    · rw [n] at r; cases r
  have hm : ∀ b u, H b = some u → ¬ Mut (some u) → b ≠ x := fun b u q nm z => by subst z; rw [q] at mu; exact nm mu
  refine ⟨fun b u q n _ _ => k b u (hb b n) q, fun b u q n _ _ => ⟨u.slots, k b u (hb b n) q⟩, fun b u q n _ => by rw [upd_ne (hx b n)]; exact n, fun b u q _ => ?_,
    fun b xs q => by rw [upd_ne (hm b _ q fun z => z)]; exact q, fun b u xs q => by rw [upd_ne (hm b _ q fun z => z)]; exact q, fun b ps q => ⟨#[], by rw [upd_ne (hm b _ q fun z => z), q]; simp⟩⟩
  by_cases hbe : b = e
  · subst hbe; exact heo
  · exact ⟨u, k b u hbe q⟩
theorem Un.mono (u : Un fs ex H H1 h h1) (hs : ∀ b ∈ fs, b ∈ fs') (hx : ∀ b ∈ ex, b ∈ ex') : Un fs' ex' H H1 h h1 :=
  ⟨fun b ob q n hb he => u.keep b ob q n (fun z => hb (hs b z)) fun z => he (hx b z), fun _ _ q n _ he => u.any q n fun z => he (hx _ z), fun b ob q n he => u.free b ob q n fun z => he (hx b z), fun b ob q he => u.there b ob q fun z => he (hx b z), u.tups, u.frzs, u.tbls⟩
end

def trk (h : Heap) (H : Hp) : List Addr := (List.range h.objs.size).filter fun a => (H a).isSome
def hidT (h : Heap) (H : Hp) : Heap := PySem.W.hideAll h (trk h H)
theorem hidT_size (h : Heap) (H : Hp) : (hidT h H).objs.size = h.objs.size := PySem.W.hideAll_size _ _
theorem hidT_get {h : Heap} {H : Hp} {b : Addr} {o : Obj} (e : h.get? b = some o) (n : H b = none) : (hidT h H).get? b = some o :=
  PySem.W.hideAll_get _ e fun hm => by
    have q : (H b).isSome = true := (List.mem_filter.mp hm).2
    rw [n] at q; simp at q
theorem of_hidT {h : Heap} {H : Hp} {b : Addr} {o : Obj} (e : (hidT h H).get? b = some o) : h.get? b = some o ∧ H b = none := by
  have e' : h.get? b = some o := PySem.W.of_hideAll (trk h H) e
  refine ⟨e', ?_⟩
  cases q : H b with
  | none => rfl
  | some x =>
    have hm : b ∈ trk h H := List.mem_filter.mpr ⟨List.mem_range.mpr (Heap.lt_size e'), by simp [q]⟩
    have z : (hidT h H).get? b = none := PySem.W.hideAll_none (trk h H) hm
    rw [z] at e; cases e

def allNews (g h : Heap) (L : Addr) : List (Addr × Obj) := (List.range h.objs.size).filterMap fun a => if a = L ∨ (g.get? a).isSome = true then none else (h.get? a).map fun o => (a, o)
def rest (g h : Heap) (L d : Addr) : List (Addr × Obj) := (allNews g h L).filter fun p => decide (p.1 ≠ d)
end L2

namespace L2
open PySem PySem.Spec PyProof.Rows

structure Mod (K : PySem.W.Frag) (mg : Str → Option Value) (base : Heap) : Prop where
  kin : K.In base
  glob : base.Ns mainGlobals mg
  blt : ∃ mb, base.Ns builtinsNs mb ∧ ∀ x : Str, x ≠ "__name__" → mb x = bootBuiltins x
  nolimit : base.NoLimit

/-- the context: a def's body (or a comprehension's block) running. base: fixed through the whole law; s₀, H₀: the entry; outer: the frames whose slots others may change (a def's callers); stack: all frames that run;
   ex: iterators that were made ahead of the entry and are walked here (a comprehension's); fn: the names whose cells were made at the entry (a def: all; a comprehension's block: its own); calm: not within an except suite; pn: pins that every state bears; xe: what is wanted of an exception that leaves the code -/
structure Cx where
  prog : Program
  w : World
  K : PySem.W.Frag
  mg : Str → Option Value
  base : Heap
  A : Around
  N : List Str
  s_0 : Shared
  H_0 : Hp
  env : Env
  outer : List Env
  stack : List Env
  ex : List Addr
  fn : Str → Bool
  calm : Bool
  pn : List (Addr × Obj)
  xe : Value → Shared → Prop
def frs (l : List Env) : List Addr := l.filterMap (·.frame)
abbrev Cx.fs (X : Cx) : List Addr := frs X.outer

def Vis (sc : Scope) (x : Str) : Prop := sc.names.lookup x = some .local ∨ sc.names.lookup x = some .cell ∨ sc.names.lookup x = some .free
def Loc (sc : Scope) (x : Str) : Prop := sc.names.lookup x = some .local ∨ sc.names.lookup x = some .cell
def Look (env : Env) (h : Heap) (m : Str → Option Value) (x : Str) (u : Value) : Prop :=
  (env.kindOf x = some .local ∧ m x = some u) ∨ ((env.kindOf x = some .cell ∨ env.kindOf x = some .free) ∧ ∃ c, env.cells.lookup x = some c ∧ h.IsCell c (some u))

structure Cx.Ok (X : Cx) : Prop where
  mod : Mod X.K X.mg X.base
  kind : X.env.scope.kind = .function
  glob : X.env.globals = mainGlobals
  blt : X.env.builtins = builtinsNs
  above : X.s_0.heap.objs.size ≤ X.env.locals
  inj : ∀ x y c, X.env.cells.lookup x = some c → X.env.cells.lookup y = some c → x = y
  has : ∀ x, (X.env.kindOf x = some .cell ∨ X.env.kindOf x = some .free) → ∃ c, X.env.cells.lookup x = some c
  cab : ∀ x c, X.fn x = true → X.env.cells.lookup x = some c → X.s_0.heap.objs.size ≤ c
  hd : X.calm = true → X.A.handled = none
  frames : X.A.frames = some X.stack
  stk : X.stack = X.outer ∨ (X.stack = X.env :: X.outer ∧ X.env.frame = some X.env.locals)
  exf : ∀ b ∈ X.ex, b ≠ X.env.locals ∧ ∀ x c, X.env.cells.lookup x = some c → c ≠ b
  bs : ∀ b o, X.base.get? b = some o → X.s_0.heap.get? b = some o ∧ X.H_0 b = none
  bsz : X.base.objs.size ≤ X.s_0.heap.objs.size
  noex : ∀ b o, X.base.get? b = some o → b ∉ X.ex
  exfs : ∀ b ∈ X.ex, b ∉ X.fs
  funs : X.s_0.heap.FunFrames X.base X.outer
  frf : ∀ b ∈ X.fs, X.H_0 b = none

structure Inv (X : Cx) (pins : List (Addr × Obj)) (σ : List (Option V)) (H : Hp) (s : Shared) : Prop where
  ok : X.Ok
  os : s.os = X.s_0.os
  bare : AllBare s.gens
  base : Un X.fs X.ex X.H_0 H X.s_0.heap s.heap
  loc : ∃ m, s.heap.Ns X.env.locals m ∧ ∀ (i : Nat) (x : Str) (v : V), X.N[i]? = some x → σ[i]? = some (some v) → Vis X.env.scope x → ∃ u, RelV v u ∧ Look X.env s.heap m x u
  cell : ∀ x c, X.env.cells.lookup x = some c → ∃ v, s.heap.IsCell c v
  free : H X.env.locals = none
  freeC : ∀ x c, X.env.cells.lookup x = some c → H c = none
  pin : ∀ p ∈ X.pn ++ pins, s.heap.get? p.1 = some p.2 ∧ H p.1 = none ∧ p.1 ≠ X.env.locals ∧ p.1 ∉ X.fs ∧ ∀ v, p.2.data ≠ .cell v
  hok : HOk X.prog X.w H s.heap
  len : σ.length = X.N.length

section
variable {X : Cx} {pins : List (Addr × Obj)} {σ : List (Option V)} {H H' : Hp} {s : Shared} {h' : Heap}

theorem Cx.Ok.nofr (ok : X.Ok) {b : Addr} {o : Obj} (e : X.base.get? b = some o) : b ∉ X.fs := fun hb => by
  have := (ok.funs.mem hb).1
  rw [e] at this; cases this
theorem Inv.bs (I : Inv X pins σ H s) : ∀ b o, X.base.get? b = some o → s.heap.get? b = some o ∧ H b = none := fun b o e =>
  ⟨I.base.keep b o (I.ok.bs b o e).1 (I.ok.bs b o e).2 (I.ok.nofr e) (I.ok.noex b o e), I.base.free b o (I.ok.bs b o e).1 (I.ok.bs b o e).2 (I.ok.noex b o e)⟩
theorem Inv.bk (I : Inv X pins σ H s) : ∀ b o, X.base.get? b = some o → s.heap.get? b = some o := fun b o e => (I.bs b o e).1
theorem Inv.mod (I : Inv X pins σ H s) : Mod X.K X.mg X.base := I.ok.mod
theorem Inv.kIn (I : Inv X pins σ H s) : X.K.In s.heap := I.ok.mod.kin.keeps I.bk
theorem Inv.nolimit (I : Inv X pins σ H s) : s.heap.NoLimit := I.ok.mod.nolimit.keeps I.bk
theorem Inv.fr (I : Inv X pins σ H s) : ∃ m, Fr X.base X.env.locals s.heap m :=
  let ⟨m, hn, _⟩ := I.loc
  ⟨m, hn, I.bk, Nat.le_trans I.ok.bsz I.ok.above⟩
theorem Inv.lt (I : Inv X pins σ H s) : X.env.locals < s.heap.objs.size := let ⟨_, hn, _⟩ := I.loc; hn.lt
theorem Inv.sz (I : Inv X pins σ H s) : X.s_0.heap.objs.size ≤ s.heap.objs.size := Nat.le_trans I.ok.above (Nat.le_of_lt I.lt)
theorem Inv.nofs (I : Inv X pins σ H s) {a : Addr} (h : s.heap.objs.size ≤ a) : a ∉ X.fs := fun hb => by
  obtain ⟨_, o, ho, _⟩ := I.ok.funs.mem hb
  exact absurd (Nat.lt_of_lt_of_le (Heap.lt_size ho) (Nat.le_trans I.sz h)) (Nat.lt_irrefl _)
theorem Inv.cne (I : Inv X pins σ H s) : ∀ x c, X.env.cells.lookup x = some c → c ≠ X.env.locals := fun x c e z => by
  obtain ⟨v, o, ho, hd⟩ := I.cell x c e
  obtain ⟨m, ⟨o', es, ep, ho', hd', _⟩, _⟩ := I.loc
  rw [z, ho'] at ho; cases ho; rw [hd'] at hd; cases hd
theorem Inv.funs (I : Inv X pins σ H s) : s.heap.FunFrames X.base X.outer := by
  have all : ∀ (l : List Env), (∀ b ∈ frs l, b ∈ X.fs) → X.s_0.heap.FunFrames X.base l → s.heap.FunFrames X.base l := by
    intro l
    induction l with
    | nil => intro _ _; trivial
    | cons env r ih =>
      intro hs hl
      obtain ⟨hk, ⟨L, o, hf, hn, ho, hd⟩, hr⟩ := hl
      have hL : L ∈ X.fs := hs L (by unfold frs; rw [List.filterMap_cons, hf]; exact List.mem_cons_self)
      obtain ⟨sl, e⟩ := I.base.slot L o ho (I.ok.frf L hL) hL fun z => I.ok.exfs L z hL
      exact ⟨hk, ⟨L, _, hf, hn, e, hd⟩, ih (fun b hb => hs b (by unfold frs; rw [List.filterMap_cons, hf]; exact List.mem_cons_of_mem _ hb)) hr⟩
  exact all X.outer (fun _ hb => hb) I.ok.funs

theorem Inv.stack (I : Inv X pins σ H s) : s.heap.FunFrames X.base X.stack := by
  rcases I.ok.stk with e | ⟨e, hf⟩
  · rw [e]; exact I.funs
  · rw [e]
    obtain ⟨m, hn, _⟩ := I.loc
    refine .cons (by rw [I.ok.kind]; decide) hf hn ?_ I.funs
    exact Heap.get?_none_of_le (Nat.le_trans I.ok.bsz I.ok.above)
theorem Inv.stkSub (I : Inv X pins σ H s) : ∀ b ∈ frs X.stack, b ∈ X.env.locals :: X.fs := fun b hb => by
  rcases I.ok.stk with e | ⟨e, hf⟩
  · rw [e] at hb; exact List.mem_cons_of_mem _ hb
  · rw [e] at hb
    unfold frs at hb
    rw [List.filterMap_cons, hf] at hb
    exact hb
theorem Inv.stkFree (I : Inv X pins σ H s) : ∀ b ∈ frs X.stack, H b = none := fun b hb => by
  rcases List.mem_cons.mp (I.stkSub b hb) with e | hb
  · rw [e]; exact I.free
  · obtain ⟨_, o, ho, _⟩ := I.ok.funs.mem hb
    exact I.base.free b o ho (I.ok.frf b hb) fun z => I.ok.exfs b z hb

theorem Inv.step {g' : Array GenState} {t' : Nat} {d' : Drawn} {ch : List Addr} (I : Inv X pins σ H s)
    (hch : ∀ b ∈ ch, (b ∈ X.ex ∨ X.s_0.heap.objs.size ≤ b) ∧ b ≠ X.env.locals ∧ (∀ x c, X.env.cells.lookup x = some c → c ≠ b) ∧ ∀ p ∈ X.pn ++ pins, p.1 ≠ b)
    (keep : ∀ b o, b ≠ X.env.locals → b ∉ X.fs → b ∉ ch → s.heap.get? b = some o → H b = none → h'.get? b = some o)
    (slot : ∀ b o, b ≠ X.env.locals → b ∈ X.fs → b ∉ ch → s.heap.get? b = some o → H b = none → ∃ sl, h'.get? b = some { o with slots := sl }) (free : ∀ b o, b ∉ ch → s.heap.get? b = some o → H b = none → H' b = none)
    (there : ∀ b o, b ∉ ch → s.heap.get? b = some o → ∃ o', h'.get? b = some o')
    (tups : ∀ b xs, H b = some (.tup xs) → H' b = some (.tup xs)) (frzs : ∀ b o u, H b = some (.frz o u) → H' b = some (.frz o u)) (tbls : ∀ b ps, H b = some (.tbl ps) → ∃ more, H' b = some (.tbl (ps ++ more)))
    (ns : ∀ m, s.heap.Ns X.env.locals m → h'.Ns X.env.locals m) (hok : HOk X.prog X.w H' h') (hg : AllBare g') :
    Inv X pins σ H' { s with heap := h', gens := g', drawn := d', toks := t' } := by
  have neL : ∀ b o, X.s_0.heap.get? b = some o → b ≠ X.env.locals := fun b o e => Nat.ne_of_lt (Nat.lt_of_lt_of_le (Heap.lt_size e) I.ok.above)
  have neC : ∀ b o, X.s_0.heap.get? b = some o → b ∉ X.ex → b ∉ ch := fun b o e hx hb => by
    rcases (hch b hb).1 with z | z
    · exact hx z
    · exact absurd (Nat.lt_of_lt_of_le (Heap.lt_size e) z) (Nat.lt_irrefl _)
  have cellK : ∀ x c, X.env.cells.lookup x = some c → ∀ v, s.heap.IsCell c v → h'.IsCell c v := fun x c e v ⟨o, ho, hd⟩ => by
    have nch : c ∉ ch := fun z => (hch c z).2.2.1 x c e rfl
    by_cases hc : c ∈ X.fs
    · obtain ⟨sl, q⟩ := slot c o (I.cne x c e) hc nch ho (I.freeC x c e)
      exact ⟨_, q, hd⟩
    · exact ⟨o, keep c o (I.cne x c e) hc nch ho (I.freeC x c e), hd⟩
  refine ⟨I.ok, I.os, hg, ⟨fun b o e n hb hx => ?_, fun b o e n hb hx => ?_, fun b o e n hx => ?_, fun b o e hx => ?_, fun b xs e => tups b xs (I.base.tups b xs e), fun b o xs e => frzs b o xs (I.base.frzs b o xs e), fun b ps e => ?_⟩, ?_, fun x c e => ?_, ?_, fun x c e => ?_, fun p hp => ?_, hok, I.len⟩
  · exact keep b o (neL b o e) hb (neC b o e hx) (I.base.keep b o e n hb hx) (I.base.free b o e n hx)
  · obtain ⟨sl, e1⟩ := I.base.slot b o e n hb hx
    obtain ⟨sl', e2⟩ := slot b _ (neL b o e) hb (neC b o e hx) e1 (I.base.free b o e n hx)
    exact ⟨sl', e2⟩
  · obtain ⟨o', e1⟩ := I.base.there b o e hx
    exact free b o' (neC b o e hx) e1 (I.base.free b o e n hx)
  · obtain ⟨o', e1⟩ := I.base.there b o e hx
    exact there b o' (neC b o e hx) e1
  · obtain ⟨m1, e1⟩ := I.base.tbls b ps e
    obtain ⟨m2, e2⟩ := tbls b _ e1
    exact ⟨m1 ++ m2, by rw [e2, Array.append_assoc]⟩
  · obtain ⟨m, hn, hl⟩ := I.loc
    refine ⟨m, ns m hn, fun i x v e1 e2 e3 => ?_⟩
    obtain ⟨u, r, l⟩ := hl i x v e1 e2 e3
    refine ⟨u, r, ?_⟩
    rcases l with l | ⟨k, c, e, z⟩
    · exact .inl l
    · exact .inr ⟨k, c, e, cellK x c e _ z⟩
  · obtain ⟨v, z⟩ := I.cell x c e
    exact ⟨v, cellK x c e v z⟩
  · obtain ⟨m, ⟨o, _, _, ho, _⟩, _⟩ := I.loc
    exact free _ o (fun z => (hch _ z).2.1 rfl) ho I.free
  · obtain ⟨v, o, ho, hd⟩ := I.cell x c e
    exact free c o (fun z => (hch c z).2.2.1 x c e rfl) ho (I.freeC x c e)
  · obtain ⟨e, n, ne, nf, d⟩ := I.pin p hp
    have nch : p.1 ∉ ch := fun z => (hch p.1 z).2.2.2 p hp rfl
    exact ⟨keep p.1 p.2 ne nf nch e n, free p.1 p.2 nch e n, ne, nf, d⟩
theorem Inv.un {t' : Nat} (I : Inv X pins σ H s) (u : Un X.fs [] H H' s.heap h') (hok : HOk X.prog X.w H' h') : Inv X pins σ H' { s with heap := h', toks := t' } := by
  obtain ⟨m, ⟨o, es, ep, ho, r⟩, _⟩ := id I.loc
  obtain ⟨sl, hL⟩ := u.any ho I.free (by simp)
  exact I.step (g' := s.gens) (d' := s.drawn) (ch := []) (fun _ z => nomatch z) (fun b o _ hb _ e n => u.keep b o e n hb (by simp)) (fun b o _ hb _ e n => u.slot b o e n hb (by simp)) (fun b o _ e n => u.free b o e n (by simp)) (fun b o _ e => u.there b o e (by simp)) u.tups u.frzs u.tbls (fun m' hm => by
    obtain ⟨o', es', ep', ho', r'⟩ := hm
    rw [ho] at ho'; cases ho'
    exact ⟨_, es', ep', hL, r'⟩) hok I.bare
theorem Inv.call {g' : Array GenState} {t' : Nat} {d' : Drawn} {ch : List Addr} (I : Inv X pins σ H s) (u : Un (frs X.stack) ch H H' s.heap h') (hok : HOk X.prog X.w H' h') (hg : AllBare g')
    (hch : ∀ b ∈ ch, (b ∈ X.ex ∨ X.s_0.heap.objs.size ≤ b) ∧ b ≠ X.env.locals ∧ (∀ x c, X.env.cells.lookup x = some c → c ≠ b) ∧ ∀ p ∈ X.pn ++ pins, p.1 ≠ b) :
    Inv X pins σ H' { s with heap := h', gens := g', drawn := d', toks := t' } := by
  obtain ⟨m, ⟨o, es, ep, ho, r⟩, _⟩ := id I.loc
  obtain ⟨sl, hL⟩ := u.any ho I.free fun z => (hch _ z).2.1 rfl
  exact I.step (ch := ch) hch (fun b o hL hb hc e n => u.keep b o e n (fun z => (List.mem_cons.mp (I.stkSub b z)).elim hL hb) hc) (fun b o _ _ hc e n => u.any e n hc) (fun b o hc e n => u.free b o e n hc) (fun b o hc e => u.there b o e hc) u.tups u.frzs u.tbls (fun m' hm => by
    obtain ⟨o', es', ep', ho', r'⟩ := hm
    rw [ho] at ho'; cases ho'
    exact ⟨_, es', ep', hL, r'⟩) hok hg
theorem Inv.turned {t' : Nat} {it : Addr} (I : Inv X pins σ H s) (k : ∀ b o, b ≠ it → s.heap.get? b = some o → h'.get? b = some o) (hn : H it = none) (hL : it ≠ X.env.locals)
    (h1 : it ∈ X.ex ∨ X.s_0.heap.objs.size ≤ it) (h2 : ∀ x c, X.env.cells.lookup x = some c → c ≠ it) (h3 : ∀ p ∈ X.pn ++ pins, p.1 ≠ it) : Inv X pins σ H { s with heap := h', toks := t' } := by
  have nit : ∀ b u, H b = some u → b ≠ it := fun b u e z => by rw [z, hn] at e; cases e
  refine I.step (g' := s.gens) (d' := s.drawn) (ch := [it]) (fun b hb => ?_) (fun b o _ _ hc e _ => k b o (fun z => hc (by simp [z])) e) (fun b o _ _ hc e _ => ⟨o.slots, k b o (fun z => hc (by simp [z])) e⟩) (fun _ _ _ _ n => n)
    (fun b o hc e => ⟨o, k b o (fun z => hc (by simp [z])) e⟩) (fun _ _ e => e) (fun _ _ _ e => e) (fun b ps e => ⟨#[], by rw [e]; simp⟩) (fun m hm => ?_) (fun b u e => ?_) I.bare
  · have e : b = it := by simpa using hb
    subst e
    exact ⟨h1, hL, h2, h3⟩
  · obtain ⟨o, es, ep, ho, r⟩ := hm
    exact ⟨o, es, ep, k _ o (Ne.symm hL) ho, r⟩
  · refine (I.hok b u e).stay (fun c v hc q => k c v ?_ q) (fun _ q => q) fun _ _ q => q
    rcases hc with z | z
    · rw [z]; exact nit b u e
    · exact nit c _ z
theorem Inv.tok (I : Inv X pins σ H s) (t : Nat) : Inv X pins σ H { s with toks := t } := I.un (h' := s.heap) (t' := t) Un.refl I.hok
theorem Inv.kept {t' : Nat} (I : Inv X pins σ H s) (k : ∀ b u, s.heap.get? b = some u → h'.get? b = some u) : Inv X pins σ H { s with heap := h', toks := t' } := I.un (Un.kept k) (I.hok.kept k)
theorem Inv.laid {a : Addr} {o : HO} {t' : Nat} (I : Inv X pins σ H s) (k : ∀ b u, s.heap.get? b = some u → h'.get? b = some u) (hp : s.heap.objs.size ≤ a) (new : ObjOk X.prog X.w (upd H a o) h' a o) :
    Inv X pins σ (upd H a o) { s with heap := h', toks := t' } := I.un (Un.laid k hp (I.hok.fresh hp)) (I.hok.laid k hp new)
theorem Inv.write {x e : Addr} {o : HO} {t' : Nat} (I : Inv X pins σ H s) (mu : Mut (H x)) (he : e = x ∨ H e = some (.own x)) (k : ∀ b u, b ≠ e → s.heap.get? b = some u → h'.get? b = some u) (heo : ∃ u, h'.get? e = some u)
    (new : ObjOk X.prog X.w (upd H x o) h' x o) : Inv X pins σ (upd H x o) { s with heap := h', toks := t' } := I.un (Un.write mu he k heo) (I.hok.write mu he k heo new)
theorem Inv.weak {σ' : List (Option V)} (I : Inv X pins σ H s) (hl : σ'.length = σ.length) (w : ∀ (i : Nat) v, σ'[i]? = some (some v) → σ[i]? = some (some v)) : Inv X pins σ' H s :=
  ⟨I.ok, I.os, I.bare, I.base, let ⟨m, hn, hl'⟩ := I.loc; ⟨m, hn, fun i x v e1 e2 e3 => hl' i x v e1 (w i v e2) e3⟩, I.cell, I.free, I.freeC, I.pin, I.hok, hl.trans I.len⟩
theorem Inv.pins_of {pins' : List (Addr × Obj)} (I : Inv X pins σ H s) (h : ∀ p ∈ pins', s.heap.get? p.1 = some p.2 ∧ H p.1 = none ∧ p.1 ≠ X.env.locals ∧ p.1 ∉ X.fs ∧ ∀ v, p.2.data ≠ .cell v) : Inv X pins' σ H s :=
  ⟨I.ok, I.os, I.bare, I.base, I.loc, I.cell, I.free, I.freeC, fun p hp => (List.mem_append.mp hp).elim (fun z => I.pin p (List.mem_append_left _ z)) (h p), I.hok, I.len⟩

theorem nodup_ix {N : List Str} (hN : N.Nodup) {i j : Nat} {x : Str} (a : N[i]? = some x) (b : N[j]? = some x) : i = j := by
  obtain ⟨h1, e1⟩ := List.getElem?_eq_some_iff.mp a
  obtain ⟨h2, e2⟩ := List.getElem?_eq_some_iff.mp b
  exact (List.getElem_inj hN).mp (e1.trans e2.symm)

theorem store_ok2 {M : Model} {A : Around} {E : Value → Shared → Prop} {i : Nat} {x : Str} {v : V} {u : Value} {Q : Unit → Shared → Prop} (I : Inv X pins σ H s) (hN : X.N.Nodup) (hi : X.N[i]? = some x) (hx : Loc X.env.scope x) (r : RelV v u)
    (h : ∀ s', Inv X pins (σ.set i (some v)) H s' → (∃ a, Heap.SameBut a s.heap s'.heap ∧ (a = X.env.locals ∨ X.env.cells.lookup x = some a)) → Q () s') (hf : X.fn x = true ∨ X.env.scope.names.lookup x = some .local := by first | exact .inl rfl | exact .inr rfl | assumption) : wpAny M A (storeName X.env x u) Q E s := by
  obtain ⟨m, hn, hl⟩ := id I.loc
  have hcls : (X.env.scope.kind == .class || (X.env.scope.kind == .module && X.env.locals != X.env.globals)) = false := by rw [I.ok.kind]; rfl
  have hiσ : i < σ.length := by rw [I.len]; exact (List.getElem?_eq_some_iff.mp hi).1
  have cne := I.cne
  have tracked : ∀ {a : Addr} {h' : Heap}, (∃ o, s.heap.get? a = some o ∧ H a = none) → Heap.SameBut a s.heap h' → HOk X.prog X.w H h' := fun {a h'} ha hs b ob e => by
    obtain ⟨_, _, hfree⟩ := ha
    refine (I.hok b ob e).stay (fun c w' hc q => (hs.2 c ?_).trans q) (fun _ q => q) fun _ _ q => q
    rintro rfl
    rcases hc with rfl | hc
    · rw [hfree] at e; cases e
    · rw [hfree] at hc; cases hc
  rcases hx with hk | hk
  · refine wpAny_storeName_local hk hn (fun h' hn' hs => ?_) hcls
    obtain ⟨oL, _, _, hoL, _⟩ := id hn
    refine h _ ⟨I.ok, I.os, I.bare, ⟨fun b o e n hb hx => ?_, fun b o e n hb hx => ?_, I.base.free, fun b o e hx => ?_, I.base.tups, I.base.frzs, I.base.tbls⟩, ⟨_, hn', fun j y v' e1 e2 e3 => ?_⟩, fun y c e => ?_, I.free, I.freeC, fun p hp => ?_, tracked ⟨oL, hoL, I.free⟩ hs, by simpa using I.len⟩ ⟨_, hs, .inl rfl⟩
    · exact (hs.2 b (Nat.ne_of_lt (Nat.lt_of_lt_of_le (Heap.lt_size e) I.ok.above))).trans (I.base.keep b o e n hb hx)
    · obtain ⟨sl, e1⟩ := I.base.slot b o e n hb hx
      exact ⟨sl, (hs.2 b (Nat.ne_of_lt (Nat.lt_of_lt_of_le (Heap.lt_size e) I.ok.above))).trans e1⟩
    · obtain ⟨o', e1⟩ := I.base.there b o e hx
      exact ⟨o', (hs.2 b (Nat.ne_of_lt (Nat.lt_of_lt_of_le (Heap.lt_size e) I.ok.above))).trans e1⟩
    · by_cases hj : j = i
      · subst hj
        rw [hi] at e1; cases e1
        rw [List.getElem?_set_self hiσ] at e2
        cases e2
        exact ⟨u, r, .inl ⟨hk, by simp⟩⟩
      · rw [List.getElem?_set_ne (Ne.symm hj)] at e2
        obtain ⟨u', r', q⟩ := hl j y v' e1 e2 e3
        refine ⟨u', r', ?_⟩
        rcases q with ⟨k, e⟩ | ⟨k, c, e, z⟩
        · refine .inl ⟨k, ?_⟩
          have : y ≠ x := fun e => hj (nodup_ix hN e1 (e ▸ hi))
          simp [this, e]
        · exact .inr ⟨k, c, e, z.sameBut hs (cne y c e)⟩
    · obtain ⟨w', z⟩ := I.cell y c e
      exact ⟨w', z.sameBut hs (cne y c e)⟩
    · obtain ⟨e, n, ne, nf, d⟩ := I.pin p hp
      exact ⟨(hs.2 p.1 ne).trans e, n, ne, nf, d⟩
  · have hfn : X.fn x = true := by
      rcases hf with z | z
      · exact z
      · rw [z] at hk; cases hk
    obtain ⟨c, hc⟩ := I.ok.has x (.inl hk)
    obtain ⟨w', z⟩ := I.cell x c hc
    refine wpAny_storeName_cell I.ok.kind hk hc z (fun h' hc' hs => ?_)
    obtain ⟨oc, hoc, hocd⟩ := id z
    refine h { s with heap := h' } ⟨I.ok, I.os, I.bare, ⟨fun b o e n hb hx => ?_, fun b o e n hb hx => ?_, I.base.free, fun b o e hx => ?_, I.base.tups, I.base.frzs, I.base.tbls⟩, ⟨m, hn.sameBut hs (Ne.symm (cne x c hc)), fun j y v' e1 e2 e3 => ?_⟩, fun y c' e => ?_, I.free, I.freeC, fun p hp => ?_, tracked ⟨oc, hoc, I.freeC x c hc⟩ hs, by simpa using I.len⟩ ⟨c, hs, .inr hc⟩
    · exact (hs.2 b (Nat.ne_of_lt (Nat.lt_of_lt_of_le (Heap.lt_size e) (I.ok.cab x c hfn hc)))).trans (I.base.keep b o e n hb hx)
    · obtain ⟨sl, e1⟩ := I.base.slot b o e n hb hx
      exact ⟨sl, (hs.2 b (Nat.ne_of_lt (Nat.lt_of_lt_of_le (Heap.lt_size e) (I.ok.cab x c hfn hc)))).trans e1⟩
    · obtain ⟨o', e1⟩ := I.base.there b o e hx
      exact ⟨o', (hs.2 b (Nat.ne_of_lt (Nat.lt_of_lt_of_le (Heap.lt_size e) (I.ok.cab x c hfn hc)))).trans e1⟩
    · by_cases hj : j = i
      · subst hj
        rw [hi] at e1; cases e1
        rw [List.getElem?_set_self hiσ] at e2
        cases e2
        exact ⟨u, r, .inr ⟨.inl hk, c, hc, hc'⟩⟩
      · rw [List.getElem?_set_ne (Ne.symm hj)] at e2
        obtain ⟨u', r', q⟩ := hl j y v' e1 e2 e3
        refine ⟨u', r', ?_⟩
        rcases q with q | ⟨k, c', e, z'⟩
        · exact .inl q
        · refine .inr ⟨k, c', e, z'.sameBut hs ?_⟩
          rintro rfl
          exact hj (nodup_ix hN e1 (I.ok.inj _ _ _ e hc ▸ hi))
    · by_cases hcc : c' = c
      · subst hcc; exact ⟨_, hc'⟩
      · obtain ⟨w2, z2⟩ := I.cell y c' e
        exact ⟨w2, z2.sameBut hs hcc⟩
    · obtain ⟨e, n, ne, nf, d⟩ := I.pin p hp
      refine ⟨(hs.2 p.1 ?_).trans e, n, ne, nf, d⟩
      intro q
      rw [q, hoc] at e
      have q' : oc = p.2 := Option.some.inj e
      exact d w' (by rw [← q']; exact hocd)
theorem store_ok {M : Model} {A : Around} {E : Value → Shared → Prop} {i : Nat} {x : Str} {v : V} {u : Value} {Q : Unit → Shared → Prop} (I : Inv X pins σ H s) (hN : X.N.Nodup) (hi : X.N[i]? = some x) (hx : Loc X.env.scope x) (r : RelV v u)
    (h : ∀ s', Inv X pins (σ.set i (some v)) H s' → Q () s') (hf : X.fn x = true ∨ X.env.scope.names.lookup x = some .local := by first | exact .inl rfl | exact .inr rfl | assumption) : wpAny M A (storeName X.env x u) Q E s :=
  store_ok2 I hN hi hx r (fun s' I' _ => h s' I') hf
theorem Inv.call' {s' : Shared} {ch : List Addr} (I : Inv X pins σ H s) (ho : s'.os = s.os) (u : Un (frs X.stack) ch H H' s.heap s'.heap) (hok : HOk X.prog X.w H' s'.heap) (hg : AllBare s'.gens)
    (hch : ∀ b ∈ ch, (b ∈ X.ex ∨ X.s_0.heap.objs.size ≤ b) ∧ b ≠ X.env.locals ∧ (∀ x c, X.env.cells.lookup x = some c → c ≠ b) ∧ ∀ p ∈ X.pn ++ pins, p.1 ≠ b) : Inv X pins σ H' s' := by
  obtain ⟨h', g', d', t', o'⟩ := s'
  have e : o' = s.os := ho
  subst e
  exact I.call (g' := g') (t' := t') (d' := d') u hok hg hch
end

abbrev XK := Value → Option Addr → Hp → Prop
abbrev St := List (Option V)
abbrev VK := V → Hp → Prop
abbrev TE := St → Hp → VK → Prop
abbrev TT := St → Hp → (Bool → Hp → Prop) → Prop
abbrev TA := St → Hp → (List V → Hp → Prop) → Prop
structure Ends where
  nx : St → Hp → Prop
  rt : VK
  bk : St → Hp → Prop := fun _ _ => False
  ct : St → Hp → Prop := fun _ _ => False
abbrev TS := Ends → St → Hp → Prop

def EP (X : Cx) (pins : List (Addr × Obj)) (σ : St) (Q : VK) (u : Value) (s' : Shared) : Prop := ∃ v H', Inv X pins σ H' s' ∧ RelV v u ∧ Q v H'
def TP (X : Cx) (pins : List (Addr × Obj)) (σ : St) (Q : Bool → Hp → Prop) (b : Bool) (s' : Shared) : Prop := ∃ H', Inv X pins σ H' s' ∧ Q b H'
def AP (X : Cx) (pins : List (Addr × Obj)) (σ : St) (Q : List V → Hp → Prop) (us : List Value) (s' : Shared) : Prop := ∃ vs H', Inv X pins σ H' s' ∧ Vals vs us ∧ Q vs H'
def SP (X : Cx) (pins : List (Addr × Obj)) (D : Ends) (f : Flow) (s' : Shared) : Prop :=
  match f with
  | .next => ∃ σ' H', Inv X pins σ' H' s' ∧ D.nx σ' H'
  | .brk => ∃ σ' H', Inv X pins σ' H' s' ∧ D.bk σ' H'
  | .cont => ∃ σ' H', Inv X pins σ' H' s' ∧ D.ct σ' H'
  | .ret u => ∃ v σ' H', Inv X pins σ' H' s' ∧ RelV v u ∧ D.rt v H'

def PE (X : Cx) (e : Expr) (t : TE) : Prop :=
  ∀ (pins : List (Addr × Obj)) (s : Shared) (σ : St) (H : Hp) (Q : VK), Inv X pins σ H s → t σ H Q → wpAny (model X.prog X.w) X.A (eval e X.env) (EP X pins σ Q) X.xe s
def PT (X : Cx) (e : Expr) (t : TT) : Prop :=
  ∀ (pins : List (Addr × Obj)) (s : Shared) (σ : St) (H : Hp) (Q : Bool → Hp → Prop), Inv X pins σ H s → t σ H Q → wpAny (model X.prog X.w) X.A (isTrue e X.env (eval e X.env)) (TP X pins σ Q) X.xe s
def PW (X : Cx) (e : Expr) (t : TT) : Prop :=
  ∀ (whole : Sem Value) (pins : List (Addr × Obj)) (s : Shared) (σ : St) (H : Hp) (Q : Bool → Hp → Prop), Inv X pins σ H s → t σ H Q → wpAny (model X.prog X.w) X.A (isTrue e X.env whole) (TP X pins σ Q) X.xe s
theorem PW.pt {X : Cx} {e : Expr} {t : TT} (h : PW X e t) : PT X e t := h _
def PA (X : Cx) (es : List Expr) (t : TA) : Prop :=
  ∀ (pos : Pos) (pins : List (Addr × Obj)) (s : Shared) (σ : St) (H : Hp) (Q : List V → Hp → Prop), Inv X pins σ H s → t σ H Q → wpAny (model X.prog X.w) X.A (spliced (backTo pos (starEach es X.env))) (AP X pins σ Q) X.xe s
def PS (X : Cx) (st : Stmt) (t : TS) : Prop :=
  ∀ (pins : List (Addr × Obj)) (s : Shared) (σ : St) (H : Hp) (D : Ends), Inv X pins σ H s → t D σ H → wpAny (model X.prog X.w) X.A (exec st X.env) (SP X pins D) X.xe s
def PSs (X : Cx) (st : List Stmt) (t : TS) : Prop :=
  ∀ (pins : List (Addr × Obj)) (s : Shared) (σ : St) (H : Hp) (D : Ends), Inv X pins σ H s → t D σ H → wpAny (model X.prog X.w) X.A (execs st X.env) (SP X pins D) X.xe s
theorem thn {α : Type} {t : Sem α} {Q Q' : α → Shared → Prop} {M : Model} {A : Around} {E : Value → Shared → Prop} {s : Shared} (h : wpAny M A t Q E s) (hQ : ∀ a s, Q a s → Q' a s) : wpAny M A t Q' E s := wpAny_mono h hQ fun _ _ x => x
end L2

namespace L2
open PySem PySem.Spec PyProof.Rows
section
variable {X : Cx}


def tVar (i : Nat) : TE := fun σ H Q => ∃ v, σ[i]? = some (some v) ∧ Q v H
def tC (v : V) : TE := fun _ H Q => Q v H
theorem pe_var {i : Nat} {x : Str} {pos : Pos} (hN : X.N[i]? = some x) (hv : Vis X.env.scope x) (hd : (x == ("__debug__" : Str)) = false := by decide) (hcd : (x == ("__classdict__" : Str)) = false := by decide) : PE X (.Name x pos) (tVar i) := by
  intro pins s σ H Q I h
  obtain ⟨v, e, h⟩ := h
  obtain ⟨m, hn, hl⟩ := I.loc
  obtain ⟨u, r, l⟩ := hl i x v hN e hv
  have fin : EP X pins σ Q u s := ⟨v, H, I, r, h⟩
  rcases l with ⟨hk, hm⟩ | ⟨hk, c, hc, hcell⟩
  · exact wpAny_Name (wpAny_loadName_local I.ok.kind hk hn hm fin) hd
  · rcases hk with hk | hk
    · exact wpAny_Name (wpAny_loadName_cell I.ok.kind hk hc hcell fin) hd
    · exact wpAny_Name (wpAny_loadName_free I.ok.kind hk hc hcell fin hcd) hd
theorem pe_int {i j pos} : PE X (.Constant (.int i) j pos) (tC (.int i)) := fun _ _ _ H _ I h => wpAny_Constant_int ⟨.int i, H, I.tok _, ⟨_, rfl⟩, h⟩
theorem pe_non {j pos} : PE X (.Constant .none j pos) (tC .non) := fun _ _ _ H _ I h => Constant_none ⟨.non, H, I, rfl, h⟩

def Gl (X : Cx) (x : Str) : Prop := X.env.kindOf x = some .globalImplicit
theorem ld_glob {E : Value → Shared → Prop} {pins : List (Addr × Obj)} {s : Shared} {σ : St} {H : Hp} {x : Str} {u : Value} {pos : Pos} {Q : Value → Shared → Prop} (I : Inv X pins σ H s) (hg : Gl X x) (hm : X.mg x = some u) (h : Q u s)
    (hd : (x == ("__debug__" : Str)) = false := by decide) : wpAny (model X.prog X.w) X.A (eval (.Name x pos) X.env) Q E s :=
  Calls.Name_function_global I.ok.kind hg (Calls.loadGlobal_global (by rw [I.ok.glob]; exact I.mod.glob.keeps I.bk) hm h) hd
theorem ld_blt {E : Value → Shared → Prop} {pins : List (Addr × Obj)} {s : Shared} {σ : St} {H : Hp} {x : Str} {u : Value} {pos : Pos} {Q : Value → Shared → Prop} (I : Inv X pins σ H s) (hg : Gl X x) (hm : X.mg x = none) (hv : bootBuiltins x = some u) (h : Q u s)
    (hn : x ≠ "__name__" := by decide) (hd : (x == ("__debug__" : Str)) = false := by decide) : wpAny (model X.prog X.w) X.A (eval (.Name x pos) X.env) Q E s := by
  obtain ⟨mb, h1, h2⟩ := I.mod.blt
  exact Calls.Name_function_global I.ok.kind hg (Calls.loadGlobal_builtin (by rw [I.ok.glob]; exact I.mod.glob.keeps I.bk) hm (by rw [I.ok.blt]; exact h1.keeps I.bk) ((h2 x hn).trans hv) h) hd
theorem pe_glob {x : Str} {v : V} {u : Value} {pos : Pos} (hg : Gl X x) (hm : X.mg x = some u) (r : RelV v u) (hd : (x == ("__debug__" : Str)) = false := by decide) : PE X (.Name x pos) (tC v) :=
  fun _ _ _ H _ I h => ld_glob I hg hm ⟨v, H, I, r, h⟩ hd

variable {a b : Expr} {ta tb : TE} {pos : Pos}

def tB (t : TE) : TT := fun σ H Q => t σ H fun x H1 => ∃ c, x = .bl c ∧ Q c H1
theorem pt_val {e : Expr} {t : TE} (h : PE X e t) (he : ∀ whole, isTrue e X.env whole = (do let v ← whole; standAt e.pos; holding [v] (truthy v)) := by intro _; rfl) : PT X e (tB t) := by
  intro pins s σ H Q I hw
  refine isTrue_plain (thn (h pins s σ H _ I hw) fun v s1 ⟨x, H1, I1, r1, q1⟩ => ?_) (he _)
  obtain ⟨d, rfl, q⟩ := q1
  cases r1
  exact wpAny_truthy_bool ⟨H1, I1, q⟩

variable {tA tB' : TT} {rest : List Expr}
def tAnd (t u : TT) : TT := fun σ H Q => t σ H fun c H1 => if c = true then u σ H1 Q else Q false H1
def tOr (t u : TT) : TT := fun σ H Q => t σ H fun c H1 => if c = true then Q true H1 else u σ H1 Q
def tNot (t : TT) : TT := fun σ H Q => t σ H fun c H1 => Q (!c) H1
theorem pw_and1 (ha : PT X a tA) : PW X (.BoolOp .And [a] pos) tA := by
  intro wh pins s σ H Q I h
  refine isTrue_and (thn (ha pins s σ H Q I h) fun c s1 e => ?_)
  cases c with
  | true => exact isTrue_and_nil e
  | false => exact e
theorem pw_or1 (ha : PT X a tA) : PW X (.BoolOp .Or [a] pos) tA := by
  intro wh pins s σ H Q I h
  refine isTrue_or (thn (ha pins s σ H Q I h) fun c s1 e => ?_)
  cases c with
  | false => exact isTrue_or_nil e
  | true => exact e
theorem pw_and (ha : PT X a tA) (hb : PW X (.BoolOp .And (b :: rest) pos) tB') : PW X (.BoolOp .And (a :: b :: rest) pos) (tAnd tA tB') := by
  intro wh pins s σ H Q I h
  refine isTrue_and (thn (ha pins s σ H _ I h) fun c s1 ⟨H1, I1, q1⟩ => ?_)
  cases c with
  | true => exact hb wh pins s1 σ H1 Q I1 q1
  | false => exact ⟨H1, I1, q1⟩
theorem pw_or (ha : PT X a tA) (hb : PW X (.BoolOp .Or (b :: rest) pos) tB') : PW X (.BoolOp .Or (a :: b :: rest) pos) (tOr tA tB') := by
  intro wh pins s σ H Q I h
  refine isTrue_or (thn (ha pins s σ H _ I h) fun c s1 ⟨H1, I1, q1⟩ => ?_)
  cases c with
  | true => exact ⟨H1, I1, q1⟩
  | false => exact hb wh pins s1 σ H1 Q I1 q1
theorem pt_not (ha : PT X a tA) : PT X (.UnaryOp .Not a pos) (tNot tA) := by
  intro pins s σ H Q I h
  exact isTrue_not (ha pins s σ H (fun c H1 => Q (!c) H1) I h)
def tAndV (ta tb : TE) : TE := fun σ H Q => ta σ H fun x H1 => ∃ c, x = .bl c ∧ if c = true then tb σ H1 Q else Q (.bl false) H1
def tOrV (ta tb : TE) : TE := fun σ H Q => ta σ H fun x H1 => ∃ c, x = .bl c ∧ if c = true then Q (.bl true) H1 else tb σ H1 Q
theorem pe_one {op} {t : TE} (h : PE X a t) : PE X (.BoolOp op [a] pos) t := fun pins s σ H Q I hw => BoolOp_one (h pins s σ H Q I hw)
theorem pe_and (ha : PE X a ta) (hb : PE X (.BoolOp .And (b :: rest) pos) tb) : PE X (.BoolOp .And (a :: b :: rest) pos) (tAndV ta tb) := by
  intro pins s σ H Q I h
  refine BoolOp_and (thn (ha pins s σ H _ I h) fun v s1 ⟨x, H1, I1, r1, q1⟩ => ?_)
  obtain ⟨c, rfl, q1⟩ := q1
  cases r1
  refine wpAny_truthy_bool ?_
  cases c with
  | true => exact hb pins s1 σ H1 Q I1 q1
  | false => exact ⟨.bl false, H1, I1, rfl, q1⟩
theorem pe_or (ha : PE X a ta) (hb : PE X (.BoolOp .Or (b :: rest) pos) tb) : PE X (.BoolOp .Or (a :: b :: rest) pos) (tOrV ta tb) := by
  intro pins s σ H Q I h
  refine BoolOp_or (thn (ha pins s σ H _ I h) fun v s1 ⟨x, H1, I1, r1, q1⟩ => ?_)
  obtain ⟨c, rfl, q1⟩ := q1
  cases r1
  refine wpAny_truthy_bool ?_
  cases c with
  | false => exact hb pins s1 σ H1 Q I1 q1
  | true => exact ⟨.bl true, H1, I1, rfl, q1⟩
def tIf (t : TT) (ta tb : TE) : TE := fun σ H Q => t σ H fun c H1 => if c = true then ta σ H1 Q else tb σ H1 Q
theorem pe_ifExp {c : Expr} (hc : PT X c tA) (ha : PE X a ta) (hb : PE X b tb) : PE X (.IfExp c a b pos) (tIf tA ta tb) := by
  intro pins s σ H Q I h
  refine wpAny_IfExp (thn (hc pins s σ H _ I h) fun d s1 ⟨H1, I1, q1⟩ => ?_)
  cases d with
  | true => exact ha pins s1 σ H1 Q I1 q1
  | false => exact hb pins s1 σ H1 Q I1 q1
end
end L2

namespace L2
open PySem PySem.Spec PyProof.Rows

def SqL (K : PySem.W.Frag) (H : Hp) (a : Addr) (xs : List V) : Prop :=
  Rd H a (.lst xs) ∨
    ∃ (o : Obj) (its : Array Value) (n : Nat), K.lookup a = some o ∧ o.cls = .type "list" ∧ o.dict = none ∧ o.data = .seq its n ∧ its.size ≤ sizeLine ∧ Vals xs its.toList
def SqT (K : PySem.W.Frag) (H : Hp) (a : Addr) (xs : List V) : Prop :=
  Rd H a (.tup xs) ∨
    ∃ (o : Obj) (its : Array Value) (n : Nat), K.lookup a = some o ∧ o.cls = .type "tuple" ∧ o.data = .seq its n ∧ its.size ≤ sizeLine ∧ Vals xs its.toList
def absV : Value → Option V
  | .none => some .non
  | .bool b => some (.bl b)
  | .int i _ => some (.int i)
  | .str x _ => some (.str x)
  | .bytes b _ => some (.byt b)
  | .float b _ => some (.flt b)
  | .ref a => some (.ref a)
  | .type n => some (.ty n)
  | _ => none
theorem RelV.abs {x : V} {u : Value} (r : RelV x u) : absV u = some x := by
  cases x with
  | non => cases r; rfl
  | bl _ => cases r; rfl
  | int _ => obtain ⟨t, rfl⟩ := r; rfl
  | str _ => obtain ⟨t, rfl⟩ := r; rfl
  | byt _ => obtain ⟨t, rfl⟩ := r; rfl
  | flt _ => obtain ⟨t, rfl⟩ := r; rfl
  | ref _ => cases r; rfl
  | ty _ => cases r; rfl
theorem RelV.inj {x y : V} {u : Value} (r : RelV x u) (q : RelV y u) : x = y := Option.some.inj (r.abs.symm.trans q.abs)
theorem Vals.inj : ∀ {xs ys : List V} {us : List Value}, Vals xs us → Vals ys us → xs = ys
  | _, _, _, .nil, .nil => rfl
  | _, _, _, .cons r t, .cons r' t' => by rw [r.inj r', Vals.inj t t']
section
variable {X : Cx} {pins : List (Addr × Obj)} {σ : St} {H : Hp} {s : Shared} {a : Addr} {xs ys : List V}
theorem SqL.of {K : PySem.W.Frag} (h : H a = some (.lst xs)) : SqL K H a xs := .inl (.inl h)
theorem SqT.of {K : PySem.W.Frag} (h : H a = some (.tup xs)) : SqT K H a xs := .inl (.inl h)
theorem Inv.list (I : Inv X pins σ H s) (h : SqL X.K H a xs) : ∃ its : List Value, Vals xs its ∧ PlainL s.heap a its.toArray ∧ xs.length ≤ sizeLine := by
  rcases h with h | ⟨o, its, n, hk, hc, hd, hs, hz, r⟩
  · obtain ⟨z, its, n, r, e⟩ := h.ok I.hok
    exact ⟨its, r, ⟨_, n, e, rfl, rfl, rfl⟩, z⟩
  · refine ⟨its.toList, r, ⟨o, n, I.kIn a o hk, hc, hd, by simpa using hs⟩, ?_⟩
    have e := r.length
    simp only [Array.length_toList] at e
    omega
theorem Inv.tuple (I : Inv X pins σ H s) (h : SqT X.K H a xs) : ∃ its : List Value, Vals xs its ∧ IsTup s.heap a its.toArray ∧ xs.length ≤ sizeLine := by
  rcases h with h | ⟨o, its, n, hk, hc, hs, hz, r⟩
  · obtain ⟨z, its, r, p⟩ := h.ok I.hok
    exact ⟨its, r, p, z⟩
  · refine ⟨its.toList, r, ⟨o, I.kIn a o hk, hc, n, by simpa using hs⟩, ?_⟩
    have e := r.length
    simp only [Array.length_toList] at e
    omega
theorem Inv.list_inj (I : Inv X pins σ H s) (h : SqL X.K H a xs) (h' : SqL X.K H a ys) : xs = ys := by
  obtain ⟨its, r, ⟨o, n, e, _, _, d⟩, _⟩ := I.list h
  obtain ⟨its', r', ⟨o', n', e', _, _, d'⟩, _⟩ := I.list h'
  rw [e] at e'; cases e'
  rw [d] at d'
  injection d' with d1 _
  have : its = its' := by simpa using congrArg Array.toList d1
  subst this
  exact r.inj r'
end

abbrev Cx.wish (X : Cx) (E : Value → Shared → Prop) : Cx := { X with xe := E }
abbrev Cx.nox (X : Cx) : Cx := X.wish fun _ _ => False
theorem Cx.Ok.wish {X : Cx} (ok : X.Ok) (E : Value → Shared → Prop) : (X.wish E).Ok :=
  ⟨ok.mod, ok.kind, ok.glob, ok.blt, ok.above, ok.inj, ok.has, ok.cab, ok.hd, ok.frames, ok.stk, ok.exf, ok.bs, ok.bsz, ok.noex, ok.exfs, ok.funs, ok.frf⟩
theorem Cx.Ok.unwish {X : Cx} {E : Value → Shared → Prop} (ok : (X.wish E).Ok) : X.Ok :=
  ⟨ok.mod, ok.kind, ok.glob, ok.blt, ok.above, ok.inj, ok.has, ok.cab, ok.hd, ok.frames, ok.stk, ok.exf, ok.bs, ok.bsz, ok.noex, ok.exfs, ok.funs, ok.frf⟩
section
variable {X : Cx} {pins : List (Addr × Obj)} {σ : St} {H : Hp} {s : Shared} {E : Value → Shared → Prop}
theorem Inv.wish (I : Inv X pins σ H s) (E : Value → Shared → Prop) : Inv (X.wish E) pins σ H s := ⟨I.ok.wish E, I.os, I.bare, I.base, I.loc, I.cell, I.free, I.freeC, I.pin, I.hok, I.len⟩
theorem Inv.unwish (I : Inv (X.wish E) pins σ H s) : Inv X pins σ H s := ⟨I.ok.unwish, I.os, I.bare, I.base, I.loc, I.cell, I.free, I.freeC, I.pin, I.hok, I.len⟩
theorem SP.unwish {D : Ends} {f : Flow} {s' : Shared} (h : SP (X.wish E) pins D f s') : SP X pins D f s' := by
  cases f with
  | next => obtain ⟨σ', H', I, q⟩ := h; exact ⟨σ', H', I.unwish, q⟩
  | brk => obtain ⟨σ', H', I, q⟩ := h; exact ⟨σ', H', I.unwish, q⟩
  | cont => obtain ⟨σ', H', I, q⟩ := h; exact ⟨σ', H', I.unwish, q⟩
  | ret u => obtain ⟨v, σ', H', I, r, q⟩ := h; exact ⟨v, σ', H', I.unwish, r, q⟩
theorem PE.nox {e : Expr} {t : TE} (h : PE X.nox e t) : PE X e t := fun pins s σ H Q I hw =>
  wpAny_mono (h pins s σ H Q (I.wish _) hw) (fun _ _ ⟨v, H', I', r, q⟩ => ⟨v, H', I'.unwish, r, q⟩) fun _ _ z => False.elim z
theorem PT.nox {e : Expr} {t : TT} (h : PT X.nox e t) : PT X e t := fun pins s σ H Q I hw =>
  wpAny_mono (h pins s σ H Q (I.wish _) hw) (fun _ _ ⟨H', I', q⟩ => ⟨H', I'.unwish, q⟩) fun _ _ z => False.elim z
theorem PSs.nox {st : List Stmt} {t : TS} (h : PSs X.nox st t) : PSs X st t := fun pins s σ H D I hw =>
  wpAny_mono (h pins s σ H D (I.wish _) hw) (fun _ _ q => q.unwish) fun _ _ z => False.elim z
end

section
variable {X : Cx} {st : Stmt} {rest : List Stmt} {t u : TS} {e : Expr} {te : TE} {pos : Pos}
def tNext : TS := fun D σ H => D.nx σ H
def tSeq (t u : TS) : TS := fun D σ H => t { D with nx := u D } σ H
theorem pss_nil : PSs X [] tNext := fun _ _ σ H _ I h => wpAny_execs_nil ⟨σ, H, I, h⟩
theorem pss_cons (h1 : PS X st t) (h2 : PSs X rest u) : PSs X (st :: rest) (tSeq t u) := by
  intro pins s σ H D I h
  refine wpAny_execs_cons (thn (h1 pins s σ H { D with nx := u D } I h) fun f s1 q => ?_)
  cases f with
  | next =>
    obtain ⟨σ', H', I', q⟩ := q
    exact h2 pins s1 σ' H' D I' q
  | ret v => exact q
  | brk => exact q
  | cont => exact q
theorem pss_one (h1 : PS X st t) : PSs X [st] t := by
  intro pins s σ H D I h
  refine wpAny_execs_cons (thn (h1 pins s σ H D I h) fun f s1 q => ?_)
  cases f with
  | next => exact wpAny_execs_nil q
  | ret v => exact q
  | brk => exact q
  | cont => exact q
theorem Inv.quiet {pins : List (Addr × Obj)} {σ : St} {H : Hp} {s : Shared} (I : Inv X pins σ H s) : interactive X.env = false := by simp [interactive, I.ok.kind]
def tDrop (te : TE) : TS := fun D σ H => te σ H fun _ H1 => D.nx σ H1
theorem ps_expr (he : PE X e te) (hs : swapsWith e none pos.line X.env = pure false := by rfl) : PS X (.Expr e pos) (tDrop te) := by
  intro pins s σ H D I h
  exact wpAny_Expr_any (thn (he pins s σ H _ I h) fun v s1 ⟨x, H1, I1, r1, q1⟩ => ⟨σ, H1, I1, q1⟩) I.quiet hs
def tRet (te : TE) : TS := fun D σ H => te σ H D.rt
theorem ps_ret (he : PE X e te) : PS X (.Return (some e) pos) (tRet te) := by
  intro pins s σ H D I h
  exact wpAny_Return_some (thn (he pins s σ H _ I h) fun v s1 ⟨x, H1, I1, r1, q1⟩ => ⟨x, σ, H1, I1, r1, q1⟩)
def tIfS (c : TT) (t u : TS) : TS := fun D σ H => c σ H fun b H1 => if b = true then t D σ H1 else u D σ H1
theorem ps_if {c : Expr} {a b : List Stmt} {tc : TT} (hc : PT X c tc) (ha : PSs X a t) (hb : PSs X b u) : PS X (.If c a b pos) (tIfS tc t u) := by
  intro pins s σ H D I h
  refine wpAny_If (thn (hc pins s σ H _ I h) fun d s1 ⟨H1, I1, q1⟩ => ?_)
  cases d with
  | true => exact ha pins s1 σ H1 D I1 q1
  | false => exact hb pins s1 σ H1 D I1 q1
end

abbrev TG := V → St → Hp → (St → Hp → Prop) → Prop
abbrev TGs := List V → St → Hp → (St → Hp → Prop) → Prop
def PG (X : Cx) (target : Expr) (t : TG) : Prop :=
  ∀ (pins : List (Addr × Obj)) (s : Shared) (σ : St) (H : Hp) (v : V) (u : Value) (Q : St → Hp → Prop), Inv X pins σ H s → RelV v u → t v σ H Q →
    wpAny (model X.prog X.w) X.A (assign target X.env u) (fun _ s' => ∃ σ' H', Inv X pins σ' H' s' ∧ Q σ' H') X.xe s
def PGs (X : Cx) (ts : List Expr) (t : TGs) : Prop :=
  ∀ (pins : List (Addr × Obj)) (s : Shared) (σ : St) (H : Hp) (vs : List V) (us : List Value) (Q : St → Hp → Prop), Inv X pins σ H s → Vals vs us → t vs σ H Q →
    wpAny (model X.prog X.w) X.A (assignInOrder ((assignEach ts X.env).map (·.2)) us) (fun _ s' => ∃ σ' H', Inv X pins σ' H' s' ∧ Q σ' H') X.xe s
section
variable {X : Cx} {pos : Pos}
def gName (i : Nat) : TG := fun v σ H Q => Q (σ.set i (some v)) H
theorem pg_name {i : Nat} {x : Str} (hN : X.N.Nodup) (hi : X.N[i]? = some x) (hx : Loc X.env.scope x) (hf : X.fn x = true ∨ X.env.scope.names.lookup x = some .local := by first | exact .inl rfl | exact .inr rfl | assumption) : PG X (.Name x pos) (gName i) := by
  intro pins s σ H v u Q I r h
  exact wpAny_assign_Name (store_ok I hN hi hx r (fun s' I' => ⟨_, H, I', h⟩) hf)
def gNil : TGs := fun vs σ H Q => vs = [] ∧ Q σ H
def gCons (t : TG) (u : TGs) : TGs := fun vs σ H Q => ∃ v r, vs = v :: r ∧ t v σ H fun σ' H' => u r σ' H' Q
theorem pgs_nil : PGs X [] gNil := by
  intro pins s σ H vs us Q I r h
  obtain ⟨e, h⟩ := h
  subst e
  cases r
  exact assignInOrder_nil ⟨σ, H, I, h⟩
theorem pgs_cons {e : Expr} {es : List Expr} {t : TG} {u : TGs} (h1 : PG X e t) (h2 : PGs X es u)
    (hs : (assignEach (e :: es) X.env).map (·.2) = assign e X.env :: (assignEach es X.env).map (·.2) := by rfl) : PGs X (e :: es) (gCons t u) := by
  intro pins s σ H vs us Q I r h
  obtain ⟨v, vr, e1, h⟩ := h
  subst e1
  cases r with
  | cons r rr =>
    rw [hs]
    refine assignInOrder_cons (thn (h1 pins s σ H _ _ _ I r h) fun _ s1 ⟨σ1, H1, I1, q1⟩ => ?_)
    exact h2 pins s1 σ1 H1 _ _ Q I1 rr q1
def gTup (K : PySem.W.Frag) (n : Nat) (t : TGs) : TG := fun v σ H Q => ∃ a xs, v = .ref a ∧ SqT K H a xs ∧ xs.length = n ∧ t xs σ H Q
theorem pg_tup {es : List Expr} {k : Nat} {t : TGs} {n : Nat} (hc : X.calm = true) (h : PGs X es t)
    (hn : (assignEach es X.env).length = n := by rfl) (hst : (assignEach es X.env).findIdx? (·.1) = none := by rfl) : PG X (.Tuple es k pos) (gTup X.K n t) := by
  intro pins s σ H v u Q I r hw
  obtain ⟨a, xs, e1, hq, hl, hw⟩ := hw
  subst e1
  cases r
  obtain ⟨its, rv, ht, hz⟩ := I.tuple hq
  refine assign_Tuple_tuple (I.ok.hd hc) ht (by simp [hn, ← hl, rv.length]) hst fun h' hx => ?_
  have I1 : Inv X pins σ H { s with heap := h' } := I.kept (t' := s.toks) fun b o e => hx b o (Nat.ne_of_lt (Heap.lt_size e)) e
  exact h pins _ σ H xs _ Q I1 (by simpa using rv) hw
def tAsg (te : TE) (g : TG) : TS := fun D σ H => te σ H fun x H1 => g x σ H1 D.nx
theorem ps_set {i : Nat} {x : Str} {e : Expr} {te : TE} {pos' : Pos} (hN : X.N.Nodup) (hi : X.N[i]? = some x) (hx : Loc X.env.scope x) (he : PE X e te) (hs : swapsWith e (some (.Name x pos')) pos.line X.env = pure false := by rfl) (hf : X.fn x = true ∨ X.env.scope.names.lookup x = some .local := by first | exact .inl rfl | exact .inr rfl | assumption) :
    PS X (.Assign [.Name x pos'] e pos) (tAsg te (gName i)) := by
  intro pins s σ H D I h
  refine wpAny_Assign_Name (thn (he pins s σ H _ I h) fun v s1 ⟨y, H1, I1, r1, q1⟩ => ?_) hs
  exact store_ok I1 hN hi hx r1 (fun s2 I2 => ⟨_, H1, I2, q1⟩) hf
end

section
variable {X : Cx} {pos : Pos}
def tWhile (c : TT) (tb : TS) : TS := fun D σ H => ∃ W : Nat → St → Hp → Prop, (∃ m, W m σ H) ∧ ∀ m σ H, W m σ H →
  c σ H fun b H1 => if b = true then ∃ N : St → Hp → Prop, (∀ σ' H', N σ' H' → ∃ m', m' < m ∧ W m' σ' H') ∧ tb { D with nx := N, ct := N, bk := D.nx } σ H1 else D.nx σ H1
theorem ps_while {c : Expr} {body : List Stmt} {tc : TT} {tb : TS} (hp : PassesOwn (model X.prog X.w) X.A X.env X.xe) (hc : PT X c tc) (hb : PSs X body tb) : PS X (.While c body [] pos) (tWhile tc tb) := by
  intro pins s σ H D I h
  obtain ⟨W, ⟨m0, w0⟩, turn⟩ := h
  refine wpAny_While (codeAny_whileLoop (fun n s' => ∃ σ' H', Inv X pins σ' H' s' ∧ W n σ' H') ?_ m0 ⟨σ, H, I, w0⟩)
  rintro n s1 ⟨σ1, H1, I1, w1⟩
  refine wpAny_passesOwn hp (thn (hc pins s1 σ1 H1 _ I1 (turn n σ1 H1 w1)) fun b s2 ⟨H2, I2, q2⟩ => ?_)
  cases b with
  | true =>
    obtain ⟨N, hN, q2⟩ := q2
    rw [if_pos rfl]
    refine wpAny_passesOwn hp (thn (hb pins s2 σ1 H2 _ I2 q2) fun f s3 q3 => ?_)
    cases f with
    | next =>
      obtain ⟨σ3, H3, I3, n3⟩ := q3
      obtain ⟨m', hm, w3⟩ := hN σ3 H3 n3
      exact ⟨m', hm, σ3, H3, I3, w3⟩
    | cont =>
      obtain ⟨σ3, H3, I3, n3⟩ := q3
      obtain ⟨m', hm, w3⟩ := hN σ3 H3 n3
      exact ⟨m', hm, σ3, H3, I3, w3⟩
    | brk => exact q3
    | ret v => exact q3
  | false =>
    rw [if_neg Bool.false_ne_true]
    exact wpAny_execs_nil ⟨σ1, H2, I2, q2⟩
end

structure It where
  go : Nat → Hp → Prop
  yld : Nat → Hp → V → Hp → Prop
  stop : Nat → Hp → Prop
def FpOk (X : Cx) (pins : List (Addr × Obj)) (H : Hp) (b : Addr) : Prop :=
  H b = none ∧ b ≠ X.env.locals ∧ b ∉ X.fs ∧ (b ∈ X.ex ∨ X.s_0.heap.objs.size ≤ b) ∧ (∀ x c, X.env.cells.lookup x = some c → c ≠ b) ∧ ∀ p ∈ X.pn ++ pins, p.1 ≠ b
theorem Inv.fpOk {X : Cx} {pins : List (Addr × Obj)} {σ : St} {H H' : Hp} {s : Shared} {b : Addr} (I : Inv X pins σ H s) (hb : s.heap.objs.size ≤ b) (hn : H' b = none) : FpOk X pins H' b := by
  refine ⟨hn, Nat.ne_of_gt (Nat.lt_of_lt_of_le I.lt hb), I.nofs hb, .inr (Nat.le_trans I.sz hb), fun x c e z => ?_, fun p hp z => ?_⟩
  · obtain ⟨v, q⟩ := I.cell x c e
    exact absurd (Nat.lt_of_lt_of_le q.lt (by rw [z]; exact hb)) (Nat.lt_irrefl _)
  · exact absurd (Nat.lt_of_lt_of_le (Heap.lt_size (I.pin p hp).1) (by rw [z]; exact hb)) (Nat.lt_irrefl _)
structure Turn (P : Program) (w : World) (K : PySem.W.Frag) (tg : Expr) (J : It) (fp : List Addr) (it : Addr) (tn : Nat → Heap → Prop) : Prop where
  mem : it ∈ fp
  obj : ∀ i h, tn i h → ∀ b ∈ fp, ∃ o, h.get? b = some o ∧ ∀ v, o.data ≠ .cell v
  keep : ∀ i h h', tn i h → (∀ b ∈ fp, ∀ o, h.get? b = some o → h'.get? b = some o) → tn i h'
  item : ∀ (X : Cx), X.prog = P → X.w = w → X.K = K → X.calm = true → ∀ (i : Nat) (pins : List (Addr × Obj)) (s : Shared) (σ : St) (H : Hp) (E : Value → Shared → Prop), Inv X pins σ H s → (∀ b ∈ fp, FpOk X pins H b) → tn i s.heap → J.go i H →
    wpAny (model P w) X.A (pyNext (.ref it)) (fun r s1 => ∃ u, r = some u ∧
      wpAny (model P w) X.A (letOwnedTupleGo tg (.ref it) u) (fun _ s2 => ∃ x H', Inv X pins σ H' s2 ∧ RelV x u ∧ J.yld i H x H' ∧ tn (i + 1) s2.heap ∧ ∀ b ∈ fp, H' b = none) E s1) E s
  done : ∀ (X : Cx), X.prog = P → X.w = w → X.K = K → X.calm = true → ∀ (i : Nat) (pins : List (Addr × Obj)) (s : Shared) (σ : St) (H : Hp) (E : Value → Shared → Prop), Inv X pins σ H s → (∀ b ∈ fp, FpOk X pins H b) → tn i s.heap → J.stop i H →
    wpAny (model P w) X.A (pyNext (.ref it)) (fun r s1 => r = none ∧ Inv X pins σ H s1) E s
  self : ∀ (A : Around) (i : Nat) (s : Shared) (Q : Value → Shared → Prop) (E : Value → Shared → Prop), tn i s.heap → Q (.ref it) s → wpAny (model P w) A (pyIter (.ref it)) Q E s
abbrev TI := St → Hp → (It → Hp → Prop) → Prop
def PIE (X : Cx) (pins : List (Addr × Obj)) (σ : St) (tg : Expr) (R : It → Hp → Prop) (itv : Value) (s2 : Shared) : Prop :=
  ∃ (it : Addr) (fp : List Addr) (tn : Nat → Heap → Prop) (J : It) (H' : Hp), itv = .ref it ∧ Inv X pins σ H' s2 ∧ Turn X.prog X.w X.K tg J fp it tn ∧ tn 0 s2.heap ∧ (∀ b ∈ fp, FpOk X pins H' b) ∧ R J H'
def PI (X : Cx) (tg iter : Expr) (wi : TI) : Prop :=
  ∀ (pins : List (Addr × Obj)) (s : Shared) (σ : St) (H : Hp) (R : It → Hp → Prop), Inv X pins σ H s → wi σ H R →
    wpAny (model X.prog X.w) X.A (eval iter X.env) (fun v s1 => wpAny (model X.prog X.w) X.A (pyIter v) (PIE X pins σ tg R) X.xe s1) X.xe s

theorem go_of {M : Model} {A : Around} {E : Value → Shared → Prop} {s : Shared} {tg : Expr} {it : Addr} {u : Value} {o : Obj} {n : String} {vs : Array Value} {Q : Unit → Shared → Prop} (ho : s.heap.get? it = some o) (hc : o.cls = .type n) (hd : o.data = .fields vs)
    (hn : ["enumerate", "zip", "dict_itemiterator", "dict_reverseitemiterator", "odict_iterator", "itertools.zip_longest", "itertools.pairwise"].contains n = false) (hQ : Q () s) : wpAny M A (letOwnedTupleGo tg (.ref it) u) Q E s := by
  unfold letOwnedTupleGo
  cases tg <;> first
    | exact wpAny_pure hQ
    | (cases u <;> first
        | exact wpAny_pure hQ
        | (refine wpAny_bind (wpAny_load ho ?_)
           rw [hc, hd]
           show wpAny M A (if (["enumerate", "zip", "dict_itemiterator", "dict_reverseitemiterator", "odict_iterator", "itertools.zip_longest", "itertools.pairwise"].contains n && vs[0]? == some (rawInt _)) = true then _ else _) Q E s
           rw [if_neg (by intro h; rw [hn, Bool.false_and] at h; cases h)]
           exact wpAny_pure hQ))

def Itl (K : PySem.W.Frag) (a : Addr) : It :=
  ⟨fun i H => ∃ xs x, SqL K H a xs ∧ xs[i]? = some x, fun i H x H' => H' = H ∧ ∀ xs, SqL K H a xs → xs[i]? = some x, fun i H => ∃ xs, SqL K H a xs ∧ xs.length ≤ i⟩
theorem turn_list {P : Program} {w : World} {K : PySem.W.Frag} {tg : Expr} (a it : Addr) : Turn P w K tg (Itl K a) [it] it (fun i h => h.IsListIter it a i) where
  mem := by simp
  obj := fun i h st b hb => by
    have e : b = it := by simpa using hb
    subst e
    obtain ⟨o, e, c, d⟩ := st
    exact ⟨o, e, fun v z => by rw [d] at z; cases z⟩
  keep := fun i h h' st k => st.at fun o e => k it (by simp) o e
  item := by
    intro X hP hw hK hc i pins s σ H E I hf st hg
    subst hP hw hK
    obtain ⟨xs, x, hq, hx⟩ := hg
    obtain ⟨its, rv, p, hz⟩ := I.list hq
    obtain ⟨u, hu, ru⟩ := rv.get hx
    obtain ⟨f0, f1, f2, f3, f4, f5⟩ := hf it (by simp)
    refine wpAny_pyNext_list_item st p.isList (x := u) (by simpa using hu) fun h' st' sb => ?_
    have I1 : Inv X pins σ H { s with heap := h' } := I.turned (t' := s.toks) (fun b o hb e => (sb.2 b hb).trans e) f0 f1 f3 f4 f5
    obtain ⟨o, e, c, d⟩ := id st'
    exact ⟨u, rfl, go_of (s := { s with heap := h' }) e c d (by decide) ⟨x, H, I1, ru, ⟨rfl, fun ys hy => by rw [I.list_inj hy hq]; exact hx⟩, st', fun b hb => (hf b hb).1⟩⟩
  done := by
    intro X hP hw hK hc i pins s σ H E I hf st hg
    subst hP hw hK
    obtain ⟨xs, hq, hx⟩ := hg
    obtain ⟨its, rv, p, hz⟩ := I.list hq
    obtain ⟨f0, f1, f2, f3, f4, f5⟩ := hf it (by simp)
    have hl := rv.length
    exact wpAny_pyNext_list_end (I.ok.hd hc) st p.isList (by simp; omega) fun h' eb => ⟨rfl, I.turned (t' := s.toks) (fun b o hb e => eb b o hb e) f0 f1 f3 f4 f5⟩
  self := fun _ _ _ _ _ st h => wpAny_pyIter_listiter st h
end L2

namespace L2
open PySem PySem.Spec PyProof.Rows
section
variable {X : Cx} {tg : Expr}
def iList (K : PySem.W.Frag) (tl : TE) : TI := fun σ H R => tl σ H fun x H1 => ∃ a, x = .ref a ∧ (∃ xs, SqL K H1 a xs) ∧ R (Itl K a) H1
theorem pi_list {l : Expr} {tl : TE} (hl : PE X l tl) : PI X tg l (iList X.K tl) := by
  intro pins s σ H R I h
  refine thn (hl pins s σ H _ I h) fun v s1 ⟨x, H1, I1, r1, q1⟩ => ?_
  obtain ⟨a, e, ⟨xs, hq⟩, q⟩ := q1
  subst e
  cases r1
  obtain ⟨its, rv, p, hz⟩ := I1.list hq
  refine wpAny_pyIter_list p.isList ?_
  refine ⟨s1.heap.objs.size, [s1.heap.objs.size], _, _, H1, rfl, I1.kept (t' := s1.toks) fun b o e => Heap.get?_push_of_some _ e, turn_list a _, ⟨_, Heap.get?_push_size _ rfl, rfl, rfl⟩, fun b hb => ?_, q⟩
  have e : b = s1.heap.objs.size := by simpa using hb
  subst e
  exact I1.fpOk (Nat.le_refl _) (I1.hok.fresh (Nat.le_refl _))

def tFor (wi : TI) (g : TG) (tb : TS) : TS := fun D σ H => wi σ H fun J H1 => ∃ W : Nat → Nat → St → Hp → Prop, (∃ m, W 0 m σ H1) ∧ ∀ i m σ H, W i m σ H →
  (J.stop i H ∧ D.nx σ H) ∨ (J.go i H ∧ ∃ N : St → Hp → Prop, (∀ σ' H', N σ' H' → ∃ m', m' < m ∧ W (i + 1) m' σ' H') ∧ ∀ x H', J.yld i H x H' → g x σ H' fun σ2 H2 => tb { D with nx := N, ct := N, bk := D.nx } σ2 H2)
def pinsAt (fp : List Addr) (h : Heap) : List (Addr × Obj) := fp.filterMap fun b => (h.get? b).map fun o => (b, o)
theorem mem_pinsAt {fp : List Addr} {h : Heap} {b : Addr} {o : Obj} (hb : b ∈ fp) (e : h.get? b = some o) : (b, o) ∈ pinsAt fp h := List.mem_filterMap.mpr ⟨b, hb, by rw [e]; rfl⟩
theorem of_pinsAt {fp : List Addr} {h : Heap} {p : Addr × Obj} (hp : p ∈ pinsAt fp h) : p.1 ∈ fp ∧ h.get? p.1 = some p.2 := by
  obtain ⟨b, hb, e⟩ := List.mem_filterMap.mp hp
  cases q : h.get? b with
  | none => rw [q] at e; cases e
  | some o =>
    rw [q] at e
    have e' : (b, o) = p := Option.some.inj e
    subst e'
    exact ⟨hb, q⟩
theorem Inv.pinned {pins : List (Addr × Obj)} {σ : St} {H : Hp} {s : Shared} {fp : List Addr} (I : Inv X pins σ H s) (hf : ∀ b ∈ fp, FpOk X pins H b) (ho : ∀ b ∈ fp, ∃ o, s.heap.get? b = some o ∧ ∀ v, o.data ≠ .cell v) : Inv X (pins ++ pinsAt fp s.heap) σ H s :=
  I.pins_of fun p hp => (List.mem_append.mp hp).elim (fun z => I.pin p (List.mem_append_right _ z)) fun z => by
    obtain ⟨hb, e⟩ := of_pinsAt z
    obtain ⟨f0, f1, f2, _⟩ := hf p.1 hb
    obtain ⟨o, e', d⟩ := ho p.1 hb
    rw [e] at e'; cases e'
    exact ⟨e, f0, f1, f2, d⟩
theorem Inv.unpinned {pins pl : List (Addr × Obj)} {σ : St} {H : Hp} {s : Shared} (I : Inv X (pins ++ pl) σ H s) : Inv X pins σ H s := I.pins_of fun p hp => I.pin p (List.mem_append_right _ (List.mem_append_left _ hp))
theorem ps_for {iter : Expr} {body : List Stmt} {wi : TI} {g : TG} {tb : TS} {pos : Pos} (hp : PassesOwn (model X.prog X.w) X.A X.env X.xe) (hc : X.calm = true) (hi : PI X tg iter wi) (hg : PG X tg g) (hb : PSs X body tb)
    (hs : ∀ x, foldedSetIterable iter X.env x = pure x := by intro _; rfl) : PS X (.For tg iter body [] pos) (tFor wi g tb) := by
  intro pins s σ H D I h
  refine wpAny_For (thn (hi pins s σ H _ I h) fun v s1 h1 => thn h1 fun itv s2 h2 => ?_) hs
  obtain ⟨it, fp, tn, J, H2, e, I2, T, st2, f2, W, ⟨m0, w0⟩, turn⟩ := h2
  subst e
  -- what stays true of the iterator's objects through the loop
  have stat : ∀ {H' : Hp}, (∀ b ∈ fp, H' b = none) → ∀ b ∈ fp, FpOk X pins H' b := fun hn b hb => ⟨hn b hb, (f2 b hb).2⟩
  refine codeAny_forLoop_any (fun n s' => ∃ i σ' H', Inv X pins σ' H' s' ∧ tn i s'.heap ∧ (∀ b ∈ fp, H' b = none) ∧ W i n σ' H') ?_ m0 ⟨0, σ, H2, I2, st2, fun b hb => (f2 b hb).1, w0⟩
  rintro n s3 ⟨i, σ3, H3, I3, st3, fr3, w3⟩
  rcases turn i n σ3 H3 w3 with ⟨stop, qn⟩ | ⟨go, N, hN, step⟩
  · refine wpAny_passesOwn hp (thn (T.done X rfl rfl rfl hc i pins s3 σ3 H3 X.xe I3 (stat fr3) st3 stop) fun r s4 ⟨hr, I4⟩ => ?_)
    subst hr
    exact wpAny_execs_nil ⟨σ3, H3, I4, qn⟩
  · refine wpAny_passesOwn hp (thn (T.item X rfl rfl rfl hc i pins s3 σ3 H3 X.xe I3 (stat fr3) st3 go) fun r s4 ⟨u, hr, h4⟩ => ?_)
    subst hr
    refine wpAny_passesOwn hp (thn h4 fun _ s5 ⟨x, H5, I5, r5, y5, st5, fr5⟩ => ?_)
    have I5' := I5.pinned (stat fr5) (T.obj _ _ st5)
    refine wpAny_passesOwn hp (thn (hg _ s5 σ3 H5 x u _ I5' r5 (step x H5 y5)) fun _ s6 ⟨σ6, H6, I6, q6⟩ => ?_)
    refine wpAny_passesOwn hp (thn (hb _ s6 σ6 H6 _ I6 q6) fun f s7 q7 => ?_)
    have again : ∀ {σ7 : St} {H7 : Hp}, Inv X (pins ++ pinsAt fp s5.heap) σ7 H7 s7 → N σ7 H7 → ∃ m, m < n ∧ ∃ i σ' H', Inv X pins σ' H' s7 ∧ tn i s7.heap ∧ (∀ b ∈ fp, H' b = none) ∧ W i m σ' H' := fun {σ7 H7} I7 n7 => by
      obtain ⟨m', hm, w7⟩ := hN σ7 H7 n7
      refine ⟨m', hm, i + 1, σ7, H7, I7.unpinned, T.keep _ _ _ st5 fun b hb o e => (I7.pin (b, o) (List.mem_append_right _ (List.mem_append_right _ (mem_pinsAt hb e)))).1, fun b hb => ?_, w7⟩
      obtain ⟨o, e, d⟩ := T.obj _ _ st5 b hb
      exact (I7.pin (b, o) (List.mem_append_right _ (List.mem_append_right _ (mem_pinsAt hb e)))).2.1
    cases f with
    | next => obtain ⟨σ7, H7, I7, n7⟩ := q7; exact again I7 n7
    | cont => obtain ⟨σ7, H7, I7, n7⟩ := q7; exact again I7 n7
    | brk => obtain ⟨σ7, H7, I7, q7⟩ := q7; exact ⟨σ7, H7, I7.unpinned, q7⟩
    | ret v => obtain ⟨x7, σ7, H7, I7, r7, q7⟩ := q7; exact ⟨x7, σ7, H7, I7.unpinned, r7, q7⟩
end

theorem for_list {K : PySem.W.Frag} {a : Addr} {xs : List V} {g : TG} {tb : TS} {D : Ends} {σ : St} {H : Hp} (Pv : Nat → St → Hp → Prop) (h0 : Pv 0 σ H) (hl : ∀ i σ H, i ≤ xs.length → Pv i σ H → SqL K H a xs)
    (hs : ∀ i x σ H, xs[i]? = some x → Pv i σ H → g x σ H fun σ2 H2 => tb { D with nx := Pv (i + 1), ct := Pv (i + 1), bk := D.nx } σ2 H2) (hd : ∀ σ H, Pv xs.length σ H → D.nx σ H) :
    ∃ W : Nat → Nat → St → Hp → Prop, (∃ m, W 0 m σ H) ∧ ∀ i m σ H, W i m σ H →
      ((Itl K a).stop i H ∧ D.nx σ H) ∨ ((Itl K a).go i H ∧ ∃ N : St → Hp → Prop, (∀ σ' H', N σ' H' → ∃ m', m' < m ∧ W (i + 1) m' σ' H') ∧ ∀ x H', (Itl K a).yld i H x H' → g x σ H' fun σ2 H2 => tb { D with nx := N, ct := N, bk := D.nx } σ2 H2) := by
  refine ⟨fun i m σ H => m = xs.length - i ∧ i ≤ xs.length ∧ Pv i σ H, ⟨xs.length, by simp, Nat.zero_le _, h0⟩, ?_⟩
  rintro i m σ H ⟨rfl, hi, p⟩
  have q := hl i σ H hi p
  by_cases hlt : i < xs.length
  · refine .inr ⟨⟨xs, xs[i], q, by simp [hlt]⟩, Pv (i + 1), fun σ' H' p' => ⟨xs.length - (i + 1), by omega, rfl, hlt, p'⟩, fun x H' y => ?_⟩
    obtain ⟨e, y⟩ := y
    subst e
    exact hs i x σ _ (y xs q) p
  · have e : i = xs.length := by omega
    subst e
    exact .inl ⟨⟨xs, q, Nat.le_refl _⟩, hd σ H p⟩
end L2

namespace L2
open PySem PySem.Spec PyProof.Rows

abbrev R2 := V → V → Hp → VK → Prop
def OpR (X : Cx) (f : Value → Value → Sem Value) (r : R2) : Prop :=
  ∀ (pins : List (Addr × Obj)) (s : Shared) (σ : St) (H : Hp) (x y : V) (v u : Value) (Q : VK), Inv X pins σ H s → RelV x v → RelV y u → r x y H Q →
    wpAny (model X.prog X.w) X.A (f v u) (EP X pins σ Q) X.xe s
def UnR (X : Cx) (f : Value → Sem Value) (r : V → Hp → VK → Prop) : Prop :=
  ∀ (pins : List (Addr × Obj)) (s : Shared) (σ : St) (H : Hp) (x : V) (v : Value) (Q : VK), Inv X pins σ H s → RelV x v → r x H Q →
    wpAny (model X.prog X.w) X.A (f v) (EP X pins σ Q) X.xe s
def CallR (X : Cx) (f : Value) (r : List V → Hp → VK → Prop) : Prop :=
  ∀ (pins : List (Addr × Obj)) (s : Shared) (σ : St) (H : Hp) (xs : List V) (us : List Value) (Q : VK), Inv X pins σ H s → Vals xs us → r xs H Q →
    wpAny (model X.prog X.w) X.A (call f us) (EP X pins σ Q) X.xe s

def tOp (r : R2) (ta tb : TE) : TE := fun σ H Q => ta σ H fun x H1 => tb σ H1 fun y H2 => r x y H2 Q
def tUn (r : V → Hp → VK → Prop) (ta : TE) : TE := fun σ H Q => ta σ H fun x H1 => r x H1 Q
def rI (C : Int → Int → Prop) (g : Int → Int → V) : R2 := fun x y H Q => ∃ i j, x = .int i ∧ y = .int j ∧ C i j ∧ Q (g i j) H
def rI0 (g : Int → Int → V) : R2 := fun x y H Q => ∃ i j, x = .int i ∧ y = .int j ∧ Q (g i j) H
def rU (g : Int → V) : V → Hp → VK → Prop := fun x H Q => ∃ i, x = .int i ∧ Q (g i) H

section
variable {X : Cx} {a b c : Expr} {ta tb tc : TE} {pos : Pos}

theorem binT (ha : PE X a ta) (hb : PE X b tb) {pins : List (Addr × Obj)} {s : Shared} {σ : St} {H : Hp} {R : V → V → Hp → Prop} (I : Inv X pins σ H s)
    (h : ta σ H fun x H1 => tb σ H1 fun y H2 => R x y H2) {Q : Value → Shared → Prop} {f : Value → Value → Sem Value}
    (hf : ∀ v u s2 x y H2, Inv X pins σ H2 s2 → RelV x v → RelV y u → R x y H2 → wpAny (model X.prog X.w) X.A (f v u) Q X.xe s2) :
    wpAny (model X.prog X.w) X.A (eval a X.env) (fun v s₁ => wpAny (model X.prog X.w) X.A (eval b X.env) (fun u s₂ => wpAny (model X.prog X.w) X.A (f v u) Q X.xe s₂) X.xe s₁) X.xe s := by
  refine thn (ha pins s σ H _ I h) fun v s1 ⟨x, H1, I1, r1, q1⟩ => ?_
  refine thn (hb pins s1 σ H1 _ I1 q1) fun u s2 ⟨y, H2, I2, r2, q2⟩ => ?_
  exact hf v u s2 x y H2 I2 r1 r2 q2

theorem pe_op {op : Operator} {r : R2} (ho : OpR X (binaryOp op) r) (ha : PE X a ta) (hb : PE X b tb) : PE X (.BinOp a op b pos) (tOp r ta tb) := by
  intro pins s σ H Q I h
  exact wpAny_BinOp (binT ha hb I h fun v u s2 x y H2 I2 rx ry q => ho pins s2 σ H2 x y v u Q I2 rx ry q)
theorem pe_un {op : UnaryOp} {r : V → Hp → VK → Prop} (ho : UnR X (unaryOp op) r) (ha : PE X a ta) : PE X (.UnaryOp op a pos) (tUn r ta) := by
  intro pins s σ H Q I h
  exact UnaryOp_ (thn (ha pins s σ H _ I h) fun v s1 ⟨x, H1, I1, r1, q1⟩ => ho pins s1 σ H1 x v Q I1 r1 q1)

theorem opI {f : Value → Value → Sem Value} {C : Int → Int → Prop} {g : Int → Int → Int}
    (rule : ∀ (i j : Int) (t u : Tok) (s : Shared) (Q : Value → Shared → Prop) (E : Value → Shared → Prop), C i j → Q (.int (g i j) s.toks) { s with toks := s.toks + 1 } → wpAny (model X.prog X.w) X.A (f (.int i t) (.int j u)) Q E s) :
    OpR X f (rI C fun i j => .int (g i j)) := by
  intro pins s σ H x y v u Q I rx ry h
  obtain ⟨i, j, rfl, rfl, hc, q⟩ := h
  obtain ⟨t, rfl⟩ := rx
  obtain ⟨t', rfl⟩ := ry
  exact rule i j t t' s _ _ hc ⟨.int (g i j), H, I.tok _, ⟨_, rfl⟩, q⟩
theorem opI0 {f : Value → Value → Sem Value} {g : Int → Int → Int}
    (rule : ∀ (i j : Int) (t u : Tok) (s : Shared) (Q : Value → Shared → Prop) (E : Value → Shared → Prop), Q (.int (g i j) s.toks) { s with toks := s.toks + 1 } → wpAny (model X.prog X.w) X.A (f (.int i t) (.int j u)) Q E s) :
    OpR X f (rI0 fun i j => .int (g i j)) := by
  intro pins s σ H x y v u Q I rx ry h
  obtain ⟨i, j, rfl, rfl, q⟩ := h
  obtain ⟨t, rfl⟩ := rx
  obtain ⟨t', rfl⟩ := ry
  exact rule i j t t' s _ _ ⟨.int (g i j), H, I.tok _, ⟨_, rfl⟩, q⟩
theorem opB0 {f : Value → Value → Sem Value} {g : Int → Int → Bool}
    (rule : ∀ (i j : Int) (t u : Tok) (s : Shared) (Q : Value → Shared → Prop) (E : Value → Shared → Prop), Q (.bool (g i j)) s → wpAny (model X.prog X.w) X.A (f (.int i t) (.int j u)) Q E s) :
    OpR X f (rI0 fun i j => .bl (g i j)) := by
  intro pins s σ H x y v u Q I rx ry h
  obtain ⟨i, j, rfl, rfl, q⟩ := h
  obtain ⟨t, rfl⟩ := rx
  obtain ⟨t', rfl⟩ := ry
  exact rule i j t t' s _ _ ⟨.bl (g i j), H, I, rfl, q⟩

def CDiv (i j : Int) : Prop := 0 < j ∧ j < 1073741824
def CMul (i j : Int) : Prop := (-(2 ^ 64) < i ∧ i < 2 ^ 64) ∨ (-(2 ^ 64) < j ∧ j < 2 ^ 64)
theorem CMul.ok {i j : Int} (h : CMul i j) : IntMulOk i j := by
  rcases h with ⟨h1, h2⟩ | ⟨h1, h2⟩
  · exact .of_left (intBits_le_64 h1 h2)
  · exact .of_right (intBits_le_64 h1 h2)

theorem op_add : OpR X (binaryOp .Add) (rI0 fun i j => .int (i + j)) := opI0 fun _ _ _ _ _ _ _ q => add_int q
theorem op_sub : OpR X (binaryOp .Sub) (rI0 fun i j => .int (i - j)) := opI0 fun _ _ _ _ _ _ _ q => sub_int q
theorem op_mul : OpR X (binaryOp .Mult) (rI CMul fun i j => .int (i * j)) := opI fun _ _ _ _ _ _ _ hc q => mul_int q hc.ok
theorem op_fdiv : OpR X (binaryOp .FloorDiv) (rI CDiv fun i j => .int (i / j)) := opI fun i j _ _ _ _ _ hc q => by
  have h1 : (0 : Int) < j := hc.1
  have h2 : j < 1073741824 := hc.2
  exact floordiv_int (by omega) (by rw [Int.fdiv_eq_ediv_of_nonneg i (by omega)]; exact q) (.inl (PyProof.noPylong_small (by omega)))


theorem unI {f : Value → Sem Value} {g : Int → Int}
    (rule : ∀ (i : Int) (t : Tok) (s : Shared) (Q : Value → Shared → Prop) (E : Value → Shared → Prop), Q (.int (g i) s.toks) { s with toks := s.toks + 1 } → wpAny (model X.prog X.w) X.A (f (.int i t)) Q E s) :
    UnR X f (rU fun i => .int (g i)) := by
  intro pins s σ H x v Q I rx h
  obtain ⟨i, rfl, q⟩ := h
  obtain ⟨t, rfl⟩ := rx
  exact rule i t s _ _ ⟨.int (g i), H, I.tok _, ⟨_, rfl⟩, q⟩
theorem un_neg : UnR X (unaryOp .USub) (rU fun i => .int (-i)) := unI fun _ _ _ _ _ q => neg_int q

end

def scal : V → V → Bool
  | .non, .non => true | .non, .int _ => true | .int _, .non => true | .non, .bl _ => true | .bl _, .non => true | .non, .str _ => true | .str _, .non => true
  | .int _, .int _ => true | .bl _, .bl _ => true | .str _, .str _ => true | .byt _, .byt _ => true
  | .int _, .str _ => true | .str _, .int _ => true | .bl _, .str _ => true | .str _, .bl _ => true
  | _, _ => false
def rEq : R2 := fun x y H Q => scal x y = true ∧ Q (.bl (decide (x = y))) H
def rNe : R2 := fun x y H Q => scal x y = true ∧ Q (.bl (!decide (x = y))) H

theorem dec_int {i j : Int} : decide (V.int i = V.int j) = (i == j) := by
  rw [Bool.eq_iff_iff]
  simp
theorem dec_bl {i j : Bool} : decide (V.bl i = V.bl j) = (i == j) := by
  rw [Bool.eq_iff_iff]
  simp
theorem dec_str {i j : Str} : decide (V.str i = V.str j) = (i == j) := by
  rw [Bool.eq_iff_iff]
  simp
theorem dec_byt {i j : Array UInt8} : decide (V.byt i = V.byt j) = (i.toList == j.toList) := by
  rw [Bool.eq_iff_iff]
  cases i
  cases j
  simp

section
variable {X : Cx} {a b c : Expr} {ta tb tc : TE} {pos : Pos}
theorem fin_bl {pins : List (Addr × Obj)} {σ : St} {H : Hp} {s : Shared} {Q : VK} {k k' : Bool} (I : Inv X pins σ H s) (q : Q (.bl k) H) (e : k = k') : EP X pins σ Q (.bool k') s := by
  subst e
  exact ⟨.bl k, H, I, rfl, q⟩
theorem op_eq : OpR X (compareOp .Eq) rEq := by
  intro pins s σ H x y v u Q I rx ry h
  obtain ⟨hs, q⟩ := h
  cases x with
  | non =>
    cases rx
    cases y with
    | non => cases ry; exact PySem.EqNone.eq_none_none (fin_bl I q (by simp))
    | bl j => cases ry; exact PySem.EqNone.eq_none_bool (fin_bl I q (by simp))
    | int j => obtain ⟨t', rfl⟩ := ry; exact PySem.EqNone.eq_none_int (fin_bl I q (by simp))
    | str j => obtain ⟨t', rfl⟩ := ry; exact PySem.EqNone.eq_none_str (fin_bl I q (by simp))
    | _ => exact absurd (show false = true from hs) Bool.false_ne_true
  | bl i =>
    cases rx
    cases y with
    | non => cases ry; exact PySem.EqNone.eq_bool_none (fin_bl I q (by simp))
    | bl j => cases ry; exact eq_bool (fin_bl I q dec_bl)
    | str j => obtain ⟨t', rfl⟩ := ry; exact PySem.EqMixed.eq_bool_str (fin_bl I q (by simp))
    | _ => exact absurd (show false = true from hs) Bool.false_ne_true
  | int i =>
    obtain ⟨t, rfl⟩ := rx
    cases y with
    | non => cases ry; exact PySem.EqNone.eq_int_none (fin_bl I q (by simp))
    | int j => obtain ⟨t', rfl⟩ := ry; exact eq_int (fin_bl I q dec_int)
    | str j => obtain ⟨t', rfl⟩ := ry; exact PySem.EqMixed.eq_int_str (fin_bl I q (by simp))
    | _ => exact absurd (show false = true from hs) Bool.false_ne_true
  | str i =>
    obtain ⟨t, rfl⟩ := rx
    cases y with
    | non => cases ry; exact PySem.EqNone.eq_str_none (fin_bl I q (by simp))
    | bl j => cases ry; exact PySem.EqMixed.eq_str_bool (fin_bl I q (by simp))
    | int j => obtain ⟨t', rfl⟩ := ry; exact PySem.EqMixed.eq_str_int (fin_bl I q (by simp))
    | str j => obtain ⟨t', rfl⟩ := ry; exact eq_str (fin_bl I q dec_str)
    | _ => exact absurd (show false = true from hs) Bool.false_ne_true
  | byt i =>
    obtain ⟨t, rfl⟩ := rx
    cases y with
    | byt j => obtain ⟨t', rfl⟩ := ry; exact PySem.W.eq_bytes (fin_bl I q dec_byt)
    | _ => exact absurd (show false = true from hs) Bool.false_ne_true
  | _ => cases y <;> exact absurd (show false = true from hs) Bool.false_ne_true
theorem op_ne : OpR X (compareOp .NotEq) rNe := by
  intro pins s σ H x y v u Q I rx ry h
  obtain ⟨hs, q⟩ := h
  cases x with
  | non =>
    cases rx
    cases y with
    | non => cases ry; exact PySem.EqNone.ne_none_none (fin_bl I q (by simp))
    | bl j => cases ry; exact PySem.EqNone.ne_none_bool (fin_bl I q (by simp))
    | int j => obtain ⟨t', rfl⟩ := ry; exact PySem.EqNone.ne_none_int (fin_bl I q (by simp))
    | str j => obtain ⟨t', rfl⟩ := ry; exact PySem.EqNone.ne_none_str (fin_bl I q (by simp))
    | _ => exact absurd (show false = true from hs) Bool.false_ne_true
  | bl i =>
    cases rx
    cases y with
    | non => cases ry; exact PySem.EqNone.ne_bool_none (fin_bl I q (by simp))
    | bl j => cases ry; exact ne_bool (fin_bl I q (congrArg not dec_bl))
    | str j => obtain ⟨t', rfl⟩ := ry; exact PySem.EqMixed.ne_bool_str (fin_bl I q (by simp))
    | _ => exact absurd (show false = true from hs) Bool.false_ne_true
  | int i =>
    obtain ⟨t, rfl⟩ := rx
    cases y with
    | non => cases ry; exact PySem.EqNone.ne_int_none (fin_bl I q (by simp))
    | int j => obtain ⟨t', rfl⟩ := ry; exact ne_int (fin_bl I q (congrArg not dec_int))
    | str j => obtain ⟨t', rfl⟩ := ry; exact PySem.EqMixed.ne_int_str (fin_bl I q (by simp))
    | _ => exact absurd (show false = true from hs) Bool.false_ne_true
  | str i =>
    obtain ⟨t, rfl⟩ := rx
    cases y with
    | non => cases ry; exact PySem.EqNone.ne_str_none (fin_bl I q (by simp))
    | bl j => cases ry; exact PySem.EqMixed.ne_str_bool (fin_bl I q (by simp))
    | int j => obtain ⟨t', rfl⟩ := ry; exact PySem.EqMixed.ne_str_int (fin_bl I q (by simp))
    | str j => obtain ⟨t', rfl⟩ := ry; exact ne_str (fin_bl I q (congrArg not dec_str))
    | _ => exact absurd (show false = true from hs) Bool.false_ne_true
  | byt i =>
    obtain ⟨t, rfl⟩ := rx
    cases y with
    | byt j => obtain ⟨t', rfl⟩ := ry; exact PySem.W.ne_bytes (fin_bl I q (congrArg not dec_byt))
    | _ => exact absurd (show false = true from hs) Bool.false_ne_true
  | _ => cases y <;> exact absurd (show false = true from hs) Bool.false_ne_true

theorem op_lt : OpR X (compareOp .Lt) (rI0 fun i j => .bl (decide (i < j))) := opB0 fun _ _ _ _ _ _ _ q => lt_int q
theorem op_le : OpR X (compareOp .LtE) (rI0 fun i j => .bl (decide (i ≤ j))) := opB0 fun _ _ _ _ _ _ _ q => le_int q
theorem op_gt : OpR X (compareOp .Gt) (rI0 fun i j => .bl (decide (j < i))) := opB0 fun _ _ _ _ _ _ _ q => gt_int q
theorem op_ge : OpR X (compareOp .GtE) (rI0 fun i j => .bl (decide (j ≤ i))) := opB0 fun _ _ _ _ _ _ _ q => ge_int q

theorem op_isN : OpR X (compareOp .Is) (fun x y H Q => y = .non ∧ Q (.bl (decide (x = .non))) H) := by
  intro pins s σ H x y v u Q I rx ry h
  obtain ⟨rfl, q⟩ := h
  cases ry
  refine is_none_gen (fin_bl I q ?_)
  cases x <;> first
    | (cases rx; rfl)
    | (obtain ⟨t, rfl⟩ := rx; rfl)


theorem OpR.or {f : Value → Value → Sem Value} {r r' : R2} (h : OpR X f r) (h' : OpR X f r') : OpR X f (fun x y H Q => r x y H Q ∨ r' x y H Q) := by
  intro pins s σ H x y v u Q I rx ry q
  rcases q with q | q
  · exact h pins s σ H x y v u Q I rx ry q
  · exact h' pins s σ H x y v u Q I rx ry q

theorem nomark (b : Expr) {op : CmpOp} (h : op ≠ .In := by decide) (h2 : op ≠ .NotIn := by decide) : behindInMarks op b = false := by
  have e1 : (op == CmpOp.In) = false := by cases op <;> first | rfl | exact absurd rfl h
  have e2 : (op == CmpOp.NotIn) = false := by cases op <;> first | rfl | exact absurd rfl h2
  cases b <;> simp [behindInMarks, e1, e2]
theorem pe_cmpR {op : CmpOp} {r : R2} (ho : OpR X (compareOp op) r) (ha : PE X a ta) (hb : PE X b tb) (hm : behindInMarks op b = false) : PE X (.Compare a [op] [b] pos) (tOp r ta tb) := by
  intro pins s σ H Q I h
  exact wpAny_Compare1 (binT ha hb I h fun v u s2 x y H2 I2 rx ry q => ho pins s2 σ H2 x y v u Q I2 rx ry q) hm
def tTest (t : TE) : TT := fun σ H Q => t σ H fun x H' => ∃ k, x = .bl k ∧ Q k H'
theorem pt_cmpR {op : CmpOp} {r : R2} (ho : OpR X (compareOp op) r) (ha : PE X a ta) (hb : PE X b tb) (hm : behindInMarks op b = false) : PT X (.Compare a [op] [b] pos) (tTest (tOp r ta tb)) := by
  intro pins s σ H Q I h
  refine wpAny_isTrue_Compare1 (thn (ha pins s σ H _ I h) fun v s1 ⟨x, H1, I1, r1, q1⟩ => thn (hb pins s1 σ H1 _ I1 q1) fun u s2 ⟨y, H2, I2, r2, q2⟩ =>
    thn (ho pins s2 σ H2 x y v u _ I2 r1 r2 q2) fun c s3 ⟨z, H3, I3, r3, k, e, q3⟩ => ?_) hm
  subst e
  cases r3
  exact wpAny_truthy_bool ⟨H3, I3, q3⟩
def tChain (r r' : R2) (ta tb tc : TE) : TE := fun σ H Q => ta σ H fun x H1 => tb σ H1 fun y H2 => r x y H2 fun z H3 => ∃ k, z = .bl k ∧
  (if k = true then tc σ H3 fun w' H4 => r' y w' H4 Q else Q (.bl false) H3)
theorem pe_chain {op op' : CmpOp} {r r' : R2} (ho : OpR X (compareOp op) r) (ho' : OpR X (compareOp op') r') (ha : PE X a ta) (hb : PE X b tb) (hc : PE X c tc)
    (hm : lastMarks [op, op'] [b, c] = false := by with_unfolding_all rfl) : PE X (.Compare a [op, op'] [b, c] pos) (tChain r r' ta tb tc) := by
  intro pins s σ H Q I h
  refine Compare_chain (thn (ha pins s σ H _ I h) fun v s1 ⟨x, H1, I1, r1, q1⟩ => chain_link (thn (hb pins s1 σ H1 _ I1 q1) fun u s2 ⟨y, H2, I2, r2, q2⟩ =>
    thn (ho pins s2 σ H2 x y v u _ I2 r1 r2 q2) fun d s3 ⟨z, H3, I3, r3, k, e, q3⟩ => ?_)) hm
  subst e
  cases r3
  refine wpAny_truthy_bool ?_
  cases k with
  | false => exact ite_ff ⟨.bl false, H3, I3, rfl, q3⟩
  | true => exact ite_tt (chain_last (thn (hc pins s3 σ H3 _ I3 q3) fun w' s4 ⟨z', H4, I4, r4, q4⟩ => ho' pins s4 σ H4 y z' u w' Q I4 r2 r4 q4))
theorem pt_chain {op op' : CmpOp} {r r' : R2} (ho : OpR X (compareOp op) r) (ho' : OpR X (compareOp op') r') (ha : PE X a ta) (hb : PE X b tb) (hc : PE X c tc)
    (hm : lastMarks [op, op'] [b, c] = false := by with_unfolding_all rfl) : PT X (.Compare a [op, op'] [b, c] pos) (tTest (tChain r r' ta tb tc)) := by
  intro pins s σ H Q I h
  refine isTrue_chain (thn (ha pins s σ H _ I h) fun v s1 ⟨x, H1, I1, r1, q1⟩ => test_link (thn (hb pins s1 σ H1 _ I1 q1) fun u s2 ⟨y, H2, I2, r2, q2⟩ =>
    thn (ho pins s2 σ H2 x y v u _ I2 r1 r2 q2) fun d s3 ⟨z, H3, I3, r3, k, e, q3⟩ => ?_)) hm
  subst e
  cases r3
  refine wpAny_truthy_bool ?_
  cases k with
  | false =>
    obtain ⟨k', e', q'⟩ := q3
    cases e'
    exact ite_ff ⟨H3, I3, q'⟩
  | true =>
    refine ite_tt (test_last (thn (hc pins s3 σ H3 _ I3 q3) fun w' s4 ⟨z', H4, I4, r4, q4⟩ => thn (ho' pins s4 σ H4 y z' u w' _ I4 r2 r4 q4) fun d' s5 ⟨z2, H5, I5, r5, k2, e2, q5⟩ => ?_))
    subst e2
    cases r5
    exact wpAny_truthy_bool ⟨H5, I5, q5⟩

theorem line63 : (sizeLine : Nat) < 2 ^ 63 := by rw [sizeLine_eq]; decide



theorem vals1 {x : V} {us : List Value} (r : Vals [x] us) : ∃ u, us = [u] ∧ RelV x u := by
  cases r with
  | cons r1 r2 => cases r2; exact ⟨_, rfl, r1⟩
theorem vals2 {x y : V} {us : List Value} (r : Vals [x, y] us) : ∃ u w', us = [u, w'] ∧ RelV x u ∧ RelV y w' := by
  cases r with
  | cons r1 r2 =>
    cases r2 with
    | cons r3 r4 => cases r4; exact ⟨_, _, rfl, r1, r3⟩
theorem call_abs : CallR X (.builtin "abs") (fun xs H Q => ∃ i, xs = [.int i] ∧ Q (.int (if i < 0 then -i else i)) H) := by
  intro pins s σ H xs us Q I r h
  obtain ⟨i, rfl, q⟩ := h
  obtain ⟨u, rfl, t, rfl⟩ := vals1 r
  exact call_abs_int fun u tk => ⟨.int (if i < 0 then -i else i), H, I.tok _, ⟨_, rfl⟩, q⟩
theorem call_max2 (hc : X.calm = true) : CallR X (.builtin "max") (fun xs H Q => ∃ i j, xs = [.int i, .int j] ∧ Q (.int (if j > i then j else i)) H) := by
  intro pins s σ H xs us Q I r h
  obtain ⟨i, j, rfl, q⟩ := h
  obtain ⟨u, w', rfl, ⟨t, rfl⟩, ⟨t', rfl⟩⟩ := vals2 r
  refine max_two_ints (I.ok.hd hc) fun h' tk k => ⟨_, H, I.kept k, ?_, q⟩
  by_cases hj : j > i
  · rw [if_pos hj, if_pos hj]; exact ⟨_, rfl⟩
  · rw [if_neg hj, if_neg hj]; exact ⟨_, rfl⟩
theorem call_min2 (hc : X.calm = true) : CallR X (.builtin "min") (fun xs H Q => ∃ i j, xs = [.int i, .int j] ∧ Q (.int (if j < i then j else i)) H) := by
  intro pins s σ H xs us Q I r h
  obtain ⟨i, j, rfl, q⟩ := h
  obtain ⟨u, w', rfl, ⟨t, rfl⟩, ⟨t', rfl⟩⟩ := vals2 r
  refine min_two_ints (I.ok.hd hc) fun h' tk k => ⟨_, H, I.kept k, ?_, q⟩
  by_cases hj : j < i
  · rw [if_pos hj, if_pos hj]; exact ⟨_, rfl⟩
  · rw [if_neg hj, if_neg hj]; exact ⟨_, rfl⟩
end
end L2

namespace L2
open PySem PySem.Spec PyProof.Rows

structure ObjM (h : Heap) (x dx C : Addr) (mA : Str → Option Value) : Prop where
  obj : h.get? x = some (PySem.W.instObj C dx)
  ns : h.Ns1 dx mA
  ne : dx ≠ x

theorem lookIn_ns {h : Heap} {dx : Addr} {mA : Str → Option Value} (n : h.Ns1 dx mA) : ∃ od, h.get? dx = some od ∧ ∀ name, PySem.W.lookIn name od = some (mA name) := by
  obtain ⟨o, es, ep, ho, hd, hk, _, hm⟩ := n
  refine ⟨o, ho, fun name => ?_⟩
  have e := hm name
  unfold nsFind findBy at e
  rw [← Array.find?_toList] at e
  unfold PySem.W.lookIn
  rw [hd]
  dsimp only
  split
  · rename_i y q
    rw [q] at e
    exact congrArg some e
  · rename_i q
    rw [q] at e
    have a : es.toList.any (·.refKey) = false := by
      rw [List.any_eq_false]
      intro y hy
      obtain ⟨z, t, hkey⟩ := hk y (Array.mem_toList_iff.mp hy)
      simp [DictEntry.refKey, hkey]
    have a' : ¬ es.toList.any (·.refKey) = true := by rw [a]; exact Bool.false_ne_true
    rw [if_neg a']
    exact congrArg some e

theorem ObjM.look {h : Heap} {x dx C : Addr} {mA : Str → Option Value} (I : ObjM h x dx C mA) : ∃ od, PySem.W.InstAt h x (PySem.W.instObj C dx) C (some od) ∧ ∀ name, PySem.W.lookIn name od = some (mA name) :=
  let ⟨od, ho, hl⟩ := lookIn_ns I.ns
  ⟨od, ⟨I.obj, rfl, rfl, ho⟩, hl⟩

section
variable {prog : Program} {w : World} {A : Around} {E : Value → Shared → Prop} {s : Shared} {K : PySem.W.Frag} {x dx C f : Addr} {mA : Str → Option Value} {name : Str} {v : Value}

theorem get_map {expr : Bool} {Q : Value → Shared → Prop} (X : K.In s.heap) (I : ObjM s.heap x dx C mA) (hg : PySem.W.plainGet K C name = true) (hh : PySem.W.hasDictIn K C = true)
    (ha : PySem.W.findIn K (.ref C) name = some none) (hv : mA name = some v) (hv' : PySem.W.handedIn v = true) (h : Q v { s with toks := s.toks + 1 }) :
    wpAny (model prog w) A (getAttr (.ref x) name expr) Q E s := by
  obtain ⟨od, J, hl⟩ := I.look
  exact PySem.W.get_value X J (PySem.W.plainGet_of hg).1 (PySem.W.findObj_own hh ha rfl (by rw [hl, hv])) hv' h


theorem get_meth {pl : Sem Bool} {Q : Value × List Value → Shared → Prop} (X : K.In s.heap) (I : ObjM s.heap x dx C mA) (hg : PySem.W.plainGet K C name = true)
    (hf : PySem.W.findIn K (.ref C) name = some (some (.ref f))) (ht : PySem.W.isFn K (.ref f) = true) (hv : mA name = none) (h : Q (.ref f, [.ref x]) s) :
    wpAny (model prog w) A (getMethod (.ref x) name pl) Q E s := by
  obtain ⟨od, J, hl⟩ := I.look
  exact PySem.W.method_fn X J (PySem.W.plainGet_of hg).1 (PySem.W.plainGet_of hg).2 hf (beq_iff_eq.mp ht) (by show (PySem.W.lookIn name od).map (·.isSome) = some false; rw [hl, hv]; rfl) h

theorem set_map {ns : List Str} {Q : Unit → Shared → Prop} (X : K.In s.heap) (I : ObjM s.heap x dx C mA)
    (hs : PySem.W.findIn K (.ref C) "__setattr__" = some (some (.builtin "object.__setattr__"))) (hp : PySem.W.plainOver K C = true) (ht : PySem.W.takerIn K C name = some none) (hh : PySem.W.hasDictIn K C = true)
    (hw : PySem.Within mA ns) (hsz : ns.length ≤ sizeLine)
    (h : ∀ h', ObjM h' x dx C (fun y => if y = name then some v else mA y) → Heap.SameBut dx s.heap h' → Q () { s with heap := h', toks := s.toks + 2 }) :
    wpAny (model prog w) A (setAttr (.ref x) name v) Q E s := by
  obtain ⟨od, J, hl⟩ := I.look
  refine PySem.W.set_plain X J hs (PySem.W.osa_open (s := { s with toks := s.toks + 1 }) (r := none) X J hp ht fun b => ?_)
  obtain ⟨cd, hc, hd'⟩ := PySem.W.any_some hh
  have hx : s.heap.get? x = some ⟨.ref C, some dx, .plain, #[]⟩ := I.obj
  refine wpAny_bind (wpAny_pure (wpAny_bind (wpAny_bind (wpAny_loadPart hx (wpAny_bind (PySem.W.Looks.here (s := { s with toks := s.toks + 1 }) (PySem.W.looks_clsIn X hc) ?_))))))
  rw [hd']
  refine wpAny_pure (a := some dx) (wpAny_bind (wpAny_pure (wpAny_bind ?_)))
  refine wpAny_nsSet1 (s := { s with toks := s.toks + 1 }) I.ns fun h' hn2 hs2 => ?_
  obtain ⟨oD, esD, epD, hoD, hdD, hcD⟩ := hn2.count (PySem.Within.cons name v hw)
  refine wpAny_bind (wpAny_lookBehind hoD (by rw [hdD]; exact pastItsLine_dict (Nat.le_trans hcD (by rw [List.length_cons]; omega))) ?_)
  exact wpAny_pure (h _ ⟨(hs2.2 _ (Ne.symm I.ne)).trans I.obj, hn2, I.ne⟩ hs2)

theorem make_map {R : Result → Shared → Prop} {vs : List Value} {kw : List (Str × Value)} (X : K.In s.heap) (hm : PySem.W.makesIn K C = true)
    (hi : PySem.W.findIn K (.ref C) "__init__" = some (some (.ref f))) (hf : PySem.W.typeIn K (.ref f) = some (.type "function"))
    (h : codeAny (model prog w) (A.under (.builtin "type.__call__" ⟨.ref C :: vs, kw⟩)) (.call (.ref f) ⟨.ref (s.heap.objs.size + 1) :: vs, kw⟩) (PySem.W.InitBack (s.heap.objs.size + 1) R)
      { s with heap := (s.heap.push PySem.W.emptyDict).push (PySem.W.instObj C s.heap.objs.size) }) :
    codeAny (model prog w) A (.call (.ref C) ⟨vs, kw⟩) R s := by
  obtain ⟨hh, g, d, t, os⟩ := s
  exact PySem.W.make_core (PySem.W.makes_of X hm) (PySem.W.looks_findIn X hi) (fun self => PySem.W.bind_fn X self hf) (.inl rfl) h
end

def putF (f : Str) (v : V) : List (Str × V) → List (Str × V)
  | [] => [(f, v)]
  | (g, x) :: r => if g = f then (g, v) :: r else (g, x) :: putF f v r
theorem lookup_putF (f g : Str) (v : V) : ∀ fs : List (Str × V), (putF f v fs).lookup g = if g = f then some v else fs.lookup g
  | [] => by
    show List.lookup g [(f, v)] = _
    by_cases h : g = f
    · have hb : (g == f) = true := beq_iff_eq.mpr h
      simp only [List.lookup, hb, if_pos h]
    · have hb : (g == f) = false := beq_eq_false_iff_ne.mpr h
      simp only [List.lookup, hb, if_neg h]
  | (k, x) :: r => by
    have ih := lookup_putF f g v r
    rw [show putF f v ((k, x) :: r) = (if k = f then (k, v) :: r else (k, x) :: putF f v r) from rfl]
    by_cases hk : k = f
    · rw [if_pos hk]
      by_cases h : g = k
      · have hb : (g == k) = true := beq_iff_eq.mpr h
        simp only [List.lookup, hb, if_pos (h.trans hk)]
      · have hb : (g == k) = false := beq_eq_false_iff_ne.mpr h
        simp only [List.lookup, hb, if_neg (fun e : g = f => h (e.trans hk.symm))]
    · rw [if_neg hk]
      by_cases h : g = k
      · have hb : (g == k) = true := beq_iff_eq.mpr h
        simp only [List.lookup, hb, if_neg (fun e : g = f => hk (h.symm.trans e))]
      · have hb : (g == k) = false := beq_eq_false_iff_ne.mpr h
        simp only [List.lookup, hb]
        exact ih
theorem keys_putF (f : Str) (v : V) : ∀ fs : List (Str × V), f ∈ (putF f v fs).map (·.1) ∧ ∀ g, g ∈ fs.map (·.1) → g ∈ (putF f v fs).map (·.1)
  | [] => ⟨by simp [putF], fun g h => by simp at h⟩
  | (k, x) :: r => by
    obtain ⟨i1, i2⟩ := keys_putF f v r
    rw [show putF f v ((k, x) :: r) = (if k = f then (k, v) :: r else (k, x) :: putF f v r) from rfl]
    by_cases hk : k = f
    · rw [if_pos hk]
      subst hk
      exact ⟨by simp, fun g h => by simpa using h⟩
    · rw [if_neg hk]
      refine ⟨?_, fun g h => ?_⟩
      · rw [List.map_cons]
        exact List.mem_cons_of_mem _ i1
      · rw [List.map_cons] at h ⊢
        rcases List.mem_cons.mp h with e | e
        · exact List.mem_cons.mpr (.inl e)
        · exact List.mem_cons_of_mem _ (i2 g e)
theorem length_putF (f : Str) (v : V) : ∀ fs : List (Str × V), (putF f v fs).length ≤ fs.length + 1
  | [] => by simp [putF]
  | (k, x) :: r => by
    have ih := length_putF f v r
    rw [show putF f v ((k, x) :: r) = (if k = f then (k, v) :: r else (k, x) :: putF f v r) from rfl]
    by_cases hk : k = f
    · rw [if_pos hk, List.length_cons, List.length_cons]; omega
    · rw [if_neg hk, List.length_cons, List.length_cons]; omega

theorem RelO.some_of {v : V} {o : Option Value} (r : RelO (some v) o) : ∃ u, o = some u ∧ RelV v u := by
  cases o with
  | none => exact (show False from r).elim
  | some u => exact ⟨u, rfl, r⟩
theorem RelO.none_of {o : Option Value} (r : RelO none o) : o = none := by
  cases o with
  | none => rfl
  | some u => exact (show False from r).elim
theorem handed_of {v : V} {u : Value} (r : RelV v u) : PySem.W.handedIn u = true := by
  cases v with
  | non => cases (show u = Value.none from r); rfl
  | bl b => cases (show u = Value.bool b from r); rfl
  | int i => obtain ⟨t, e⟩ := (show ∃ t, u = Value.int i t from r); cases e; rfl
  | str x => obtain ⟨t, e⟩ := (show ∃ t, u = Value.str x t from r); cases e; rfl
  | byt b => obtain ⟨t, e⟩ := (show ∃ t, u = Value.bytes b t from r); cases e; rfl
  | flt b => obtain ⟨t, e⟩ := (show ∃ t, u = Value.float b t from r); cases e; rfl
  | ref a => cases (show u = Value.ref a from r); rfl
  | ty n => cases (show u = Value.type n from r); rfl

section
variable {P : Program} {w : World} {H H' : Hp} {h h' : Heap} {a C dx : Addr} {fs fs' : List (Str × V)}
theorem ins_get (hok : HOk P w H h) (e : H a = some (.ins C dx fs)) : ∃ mA, ObjM h a dx C mA ∧ (∀ f, RelO (fs.lookup f) (mA f)) ∧ PySem.Within mA (fs.map (·.1)) ∧ fs.length ≤ 1000 ∧ H dx = some (.own a) := by
  obtain ⟨d, z, ne, ob, mA, n, r, q⟩ := (show ObjOk P w H h a (.ins C dx fs) from hok a _ e)
  exact ⟨mA, ⟨ob, n, ne⟩, r, q, z, d⟩
end

structure Cls (K : PySem.W.Frag) (C : Addr) : Prop where
  pg : PySem.W.plainGet K C Str.empty = true
  hd : PySem.W.hasDictIn K C = true
  po : PySem.W.plainOver K C = true
  sa : PySem.W.findIn K (.ref C) "__setattr__" = some (some (.builtin "object.__setattr__"))
theorem Cls.get {K : PySem.W.Frag} {C : Addr} (c : Cls K C) (f : Str) : PySem.W.plainGet K C f = true := c.pg
def NoAttr (K : PySem.W.Frag) (C : Addr) (f : Str) : Prop := PySem.W.findIn K (.ref C) f = some none
theorem NoAttr.taker {K : PySem.W.Frag} {C : Addr} {f : Str} (n : NoAttr K C f) : PySem.W.takerIn K C f = some none := by
  unfold PySem.W.takerIn
  rw [show PySem.W.findIn K (.ref C) f = some none from n]
  rfl
structure Meth (K : PySem.W.Frag) (C : Addr) (m : Str) (f : Addr) : Prop where
  at_ : PySem.W.findIn K (.ref C) m = some (some (.ref f))
  fn : PySem.W.isFn K (.ref f) = true
  kp : PySem.W.keepIn K (.ref f) = true

section
variable {X : Cx} {pins : List (Addr × Obj)} {σ : St} {H : Hp} {s : Shared} {a C dx : Addr} {fs : List (Str × V)} {f : Str} {v : V} {A : Around} {E : Value → Shared → Prop}

theorem getattr_ok {b : Bool} {Q : Value → Shared → Prop} (I : Inv X pins σ H s) (e : H a = some (.ins C dx fs)) (c : Cls X.K C) (n : NoAttr X.K C f) (l : fs.lookup f = some v)
    (h : ∀ u s', Inv X pins σ H s' → RelV v u → Q u s') : wpAny (model X.prog X.w) A (getAttr (.ref a) f b) Q E s := by
  obtain ⟨mA, O, r, _, _, _⟩ := ins_get I.hok e
  obtain ⟨u, hu, ru⟩ := RelO.some_of (v := v) (o := mA f) (by rw [← l]; exact r f)
  exact get_map I.kIn O (c.get f) c.hd n hu (handed_of ru) (h u _ (I.tok _) ru)


theorem getmeth_ok {m : Str} {g : Addr} {pl : Sem Bool} {Q : Value × List Value → Shared → Prop} (I : Inv X pins σ H s) (e : H a = some (.ins C dx fs)) (c : Cls X.K C) (k : Meth X.K C m g) (l : fs.lookup m = none)
    (h : Q (.ref g, [.ref a]) s) : wpAny (model X.prog X.w) A (getMethod (.ref a) m pl) Q E s := by
  obtain ⟨mA, O, r, _, _, _⟩ := ins_get I.hok e
  have hn : mA m = none := RelO.none_of (by rw [← l]; exact r m)
  exact get_meth I.kIn O (c.get m) k.at_ k.fn hn h

theorem setattr_ok {y : V} {u : Value} {Q : Unit → Shared → Prop} (I : Inv X pins σ H s) (e : H a = some (.ins C dx fs)) (c : Cls X.K C) (n : NoAttr X.K C f) (hl : fs.length < 1000) (ry : RelV y u)
    (h : ∀ s', Inv X pins σ (upd H a (.ins C dx (putF f y fs))) s' → Q () s') : wpAny (model X.prog X.w) A (setAttr (.ref a) f u) Q E s := by
  obtain ⟨mA, O, r, wi, _, ho⟩ := ins_get I.hok e
  have hz : (fs.map (·.1)).length ≤ sizeLine := by rw [List.length_map, sizeLine_eq]; omega
  refine set_map I.kIn O c.sa c.po n.taker c.hd wi hz fun h' O' sb => h _ ?_
  have hd : ∃ o, h'.get? dx = some o := let ⟨o, _, _, e', _⟩ := O'.ns; ⟨o, e'⟩
  refine I.write (x := a) (e := dx) (by rw [e]; exact True.intro) (.inr ho) (fun b q hb z => (sb.2 b hb).trans z) hd ?_
  refine ⟨by rw [upd_ne O.ne]; exact ho, ?_, O.ne, O'.obj, _, O'.ns, fun g => ?_, fun g hg => ?_⟩
  · have := length_putF f y fs; omega
  · show RelO ((putF f y fs).lookup g) (if g = f then some u else mA g)
    rw [lookup_putF]
    by_cases q : g = f
    · rw [if_pos q, if_pos q]; exact ry
    · rw [if_neg q, if_neg q]; exact r g
  · by_cases q : g = f
    · rw [q]; exact (keys_putF f y fs).1
    · refine (keys_putF f y fs).2 g (wi g fun z => hg ?_)
      show (if g = f then some u else mA g) = none
      rw [if_neg q]; exact z

theorem Inv.made (I : Inv X pins σ H s) : Inv X pins σ (upd (upd H s.heap.objs.size (.own (s.heap.objs.size + 1))) (s.heap.objs.size + 1) (.ins C s.heap.objs.size []))
    { s with heap := (s.heap.push PySem.W.emptyDict).push (PySem.W.instObj C s.heap.objs.size) } := by
  have e1 : (s.heap.push PySem.W.emptyDict).get? s.heap.objs.size = some PySem.W.emptyDict := Heap.get?_push_size s.heap rfl
  have e2 : ((s.heap.push PySem.W.emptyDict).push (PySem.W.instObj C s.heap.objs.size)).get? (s.heap.objs.size + 1) = some (PySem.W.instObj C s.heap.objs.size) := by
    have := Heap.get?_push_size (s.heap.push PySem.W.emptyDict) (o := PySem.W.instObj C s.heap.objs.size) rfl
    rwa [Heap.size_push] at this
  have e3 : (s.heap.push PySem.W.emptyDict).Ns s.heap.objs.size (fun _ => none) := ⟨PySem.W.emptyDict, #[], _, e1, rfl, (fun e he => absurd he (by simp)), fun _ => rfl⟩
  have I1 := I.laid (a := s.heap.objs.size) (o := .own (s.heap.objs.size + 1)) (h' := s.heap.push PySem.W.emptyDict) (t' := s.toks) (fun b u q => Heap.get?_push_of_some _ q) (Nat.le_refl _) ⟨_, e1⟩
  refine I1.laid (a := s.heap.objs.size + 1) (o := .ins C s.heap.objs.size []) (t' := s.toks) (fun b u q => Heap.get?_push_of_some _ q) (Nat.le_of_eq (Heap.size_push _ _)) ?_
  have ne : s.heap.objs.size ≠ s.heap.objs.size + 1 := Nat.ne_of_lt (Nat.lt_succ_self _)
  refine ⟨by rw [upd_ne ne, upd_same], Nat.zero_le _, ne, e2, fun _ => none, (Heap.Ns1.of_empty e3).at fun o q => Heap.get?_push_of_some _ q, fun _ => True.intro, fun y hy => absurd rfl hy⟩

theorem attr_of {prog : Program} {w : World} {env : Env} {e : Expr} {f : Str} {pos : Pos} {s : Shared} {Q : Value → Shared → Prop} (hb : attributeBase e f env (eval e env) = eval e env)
    (h : wpAny (model prog w) A (eval e env) (fun o s₁ => wpAny (model prog w) A (getAttr o f true) Q E s₁) E s) : wpAny (model prog w) A (eval (.Attribute e f pos) env) Q E s :=
  Attribute_any_ h (by rw [arm_eval_Attribute, hb])
end

def tFld (K : PySem.W.Frag) (ta : TE) (f : Str) : TE := fun σ H Q => ta σ H fun x H1 => ∃ a C dx fs v, x = .ref a ∧ H1 a = some (.ins C dx fs) ∧ Cls K C ∧ NoAttr K C f ∧ fs.lookup f = some v ∧ Q v H1
def sFld (K : PySem.W.Frag) (ta tv : TE) (f : Str) : TS := fun D σ H => tv σ H fun y H1 => ta σ H1 fun x H2 => ∃ a C dx fs, x = .ref a ∧ H2 a = some (.ins C dx fs) ∧ Cls K C ∧ NoAttr K C f ∧ fs.length < 1000 ∧
  D.nx σ (upd H2 a (.ins C dx (putF f y fs)))

section
variable {X : Cx} {o e value : Expr} {f : Str} {pos pos' tpos : Pos} {ta tv : TE}
theorem pe_fld (he : PE X e ta) (hb : attributeBase e f X.env (eval e X.env) = eval e X.env) : PE X (.Attribute e f pos) (tFld X.K ta f) := by
  intro pins s σ H Q I h
  refine attr_of hb (thn (he pins s σ H _ I h) fun u s1 ⟨x, H1, I1, rx, a, C, dx, fs, v, ex, ea, c, n, l, q⟩ => ?_)
  subst ex
  obtain rfl : u = Value.ref a := rx
  exact getattr_ok I1 ea c n l fun u' s2 I2 ru => ⟨v, H1, I2, ru, q⟩
theorem ps_fld (ha : PE X o ta) (hv : PE X value tv) (hs : swapsWith value (some (.Attribute o f pos')) pos.line X.env = pure false) : PS X (.Assign [.Attribute o f pos'] value pos) (sFld X.K ta tv f) := by
  intro pins s σ H D I h
  refine plainObj_wpAny_Assign_Attribute (thn (hv pins s σ H _ I h) fun u s1 ⟨y, H1, I1, ry, q⟩ => thn (ha pins s1 σ H1 _ I1 q) fun ov s2 ⟨x, H2, I2, rx, a, C, dx, fs, ex, ea, c, n, l, q2⟩ => ?_) hs
  subst ex
  obtain rfl : ov = Value.ref a := rx
  exact setattr_ok I2 ea c n l ry fun s3 I3 => ⟨σ, _, I3, q2⟩

end

section
variable {X : Cx} {pins : List (Addr × Obj)} {σ : St} {H : Hp} {s : Shared} {A : Around} {E : Value → Shared → Prop} {Q : Value → Shared → Prop} {c : Value} {b : Bool}
end
end L2

namespace L2
open PySem PySem.Spec PyProof.Rows

structure Room (k : Nat) (A : Around) : Prop where
  hd : A.handled = none
  dp : A.depth + 3 * k + 5 < recursionLimit
  un : A.units + 16 * k + 200 < cLine
theorem Room.mono {j k : Nat} {A : Around} (r : Room k A) (h : j ≤ k) : Room j A := ⟨r.hd, by have := r.dp; omega, by have := r.un; omega⟩
theorem Room.deeper {k : Nat} {A : Around} (r : Room (k + 1) A) (env : Env) : Room k (A.deeper env) :=
  ⟨r.hd, by have := r.dp; show A.depth + 1 + 3 * k + 5 < _; omega, by have := r.un; show A.units + 3 + 16 * k + 200 < _; omega⟩
theorem make_depth {A : Around} {C : Addr} {us : List Value} {kw : List (Str × Value)} : (A.under (.builtin "type.__call__" ⟨.ref C :: us, kw⟩)).depth = A.depth + 1 := by
  first | rfl | simp [Around.under, Code.weight, Code.isCreation, Code.isGuard, Code.isCaller, Code.frames, Code.isFrame, guardIds]
theorem make_units {A : Around} {C : Addr} {us : List Value} {kw : List (Str × Value)} : (A.under (.builtin "type.__call__" ⟨.ref C :: us, kw⟩)).units = A.units + 1 := by
  first | rfl | simp [Around.under, Code.cUnits, Code.frames, Code.isFrame]
theorem Room.make {k : Nat} {A : Around} (r : Room (k + 1) A) (C : Addr) (us : List Value) (kw : List (Str × Value)) : Room k (A.under (.builtin "type.__call__" ⟨.ref C :: us, kw⟩)) :=
  ⟨r.hd, by have := r.dp; rw [make_depth]; omega, by have := r.un; rw [make_units]; omega⟩
theorem Room.depth {k : Nat} {A : Around} (r : Room k A) : A.depth < recursionLimit := by have := r.dp; omega
theorem Room.units {k : Nat} {A : Around} (r : Room k A) : A.units + 64 < cLine := by have := r.un; omega

def tNil : TA := fun _ H Q => Q [] H
def tCons (ta : TE) (tr : TA) : TA := fun σ H Q => ta σ H fun x H1 => tr σ H1 fun xs H2 => Q (x :: xs) H2
section
variable {X : Cx} {e : Expr} {es : List Expr} {te : TE} {t : TA} {pos : Pos}
theorem pa_nil : PA X [] tNil := fun _ _ _ _ H Q I h => Calls.spliced_nil ⟨[], H, I, .nil, h⟩
theorem pa_cons (ha : PE X e te) (hr : PA X es t) (hs : starEach (e :: es) X.env = (false, eval e X.env) :: starEach es X.env := by rfl) : PA X (e :: es) (tCons te t) := by
  intro pos pins s σ H Q I h
  rw [hs]
  show wpAny _ _ (spliced ((false, eval e X.env) :: backTo pos (starEach es X.env))) _ _ s
  refine Calls.spliced_cons (thn (ha pins s σ H _ I h) fun u s1 ⟨x, H1, I1, r1, q1⟩ => ?_)
  exact thn (hr pos pins s1 σ H1 _ I1 q1) fun us s2 ⟨xs, H2, I2, r2, q2⟩ => ⟨x :: xs, H2, I2, .cons r1 r2, q2⟩

def tLst (t : TA) : TE := fun σ H Q => t σ H fun xs H1 => xs.length ≤ sizeLine ∧ ∀ p, H1 p = none → Q (.ref p) (upd H1 p (.lst xs))
theorem pe_lst (h : PA X es t) : PE X (.List es pos) (tLst t) := by
  intro pins s σ H Q I hq
  refine wpAny_List_spliced (thn (h pos pins s σ H _ I hq) fun us s1 ⟨xs, H1, I1, r, z, q⟩ => ⟨by rw [← r.length]; exact z, ?_⟩)
  have hf : H1 s1.heap.objs.size = none := I1.hok.fresh (Nat.le_refl _)
  refine ⟨.ref s1.heap.objs.size, upd H1 s1.heap.objs.size (.lst xs), I1.laid (t' := s1.toks) (fun b u e => Heap.get?_push_of_some _ e) (Nat.le_refl _) ?_, rfl, q _ hf⟩
  exact ⟨z, us, 0, r, Heap.get?_push_size _ rfl⟩
end

abbrev Sp := List V → Hp → VK → XK → Prop
abbrev CXT := List Env → Hp → Shared → XK → Value → Shared → Prop

structure Env0 (P : Program) (w : World) (K : PySem.W.Frag) (mg : Str → Option Value) (base : Heap) (A : Around) (outer : List Env) (s : Shared) (H : Hp) : Prop where
  frames : A.frames = some outer
  mod : Mod K mg base
  bs : ∀ b o, base.get? b = some o → s.heap.get? b = some o ∧ H b = none
  bsz : base.objs.size ≤ s.heap.objs.size
  funs : s.heap.FunFrames base outer
  frf : ∀ b ∈ frs outer, H b = none
  hok : HOk P w H s.heap
  bare : AllBare s.gens
def CE (outer : List Env) (P : Program) (w : World) (H : Hp) (s : Shared) (Q : VK) (u : Value) (s' : Shared) : Prop :=
  ∃ v H', s'.os = s.os ∧ AllBare s'.gens ∧ Un (frs outer) [] H H' s.heap s'.heap ∧ HOk P w H' s'.heap ∧ RelV v u ∧ Q v H'
def CR (CX : CXT) (outer : List Env) (P : Program) (w : World) (H : Hp) (s : Shared) (Q : VK) (E : XK) (r : Result) (s' : Shared) : Prop :=
  match r with
  | .ok (.ret u) => CE outer P w H s Q u s'
  | .ok _ => False
  | .error e => CX outer H s E e s'
structure FnOk (P : Program) (w : World) (K : PySem.W.Frag) (mg : Str → Option Value) (base : Heap) (CX : CXT) (k : Nat) (f : Addr) (fd : FuncData) (ps : List Str) (sp : Sp) : Prop where
  len : ∀ vs H Q E, sp vs H Q E → vs.length = ps.length
  run : ∀ (A : Around) (outer : List Env) (s : Shared) (H : Hp) (args : Args) (us : List Value) (vs : List V) (Q : VK) (E : XK), Room k A → Env0 P w K mg base A outer s H → BindsTo s fd args (ps.zip us) → Vals vs us → sp vs H Q E →
    codeAny (model P w) A (.call (.ref f) args) (CR CX outer P w H s Q E) s
theorem FnOk.mono {P : Program} {w : World} {K : PySem.W.Frag} {mg : Str → Option Value} {base : Heap} {CX : CXT} {j k : Nat} {f : Addr} {fd : FuncData} {ps : List Str} {sp : Sp} (F : FnOk P w K mg base CX j f fd ps sp) (h : j ≤ k) :
    FnOk P w K mg base CX k f fd ps sp := ⟨F.len, fun A outer s H args us vs Q E hr => F.run A outer s H args us vs Q E (hr.mono h)⟩
theorem FnOk.imp {P : Program} {w : World} {K : PySem.W.Frag} {mg : Str → Option Value} {base : Heap} {CX : CXT} {k : Nat} {f : Addr} {fd : FuncData} {ps : List Str} {sp sp' : Sp} (F : FnOk P w K mg base CX k f fd ps sp)
    (h : ∀ vs H Q E, sp' vs H Q E → sp vs H Q E) : FnOk P w K mg base CX k f fd ps sp' :=
  ⟨fun vs H Q E q => F.len vs H Q E (h _ _ _ _ q), fun A outer s H args us vs Q E hr he hb hv hs => F.run A outer s H args us vs Q E hr he hb hv (h _ _ _ _ hs)⟩

theorem Env0.make {P : Program} {w : World} {K : PySem.W.Frag} {mg : Str → Option Value} {base : Heap} {A : Around} {outer : List Env} {s : Shared} {H : Hp} (e : Env0 P w K mg base A outer s H) (C : Addr) (us : List Value) (kw : List (Str × Value)) :
    Env0 P w K mg base (A.under (.builtin "type.__call__" ⟨.ref C :: us, kw⟩)) outer s H := ⟨by first | exact e.frames | (simpa [Around.under, Code.envs, Code.isFrame, pushEnvs] using e.frames), e.mod, e.bs, e.bsz, e.funs, e.frf, e.hok, e.bare⟩

section
variable {X : Cx} {pins : List (Addr × Obj)} {σ : St} {H : Hp} {s s' : Shared}
theorem Inv.env0 (I : Inv X pins σ H s) : Env0 X.prog X.w X.K X.mg X.base X.A X.stack s H :=
  ⟨I.ok.frames, I.ok.mod, I.bs, Nat.le_trans I.ok.bsz I.sz, I.stack, I.stkFree, I.hok, I.bare⟩
theorem Inv.after {Q : VK} {u : Value} (I : Inv X pins σ H s) (h : CE X.stack X.prog X.w H s Q u s') : EP X pins σ Q u s' := by
  obtain ⟨v, H', os, bare, un, hok, r, q⟩ := h
  obtain ⟨hh, g, d, t, os'⟩ := s'
  obtain rfl : os' = s.os := os
  exact ⟨v, H', I.call (h' := hh) (g' := g) (d' := d) (t' := t) (ch := []) un hok bare (fun b z => absurd z (by simp)), r, q⟩
end

def tCall (sp : Sp) (dvs : List V) (E : XK) (t : TA) : TE := fun σ H Q => t σ H fun vs H1 => sp (vs ++ dvs) H1 Q E
def tMeth (C : Addr) (m : Str) (sp : Sp) (dvs : List V) (E : XK) (ta : TE) (t : TA) : TE := fun σ H Q => ta σ H fun x H1 => ∃ a dx fs, x = .ref a ∧ H1 a = some (.ins C dx fs) ∧ fs.lookup m = none ∧
  t σ H1 fun vs H2 => sp (x :: (vs ++ dvs)) H2 Q E
def tMake (C : Addr) (sp : Sp) (dvs : List V) (E : XK) (t : TA) : TE := fun σ H Q => t σ H fun vs H1 => ∀ x dx, H1 x = none → H1 dx = none → dx ≠ x →
  sp (.ref x :: (vs ++ dvs)) (upd (upd H1 dx (.own x)) x (.ins C dx [])) (fun v H2 => v = .non ∧ Q (.ref x) H2) E

def Binds (K : PySem.W.Frag) (fd : FuncData) (ps : List Str) (ds : List Value) : Prop :=
  ∀ (s : Shared) (us : List Value), K.In s.heap → (us ++ ds).length = ps.length → BindsTo s fd ⟨us, []⟩ (ps.zip (us ++ ds))
theorem Binds.all {K : PySem.W.Frag} {fd : FuncData} {ps : List Str} (h : ∀ us : List Value, us.length = ps.length → bindArgs fd ⟨us, []⟩ = pure (ps.zip us)) : Binds K fd ps [] := fun s us _ hl => by
  rw [List.append_nil] at hl ⊢
  exact .of_eq (h us hl)

def Passes (CX : CXT) (X : Cx) (E : XK) : Prop := ∀ (pins : List (Addr × Obj)) (σ : St) (H : Hp) (s : Shared) (e : Value) (s' : Shared), Inv X pins σ H s → CX X.stack H s E e s' → X.xe e s'

section
variable {X : Cx} {CX : CXT} {k : Nat} {f C : Addr} {fd : FuncData} {ps : List Str} {sp : Sp} {dvs : List V} {ds : List Value} {E : XK} {x m : Str} {p pos apos : Pos} {e o : Expr} {es : List Expr} {ta : TE} {t : TA}

theorem run_fn {pins : List (Addr × Obj)} {σ : St} {H : Hp} {s : Shared} {Q : VK} {us : List Value} {vs : List V} (F : FnOk X.prog X.w X.K X.mg X.base CX k f fd ps sp) (hr : Room k X.A) (hb : Binds X.K fd ps ds) (hd : Vals dvs ds) (hx : Passes CX X E)
    (I : Inv X pins σ H s) (r : Vals vs us) (h : sp (vs ++ dvs) H Q E) : wpAny (model X.prog X.w) X.A (call (.ref f) us) (EP X pins σ Q) X.xe s := by
  have r2 : Vals (vs ++ dvs) (us ++ ds) := r.append hd
  have hl : (us ++ ds).length = ps.length := by rw [← r2.length]; exact F.len _ _ _ _ h
  refine wpAny_call (codeAny_mono (F.run X.A X.stack s H ⟨us, []⟩ (us ++ ds) (vs ++ dvs) Q E hr I.env0 (hb s us I.kIn hl) r2 h) fun r s' hq => ?_)
  cases r with
  | error e => exact hx pins σ H s e s' I hq
  | ok fl =>
    cases fl with
    | ret u => exact I.after hq
    | next => exact False.elim hq
    | brk => exact False.elim hq
    | cont => exact False.elim hq

theorem pe_call (F : FnOk X.prog X.w X.K X.mg X.base CX k f fd ps sp) (hr : Room k X.A) (hg : Gl X x) (hm : X.mg x = some (.ref f)) (hk : PySem.W.keepIn X.K (.ref f) = true) (hb : Binds X.K fd ps ds) (hd : Vals dvs ds) (hx : Passes CX X E)
    (ha : PA X (e :: es) t) (hdb : (x == ("__debug__" : Str)) = false := by decide) (he : starEach (e :: es) X.env = (false, eval e X.env) :: starEach es X.env := by rfl) (hpl : (backTo pos (starEach es X.env)).any (·.1) = false := by rfl) :
    PE X (.Call (.Name x p) (e :: es) [] pos) (tCall sp dvs E t) := by
  intro pins s σ H Q I h
  refine wpAny_Call_Name_kw (ld_glob I hg hm ?_ hdb)
  refine PySem.W.callWith_K (h₀ := X.base) I.ok.mod.kin hk (thn (ha pos pins s σ H _ I h) fun us s1 ⟨vs, H1, I1, r, q⟩ => ⟨I1.kIn, ?_⟩) he hpl
  exact run_fn F hr hb hd hx I1 r q

theorem pe_meth {pl : Sem Bool} (he : PE X o ta) (c : Cls X.K C) (hm : Meth X.K C m f) (F : FnOk X.prog X.w X.K X.mg X.base CX k f fd ps sp) (hr : Room k X.A) (hb : Binds X.K fd ps ds) (hd : Vals dvs ds) (hx : Passes CX X E) (ha : PA X (e :: es) t)
    (hst : starEach (e :: es) X.env = (false, eval e X.env) :: starEach es X.env := by rfl) (hpl : (backTo pos (starEach es X.env)).any (·.1) = false := by rfl)
    (ht : eval (.Call (.Attribute o m apos) (e :: es) [] pos) X.env = (do
      let ov ← eval o X.env
      standAt apos.atName
      let (f, first) ← holding [ov] (getMethod ov m pl)
      callWith pos f first (backTo pos (starEach (e :: es) X.env)) (backToKw pos (keywordEach [] X.env))) := by rfl) :
    PE X (.Call (.Attribute o m apos) (e :: es) [] pos) (tMeth C m sp dvs E ta t) := by
  intro pins s σ H Q I h
  refine PySem.W.methodCall_KW (pl := pl) (thn (he pins s σ H _ I h) fun u s1 ⟨x, H1, I1, rx, a, dx, fs, ex, ea, l, q⟩ => ?_) ht
  subst ex
  obtain rfl : u = Value.ref a := rx
  refine getmeth_ok I1 ea c hm l ?_
  refine PySem.W.callWith_K (first := [.ref a]) (h₀ := X.base) I.ok.mod.kin hm.kp (thn (ha pos pins s1 σ H1 _ I1 q) fun us s2 ⟨vs, H2, I2, r, q2⟩ => ⟨I2.kIn, ?_⟩) hst hpl
  exact run_fn (us := .ref a :: us) (vs := .ref a :: vs) F hr hb hd hx I2 (.cons rfl r) q2
theorem pe_meth0 {pl : Sem Bool} (he : PE X o ta) (c : Cls X.K C) (hm : Meth X.K C m f) (F : FnOk X.prog X.w X.K X.mg X.base CX k f fd ps sp) (hr : Room k X.A) (hb : Binds X.K fd ps ds) (hd : Vals dvs ds) (hx : Passes CX X E)
    (ht : eval (.Call (.Attribute o m apos) [] [] pos) X.env = (do
      let ov ← eval o X.env
      standAt apos.atName
      let (f, first) ← holding [ov] (getMethod ov m pl)
      callWith pos f first (backTo pos (starEach [] X.env)) (backToKw pos (keywordEach [] X.env))) := by rfl) :
    PE X (.Call (.Attribute o m apos) [] [] pos) (tMeth C m sp dvs E ta tNil) := by
  intro pins s σ H Q I h
  refine PySem.W.methodCall_KW (pl := pl) (thn (he pins s σ H _ I h) fun u s1 ⟨x, H1, I1, rx, a, dx, fs, ex, ea, l, q⟩ => ?_) ht
  subst ex
  obtain rfl : u = Value.ref a := rx
  refine getmeth_ok I1 ea c hm l ?_
  exact PySem.W.callWith_K0 (first := [.ref a]) I1.kIn hm.kp (run_fn (us := [.ref a]) (vs := [.ref a]) F hr hb hd hx I1 (.cons rfl .nil) q)

structure Mk (K : PySem.W.Frag) (C f : Addr) : Prop where
  makes : PySem.W.makesIn K C = true
  init : PySem.W.findIn K (.ref C) "__init__" = some (some (.ref f))
  fn : PySem.W.isFn K (.ref f) = true
  kp : PySem.W.keepIn K (.ref C) = true

theorem run_make {pins : List (Addr × Obj)} {σ : St} {H : Hp} {s : Shared} {Q : VK} {us : List Value} {vs : List V} (M : Mk X.K C f) (F : FnOk X.prog X.w X.K X.mg X.base CX k f fd ps sp) (hr : Room (k + 1) X.A) (hb : Binds X.K fd ps ds) (hd : Vals dvs ds)
    (hx : Passes CX X E) (I : Inv X pins σ H s) (r : Vals vs us)
    (h : ∀ x dx, H x = none → H dx = none → dx ≠ x → sp (.ref x :: (vs ++ dvs)) (upd (upd H dx (.own x)) x (.ins C dx [])) (fun v H2 => v = .non ∧ Q (.ref x) H2) E) :
    wpAny (model X.prog X.w) X.A (call (.ref C) us) (EP X pins σ Q) X.xe s := by
  have hq := h (s.heap.objs.size + 1) s.heap.objs.size (I.hok.fresh (Nat.le_succ _)) (I.hok.fresh (Nat.le_refl _)) (Nat.ne_of_lt (Nat.lt_succ_self _))
  have I2 := Inv.made (C := C) I
  have r2 : Vals (V.ref (s.heap.objs.size + 1) :: (vs ++ dvs)) (Value.ref (s.heap.objs.size + 1) :: (us ++ ds)) := .cons rfl (r.append hd)
  have hl : (Value.ref (s.heap.objs.size + 1) :: us ++ ds).length = ps.length := by
    have e := r2.length
    rw [F.len _ _ _ _ hq] at e
    exact e.symm
  refine wpAny_call (make_map (f := f) I.kIn M.makes M.init (beq_iff_eq.mp M.fn) (codeAny_mono (F.run _ X.stack _ _ ⟨Value.ref (s.heap.objs.size + 1) :: us, []⟩ (Value.ref (s.heap.objs.size + 1) :: (us ++ ds)) _ _ E (hr.make C us [])
    (I2.env0.make C us []) (hb _ (Value.ref (s.heap.objs.size + 1) :: us) I2.kIn hl) r2 hq) fun r s' hq' => ?_))
  cases r with
  | error e => exact hx pins σ _ _ e s' I2 hq'
  | ok fl =>
    cases fl with
    | ret u =>
      obtain ⟨v, H', I3, rv, ev, q3⟩ := I2.after hq'
      subst ev
      exact ⟨rv, ⟨V.ref (s.heap.objs.size + 1), H', I3, rfl, q3⟩⟩
    | next => exact False.elim hq'
    | brk => exact False.elim hq'
    | cont => exact False.elim hq'
theorem pe_make (M : Mk X.K C f) (F : FnOk X.prog X.w X.K X.mg X.base CX k f fd ps sp) (hr : Room (k + 1) X.A) (hg : Gl X x) (hm : X.mg x = some (.ref C)) (hb : Binds X.K fd ps ds) (hd : Vals dvs ds) (hx : Passes CX X E)
    (ha : PA X (e :: es) t) (hdb : (x == ("__debug__" : Str)) = false := by decide) (he : starEach (e :: es) X.env = (false, eval e X.env) :: starEach es X.env := by rfl) (hpl : (backTo pos (starEach es X.env)).any (·.1) = false := by rfl) :
    PE X (.Call (.Name x p) (e :: es) [] pos) (tMake C sp dvs E t) := by
  intro pins s σ H Q I h
  refine wpAny_Call_Name_kw (ld_glob I hg hm ?_ hdb)
  refine PySem.W.callWith_K (h₀ := X.base) I.ok.mod.kin M.kp (thn (ha pos pins s σ H _ I h) fun us s1 ⟨vs, H1, I1, r, q⟩ => ⟨I1.kIn, ?_⟩) he hpl
  exact run_make M F hr hb hd hx I1 r q
theorem pe_make0 (M : Mk X.K C f) (F : FnOk X.prog X.w X.K X.mg X.base CX k f fd ps sp) (hr : Room (k + 1) X.A) (hg : Gl X x) (hm : X.mg x = some (.ref C)) (hb : Binds X.K fd ps ds) (hd : Vals dvs ds) (hx : Passes CX X E)
    (hdb : (x == ("__debug__" : Str)) = false := by decide) : PE X (.Call (.Name x p) [] [] pos) (tMake C sp dvs E tNil) := by
  intro pins s σ H Q I h
  refine wpAny_Call_Name_kw (ld_glob I hg hm ?_ hdb)
  exact PySem.W.callWith_K0 I.kIn M.kp (run_make (us := []) M F hr hb hd hx I .nil h)
end

section
variable {X : Cx} {CX : CXT} {k : Nat} {f C : Addr} {fd : FuncData} {ps ks : List Str} {sp : Sp} {E : XK} {x m : Str} {p pos apos kpos : Pos} {e o : Expr} {es : List Expr} {kws : List Keyword} {te ta : TE} {t tk : TA} {nm : Option Str}

variable {g : List Value → List Value → List Value} {gV : List V → List V → List V}
end

structure FnScope (N P : List Str) (sc : Scope) : Prop where
  kind : sc.kind = .function
  co : sc.isCoroutine = false
  gen : sc.isGenerator = false
  nd : N.Nodup
  pre : N.take P.length = P
  par : ∀ x ∈ P, sc.names.lookup x = some .local ∨ sc.names.lookup x = some .cell
  nofree : ∀ y ∈ sc.names, y.2 ≠ .free

theorem bindL_out {kindOf : Str → Option NameKind} {x : Str} : ∀ {binds : List (Str × Value)} {m : Str → Option Value}, (∀ v, (x, v) ∉ binds) → bindL kindOf binds m x = m x
  | [], _, _ => rfl
  | (n, v) :: r, m, h => by
    unfold bindL
    rw [bindL_out fun w hw => h w (List.mem_cons_of_mem _ hw)]
    split
    · have : x ≠ n := by rintro rfl; exact h v List.mem_cons_self
      simp [this]
    · rfl
theorem bindC_out {kindOf : Str → Option NameKind} {x : Str} : ∀ {binds : List (Str × Value)} {m : Str → Option Value}, (∀ v, (x, v) ∉ binds) → bindC kindOf binds m x = m x
  | [], _, _ => rfl
  | (n, v) :: r, m, h => by
    unfold bindC
    rw [bindC_out fun w hw => h w (List.mem_cons_of_mem _ hw)]
    split
    · rfl
    · have : x ≠ n := by rintro rfl; exact h v List.mem_cons_self
      simp [this]
theorem bindL_get {kindOf : Str → Option NameKind} {x : Str} {v : Value} : ∀ {P : List Str} {vs : List Value} {i : Nat} {m : Str → Option Value}, P.Nodup → P[i]? = some x → vs[i]? = some v → kindOf x = some .local →
    bindL kindOf (P.zip vs) m x = some v
  | [], _, _, _, _, h, _, _ => by simp at h
  | _ :: _, [], _, _, _, _, h, _ => by simp at h
  | p :: P, w :: vs, 0, m, nd, h1, h2, hk => by
    simp at h1 h2; subst h1; subst h2
    show bindL kindOf ((p, w) :: P.zip vs) m p = _
    unfold bindL
    rw [bindL_out fun v hv => (List.nodup_cons.mp nd).1 (List.of_mem_zip hv).1, if_pos hk]
    simp
  | p :: P, w :: vs, i + 1, m, nd, h1, h2, hk => by
    show bindL kindOf ((p, w) :: P.zip vs) m x = _
    unfold bindL
    exact bindL_get (i := i) (List.nodup_cons.mp nd).2 (by simpa using h1) (by simpa using h2) hk
theorem bindC_get {kindOf : Str → Option NameKind} {x : Str} {v : Value} : ∀ {P : List Str} {vs : List Value} {i : Nat} {m : Str → Option Value}, P.Nodup → P[i]? = some x → vs[i]? = some v → kindOf x ≠ some .local →
    bindC kindOf (P.zip vs) m x = some v
  | [], _, _, _, _, h, _, _ => by simp at h
  | _ :: _, [], _, _, _, _, h, _ => by simp at h
  | p :: P, w :: vs, 0, m, nd, h1, h2, hk => by
    simp at h1 h2; subst h1; subst h2
    show bindC kindOf ((p, w) :: P.zip vs) m p = _
    unfold bindC
    rw [bindC_out fun v hv => (List.nodup_cons.mp nd).1 (List.of_mem_zip hv).1, if_neg hk]
    simp
  | p :: P, w :: vs, i + 1, m, nd, h1, h2, hk => by
    show bindC kindOf ((p, w) :: P.zip vs) m x = _
    unfold bindC
    exact bindC_get (i := i) (List.nodup_cons.mp nd).2 (by simpa using h1) (by simpa using h2) hk

def start (N : List Str) (vs : List V) : St := vs.map some ++ List.replicate (N.length - vs.length) none

def cxOf (CX : CXT) (P : Program) (w : World) (K : PySem.W.Frag) (mg : Str → Option Value) (base : Heap) (N : List Str) (qual : Str) (scope : Scope) (f : Addr) (cd : Value) (A : Around) (outer : List Env) (s : Shared) (H : Hp) (E : XK) : Cx where
  prog := P
  w := w
  K := K
  mg := mg
  base := base
  A := A.deeper (envOfC qual scope s.heap.objs.size f cd)
  N := N
  s_0 := s
  H_0 := H
  env := envOfC qual scope s.heap.objs.size f cd
  outer := outer
  stack := envOfC qual scope s.heap.objs.size f cd :: outer
  ex := []
  calm := true
  fn := fun _ => true
  pn := []
  xe := fun e s' => wpAny (model P w) (A.deeper (envOfC qual scope s.heap.objs.size f cd)) (leaving (envOfC qual scope s.heap.objs.size f cd) e) (fun _ s'' => CX outer H s E e s'') (fun e' s'' => CX outer H s E e' s'') s'

theorem cell_has {sc : Scope} {n : Nat} {x : Str} (h : sc.names.lookup x = some .cell) : ∃ c, (cellsFrom n sc.names []).lookup x = some c := by
  have q := PySem.W.cellsFrom_some sc.names n [] (.inl h)
  exact Option.isSome_iff_exists.mp q

theorem inv_start {CX : CXT} {P : Program} {w : World} {K : PySem.W.Frag} {mg : Str → Option Value} {base : Heap} {N ps : List Str} {qual : Str} {scope : Scope} {f : Addr} {cd : Value} {A : Around} {outer : List Env} {s s1 : Shared} {H : Hp} {E : XK} {us : List Value} {vs : List V}
    (S : FnScope N ps scope) (hd : A.handled = none) (e0 : Env0 P w K mg base A outer s H) (hl : vs.length = ps.length) (r : Vals vs us)
    (x : InCallC s s.heap.objs.size (bindL (envOfC qual scope s.heap.objs.size f cd).kindOf (ps.zip us) fun _ => none) (cellsFrom (s.heap.objs.size + 1) scope.names []) (bindC (envOfC qual scope s.heap.objs.size f cd).kindOf (ps.zip us) fun _ => none) s1) :
    Inv (cxOf CX P w K mg base N qual scope f cd A outer s H E) [] (start N vs) H s1 := by
  have hpl : ps.length ≤ N.length := by have := congrArg List.length S.pre; rw [List.length_take] at this; omega
  obtain ⟨h1, tk, rfl, hk⟩ := x.done
  have noA : ∀ b : Addr, b ∉ (cxOf CX P w K mg base N qual scope f cd A outer s H E).ex := fun b z => absurd (show b ∈ ([] : List Addr) from z) (by simp)
  refine ⟨⟨e0.mod, S.kind, rfl, rfl, Nat.le_refl _, fun y z c h1 h2 => ?_, fun y hy => ?_, fun y c _ h => ?_, fun _ => hd, Around.frames_deeper e0.frames, .inr ⟨rfl, rfl⟩, fun b z => absurd z (noA b), e0.bs, e0.bsz, fun b _ _ => noA b, fun b z => absurd z (noA b), e0.funs, e0.frf⟩,
    rfl, e0.bare, Un.kept hk, ⟨_, x.toInCall.ns, fun i y v h1 h2 h3 => ?_⟩, fun y c h => ⟨_, x.cell y c h⟩, e0.hok.fresh (Nat.le_refl _), fun y c h => ?_, fun p hp => absurd (show p ∈ ([] : List (Addr × Obj)) from hp) (by simp), e0.hok.kept hk, ?_⟩
  · exact name_of_addr x.apart (PySem.mem_of_lookup h1) (PySem.mem_of_lookup h2)
  · have hy : scope.names.lookup y = some .cell ∨ scope.names.lookup y = some .free := hy
    rcases hy with hy | hy
    · exact cell_has hy
    · exact absurd rfl (S.nofree _ (PySem.mem_of_lookup hy))
  · exact Nat.le_of_lt (x.above y c (PySem.mem_of_lookup h))
  · have hi : i < vs.length := by
      unfold start at h2
      by_cases hi : i < vs.length
      · exact hi
      · rw [List.getElem?_append_right (by simpa using hi)] at h2
        rw [List.getElem?_replicate] at h2
        split at h2 <;> cases h2
    have ha : vs[i]? = some v := by
      unfold start at h2
      rw [List.getElem?_append_left (by simpa using hi), List.getElem?_map] at h2
      cases e : vs[i]? with
      | none => rw [e] at h2; cases h2
      | some a => rw [e] at h2; cases h2; rfl
    obtain ⟨u, hu, rv⟩ := r.get ha
    have hp : ps[i]? = some y := by
      rw [← S.pre, List.getElem?_take_of_lt (by omega)]; exact h1
    have ndP : ps.Nodup := by rw [← S.pre]; exact S.nd.sublist (List.take_sublist _ _)
    refine ⟨u, rv, ?_⟩
    rcases S.par y (List.mem_of_getElem? hp) with k | k
    · exact .inl ⟨k, bindL_get ndP hp hu k⟩
    · obtain ⟨c, e⟩ := cell_has (n := s.heap.objs.size + 1) k
      refine .inr ⟨.inl k, c, e, ?_⟩
      have q := x.cell y c e
      rw [bindC_get ndP hp hu (by show scope.names.lookup y ≠ _; rw [k]; decide)] at q
      exact q
  · exact e0.hok.fresh (Nat.le_of_lt (x.above y c (PySem.mem_of_lookup h)))
  · unfold start
    show _ = N.length
    rw [List.length_append, List.length_map, List.length_replicate]
    omega

theorem fn_of {CX : CXT} {P : Program} {w : World} {K : PySem.W.Frag} {mg : Str → Option Value} {base : Heap} {k : Nat} {f : Addr} {name qual : Str} {params : Arguments} {body : List Stmt} {scope : Scope} {dV kV doc pm cdv ct oc : Value} {an od : Option Addr}
    {osl : Array (Option Value)} {N ps : List Str} {sp : Sp} (lk : K.lookup f = some ⟨oc, od, .func (PySem.W.fnOf name qual params body scope dV kV doc pm an cdv ct), osl⟩) (hcd : PySem.W.codeIn K cdv qual = true) (S : FnScope N ps scope)
    (len : ∀ vs H Q E, sp vs H Q E → vs.length = ps.length)
    (hbody : ∀ (A : Around) (outer : List Env) (s : Shared) (H : Hp) (vs : List V) (Q : VK) (E : XK), Room k (A.deeper (envOfC qual scope s.heap.objs.size f cdv)) → sp vs H Q E →
      ∃ t, PSs (cxOf CX P w K mg base N qual scope f cdv A outer s H E) body t ∧ t { nx := fun _ H' => Q .non H', rt := Q } (start N vs) H) :
    FnOk P w K mg base CX (k + 1) f (PySem.W.fnOf name qual params body scope dV kV doc pm an cdv ct) ps sp := by
  refine ⟨len, fun A outer s H args us vs Q E hr e0 hb r hsp => ?_⟩
  have hl := len _ _ _ _ hsp
  have KX : K.In s.heap := e0.mod.kin.keeps fun b o e => (e0.bs b o e).1
  have lim : s.heap.NoLimit := e0.mod.nolimit.keeps fun b o e => (e0.bs b o e).1
  have hkind : ∀ y ∈ ps.zip us, scope.names.lookup y.1 = some .local ∨ (scope.names.lookup y.1 = some .cell ∧ ((cellsFrom (s.heap.objs.size + 1) scope.names []).lookup y.1).isSome = true) := fun ⟨n, v⟩ hy => by
    rcases S.par n (List.of_mem_zip hy).1 with q | q
    · exact .inl q
    · exact .inr ⟨q, PySem.W.cellsFrom_some _ _ _ (.inl q)⟩
  refine codeAny_call_function hr.depth (KX _ _ lk) rfl S.co S.gen rfl (PySem.W.codeRec_of KX hcd) (hb _ _ _ _ ?_)
  refine wpAny_newFunctionEnv_cells S.kind hkind fun env he s1 x => ?_
  subst he
  refine ⟨lim.keeps x.toInCall.keep, codeAny_func ?_⟩
  obtain ⟨t, ht, hq⟩ := hbody A outer s H vs Q E (hr.deeper _) hsp
  have I : Inv (cxOf CX P w K mg base N qual scope f cdv A outer s H E) [] (start N vs) H s1 := inv_start S hr.hd e0 hl r x
  refine wpAny_mono (ht [] s1 (start N vs) H _ I hq) (fun fl s' hs => ?_) fun e s' hs => hs
  have fin : ∀ {σ' : St} {H' : Hp} {v : V} {u : Value}, Inv (cxOf CX P w K mg base N qual scope f cdv A outer s H E) [] σ' H' s' → RelV v u → Q v H' → CE outer P w H s Q u s' :=
    fun {σ' H' v u} J rv q => ⟨v, H', J.os, J.bare, J.base, J.hok, rv, q⟩
  cases fl with
  | ret u =>
    obtain ⟨v, σ', H', J, rv, q⟩ := hs
    exact fin J rv q
  | next =>
    obtain ⟨σ', H', J, q⟩ := hs
    exact fin (v := V.non) (u := Value.none) J rfl q
  | brk =>
    obtain ⟨_, _, _, q⟩ := hs
    exact False.elim q
  | cont =>
    obtain ⟨_, _, _, q⟩ := hs
    exact False.elim q
end L2

namespace L2
open PySem PySem.Spec PyProof.Rows
section
variable {X : Cx} {x : Str} {p pos : Pos} {e : Expr} {es : List Expr} {t : TA} {id T : String} {r : List V → Hp → VK → Prop}

def tCB (r : List V → Hp → VK → Prop) (t : TA) : TE := fun σ H Q => t σ H fun vs H1 => r vs H1 Q
theorem pe_callB (hc : CallR X (.builtin id) r) (hg : Gl X x) (hm : X.mg x = none) (hv : bootBuiltins x = some (.builtin id)) (ha : PA X (e :: es) t) (hn : x ≠ "__name__" := by decide) (hdb : (x == ("__debug__" : Str)) = false := by decide)
    (he : starEach (e :: es) X.env = (false, eval e X.env) :: starEach es X.env := by rfl) (hpl : (backTo pos (starEach es X.env)).any (·.1) = false := by rfl) : PE X (.Call (.Name x p) (e :: es) [] pos) (tCB r t) := by
  intro pins s σ H Q I h
  refine wpAny_Call_Name_kw (ld_blt I hg hm hv ?_ hn hdb)
  exact PyProof.Rows.callWith_builtin1 (thn (ha pos pins s σ H _ I h) fun us s1 ⟨vs, H1, I1, r1, q1⟩ => hc pins s1 σ H1 vs us Q I1 r1 q1) he hpl
theorem pe_callTy (hc : CallR X (.type T) r) (hg : Gl X x) (hm : X.mg x = none) (hv : bootBuiltins x = some (.type T)) (ha : PA X (e :: es) t) (hn : x ≠ "__name__" := by decide) (hdb : (x == ("__debug__" : Str)) = false := by decide)
    (he : starEach (e :: es) X.env = (false, eval e X.env) :: starEach es X.env := by rfl) (hpl : (backTo pos (starEach es X.env)).any (·.1) = false := by rfl) : PE X (.Call (.Name x p) (e :: es) [] pos) (tCB r t) := by
  intro pins s σ H Q I h
  refine wpAny_Call_Name_kw (ld_blt I hg hm hv ?_ hn hdb)
  exact PyProof.Rows.callWith_type1 (thn (ha pos pins s σ H _ I h) fun us s1 ⟨vs, H1, I1, r1, q1⟩ => hc pins s1 σ H1 vs us Q I1 r1 q1) he hpl
end
end L2

namespace HT
open PySem PyProof.Rows



section
open PySem.SeqAt
open PySem.AutoSeq1 (wpAny_loadPart')
open PySem.MeetsSeq PySem.MeetsSeq2 PySem.MeetsSeq3

end

section
variable {prog : Program} {w : World} {A : Around} {E : Value → Shared → Prop} {s : Shared}



def sIx (n d : Nat) : Option Int → Nat
  | none => d
  | some v => if v < 0 then (v + (n : Int)).toNat else min v.toNat n
theorem sIx_none (n d : Nat) : sIx n d none = d := rfl
theorem sIx_nat (n d k : Nat) : sIx n d (some (k : Int)) = min k n := by
  show (if (k : Int) < 0 then ((k : Int) + (n : Int)).toNat else min (k : Int).toNat n) = min k n
  rw [if_neg (by omega), Int.toNat_natCast]

end
end HT

namespace L2
open PySem PySem.Spec PyProof.Rows

abbrev TO := St → Hp → (Option Int → Hp → Prop) → Prop
def PO (X : Cx) (e : Option Expr) (t : TO) : Prop :=
  ∀ (pins : List (Addr × Obj)) (s : Shared) (σ : St) (H : Hp) (Q : Option Int → Hp → Prop), Inv X pins σ H s → t σ H Q →
    wpAny (model X.prog X.w) X.A (evalPart e X.env) (fun u s' => ∃ o H', Inv X pins σ H' s' ∧ IsPart u o ∧ Q o H') X.xe s
def tNoPart : TO := fun _ H Q => Q none H
def tPart (t : TE) : TO := fun σ H Q => t σ H fun x H1 => ∃ i, x = .int i ∧ Q (some i) H1


section
variable {X : Cx} {e : Expr} {te : TE} {lo hi : Option Expr} {tl th : TO} {pos p2 : Pos}

theorem po_none : PO X none tNoPart := by
  intro pins s σ H Q I h
  rw [evalPart_none]
  exact wpAny_pure ⟨none, H, I, .none, h⟩
theorem po_some (h : PE X e te) : PO X (some e) (tPart te) := by
  intro pins s σ H Q I hw
  rw [evalPart_some]
  refine thn (h pins s σ H _ I hw) fun u s1 ⟨x, H1, I1, r1, q1⟩ => ?_
  obtain ⟨i, rfl, q⟩ := q1
  obtain ⟨t, rfl⟩ := r1
  exact ⟨some i, H1, I1, .int i t, q⟩

def SlR (X : Cx) (r : V → Option Int → Option Int → Hp → VK → Prop) : Prop :=
  ∀ (pins : List (Addr × Obj)) (s : Shared) (σ : St) (H : Hp) (x : V) (v vl vu : Value) (lo hi : Option Int) (sl : Addr) (Q : VK), Inv X pins σ H s → RelV x v → s.heap.IsSliceOf sl vl vu .none → IsPart vl lo → IsPart vu hi → r x lo hi H Q →
    ∃ T id, typeLookup (.type T) "__getitem__" = pure (some (.builtin id)) ∧ s.TypeIs v T ∧ wpAny (model X.prog X.w) X.A (getItem v (.ref sl)) (EP X pins σ Q) X.xe s
theorem SlR.or {r r' : V → Option Int → Option Int → Hp → VK → Prop} (h : SlR X r) (h' : SlR X r') : SlR X (fun x lo hi H Q => r x lo hi H Q ∨ r' x lo hi H Q) := by
  intro pins s σ H x v vl vu lo hi sl Q I rx hs pl pu q
  rcases q with q | q
  · exact h pins s σ H x v vl vu lo hi sl Q I rx hs pl pu q
  · exact h' pins s σ H x v vl vu lo hi sl Q I rx hs pl pu q
def tSl (r : V → Option Int → Option Int → Hp → VK → Prop) (te : TE) (tl th : TO) : TE := fun σ H Q => te σ H fun x H1 => tl σ H1 fun l H2 => th σ H2 fun u H3 => r x l u H3 Q
theorem pe_slice {r : V → Option Int → Option Int → Hp → VK → Prop} (hr : SlR X r) (he : PE X e te) (hl : PO X lo tl) (hu : PO X hi th) : PE X (.Subscript e (.Slice lo hi none p2) pos) (tSl r te tl th) := by
  intro pins s σ H Q I h
  refine Subscript_ (thn (he pins s σ H _ I h) fun v s1 ⟨x, H1, I1, r1, q1⟩ => ?_)
  refine wpAny_Slice (thn (hl pins s1 σ H1 _ I1 q1) fun vl s2 ⟨l, H2, I2, pl, q2⟩ => thn (hu pins s2 σ H2 _ I2 q2) fun vu s3 ⟨u, H3, I3, pu, q3⟩ => ?_)
  rw [evalPart_none]
  refine wpAny_pure ?_
  have I4 : Inv X pins σ H3 { s3 with heap := s3.heap.push { cls := .type "slice", data := .fields #[vl, vu, .none] } } := I3.kept (t' := s3.toks) fun b ob q => Heap.get?_push_of_some _ q
  obtain ⟨T, id, hT, ht, hg⟩ := hr pins { s3 with heap := s3.heap.push { cls := .type "slice", data := .fields #[vl, vu, .none] } } σ H3 x v vl vu l u s3.heap.objs.size Q I4 r1 (Heap.IsSliceOf.new ..) pl pu q3
  show wpAny (model X.prog X.w) X.A (subscriptTail e (.Slice lo hi none p2) v (.ref s3.heap.objs.size)) (EP X pins σ Q) X.xe { s3 with heap := s3.heap.push { cls := .type "slice", data := .fields #[vl, vu, .none] } }
  exact tail_any (ops := [.ref s3.heap.objs.size, v]) ht hT hg (by with_unfolding_all rfl)

def cutV (xs : List V) (lo hi : Option Int) : List V := (xs.drop (HT.sIx xs.length 0 lo)).take (HT.sIx xs.length xs.length hi - HT.sIx xs.length 0 lo)
theorem cutV_length (xs : List V) (lo hi : Option Int) : (cutV xs lo hi).length ≤ xs.length := by
  unfold cutV
  rw [List.length_take, List.length_drop]
  omega

end
end L2

namespace L2
open PySem PySem.Spec PyProof.Rows

def ixN (n : Nat) (i : Int) : Option Nat := if 0 ≤ i then (if i < n then some i.toNat else none) else if -(n : Int) ≤ i then some (i + n).toNat else none
def atI {α : Type} (xs : List α) (i : Int) : Option α := (ixN xs.length i).bind fun j => xs[j]?
theorem ixN_seq {n : Nat} {i : Int} {j : Nat} (h : ixN n i = some j) : seqIndex? i n = some j ∧ j < n ∧ -(n : Int) ≤ i ∧ i < n := by
  unfold ixN at h
  by_cases h0 : 0 ≤ i
  · rw [if_pos h0] at h
    by_cases h1 : i < n
    · rw [if_pos h1] at h
      have e : i.toNat = j := Option.some.inj h
      exact ⟨by rw [seqIndex_of h0 h1, e], by omega, by omega, h1⟩
    · rw [if_neg h1] at h; cases h
  · rw [if_neg h0] at h
    by_cases h1 : -(n : Int) ≤ i
    · rw [if_pos h1] at h
      have e : (i + n).toNat = j := Option.some.inj h
      exact ⟨by rw [seqIndex_neg (by omega) h1, e], by omega, h1, by omega⟩
    · rw [if_neg h1] at h; cases h
theorem atI_get {α : Type} {xs : List α} {i : Int} {v : α} (h : atI xs i = some v) : ∃ j, seqIndex? i xs.length = some j ∧ xs[j]? = some v ∧ j < xs.length ∧ -(xs.length : Int) ≤ i ∧ i < xs.length := by
  unfold atI at h
  cases e : ixN xs.length i with
  | none => rw [e] at h; cases h
  | some j =>
    rw [e] at h
    obtain ⟨h1, h2, h3, h4⟩ := ixN_seq e
    exact ⟨j, h1, h, h2, h3, h4⟩
theorem atI_nat {α : Type} {xs : List α} {j : Nat} {v : α} (h : xs[j]? = some v) : atI xs (j : Int) = some v := by
  have hj : j < xs.length := (List.getElem?_eq_some_iff.mp h).1
  have e : ixN xs.length (j : Int) = some j := by
    unfold ixN
    rw [if_pos (by omega), if_pos (by omega)]; simp
  unfold atI; rw [e]; exact h

def PlainIx (b : Expr) : Prop := ∀ o i, subscripted b false o i = operate [o, i] (getItem o i)
def IxR (X : Cx) (r : R2) : Prop :=
  ∀ (value slice : Expr) (pins : List (Addr × Obj)) (s : Shared) (σ : St) (H : Hp) (x y : V) (v u : Value) (Q : VK), Inv X pins σ H s → RelV x v → RelV y u → r x y H Q →
    subscripted slice false v u = operate [v, u] (getItem v u) → wpAny (model X.prog X.w) X.A (subscriptTail value slice v u) (EP X pins σ Q) X.xe s
def MtR (X : Cx) (id : String) (r : V → List V → Hp → VK → Prop) : Prop :=
  ∀ (pins : List (Addr × Obj)) (s : Shared) (σ : St) (H : Hp) (x : V) (xs : List V) (v : Value) (us : List Value) (Q : VK), Inv X pins σ H s → RelV x v → Vals xs us → r x xs H Q →
    wpAny (model X.prog X.w) X.A (call (.builtin id) (v :: us)) (EP X pins σ Q) X.xe s
section
variable {X : Cx} {a b : Expr} {ta tb : TE} {pos : Pos}
theorem IxR.or {r r' : R2} (h : IxR X r) (h' : IxR X r') : IxR X (fun x y H Q => r x y H Q ∨ r' x y H Q) := by
  intro value slice pins s σ H x y v u Q I rx ry q hs
  rcases q with q | q
  · exact h value slice pins s σ H x y v u Q I rx ry q hs
  · exact h' value slice pins s σ H x y v u Q I rx ry q hs
theorem MtR.or {id : String} {r r' : V → List V → Hp → VK → Prop} (h : MtR X id r) (h' : MtR X id r') : MtR X id (fun x xs H Q => r x xs H Q ∨ r' x xs H Q) := by
  intro pins s σ H x xs v us Q I rx rs q
  rcases q with q | q
  · exact h pins s σ H x xs v us Q I rx rs q
  · exact h' pins s σ H x xs v us Q I rx rs q
theorem pe_ix {r : R2} (hr : IxR X r) (ha : PE X a ta) (hb : PE X b tb) (hs : PlainIx b) : PE X (.Subscript a b pos) (tOp r ta tb) := by
  intro pins s σ H Q I h
  exact Subscript_ (binT ha hb I h fun v u s2 x y H2 I2 rx ry q => hr a b pins s2 σ H2 x y v u Q I2 rx ry q (hs _ _))

def rIxL (K : PySem.W.Frag) : R2 := fun x y H Q => ∃ p xs i v, x = .ref p ∧ y = .int i ∧ SqL K H p xs ∧ atI xs i = some v ∧ Q v H
def rIxT (K : PySem.W.Frag) : R2 := fun x y H Q => ∃ p xs i v, x = .ref p ∧ y = .int i ∧ SqT K H p xs ∧ atI xs i = some v ∧ Q v H
theorem ix_list : IxR X (rIxL X.K) := by
  intro value slice pins s σ H x y v u Q I rx ry h hs
  obtain ⟨p, xs, i, z, rfl, rfl, hq, he, q⟩ := h
  cases rx
  obtain ⟨t, rfl⟩ := ry
  obtain ⟨its, r, pl, hz⟩ := I.list hq
  obtain ⟨j, h1, h2, h3, h4, h5⟩ := atI_get he
  obtain ⟨w, ew, rw'⟩ := r.get h2
  have hl := r.length
  have hn := line63
  have fin : EP X pins σ Q w s := ⟨z, H, I, rw', q⟩
  by_cases h0 : 0 ≤ i
  · have hj : i.toNat = j := by
      rw [seqIndex_of h0 h5] at h1
      exact Option.some.inj h1
    exact item_listR pl.isList h0 (by omega) (by rw [hj]; simpa using ew) fin hs
  · have hj : (i + (its.toArray.size : Int)).toNat = j := by
      rw [seqIndex_neg (by omega) h4] at h1
      rw [List.size_toArray, ← hl]
      exact Option.some.inj h1
    exact subscriptTail_builtinR (x := w) pl.isList.typeIs slot_list_getitem.lookup
      (wpAny_getItem_list_neg (Q := fun r s' => r = w ∧ EP X pins σ Q r s') pl.isList (by omega) (by rw [List.size_toArray] <;> omega) (by omega) (by rw [hj]; simpa using ew) ⟨rfl, fin⟩) hs
theorem ix_tup : IxR X (rIxT X.K) := by
  intro value slice pins s σ H x y v u Q I rx ry h hs
  obtain ⟨p, xs, i, z, rfl, rfl, hq, he, q⟩ := h
  cases rx
  obtain ⟨t, rfl⟩ := ry
  obtain ⟨its, r, pl, hz⟩ := I.tuple hq
  obtain ⟨j, h1, h2, h3, h4, h5⟩ := atI_get he
  obtain ⟨w, ew, rw'⟩ := r.get h2
  have hl := r.length
  have hn := line63
  have fin : EP X pins σ Q w s := ⟨z, H, I, rw', q⟩
  exact subscriptTail_builtinR (x := w) pl.typeIs slot_tuple_getitem.lookup
    (getItem_tuple (j := j) (Q := fun r s' => r = w ∧ EP X pins σ Q r s') pl (by omega) (by omega) (by rw [List.size_toArray, ← hl]; exact h1) (by simpa using ew) ⟨rfl, fin⟩) hs

theorem Inv.lst {pins : List (Addr × Obj)} {σ : St} {H : Hp} {s : Shared} {p : Addr} {xs : List V} (I : Inv X pins σ H s) (h : H p = some (.lst xs)) :
    ∃ (its : List Value) (n : Nat), Vals xs its ∧ s.heap.get? p = some { cls := .type "list", data := .seq its.toArray n } ∧ xs.length ≤ sizeLine := by
  obtain ⟨z, its, n, r, e⟩ := I.hok p _ h
  exact ⟨its, n, r, e, z⟩

theorem slice_bounds (lo hi : Option Int) (n : Nat) : (sliceBounds lo hi none n).1 = ((HT.sIx n 0 lo : Nat) : Int) ∧ (sliceBounds lo hi none n).2.1 = ((HT.sIx n n hi : Nat) : Int) ∧ (sliceBounds lo hi none n).2.2 = 1 := by
  refine ⟨?_, ?_, rfl⟩
  · cases lo with
    | none => simp [sliceBounds, HT.sIx]
    | some i =>
      simp only [sliceBounds, HT.sIx, Option.getD_none, show (1 : Int) > 0 by decide, if_true]
      by_cases h : i < 0
      · simp only [h, if_true] <;> omega
      · simp only [h, if_false] <;> omega
  · cases hi with
    | none => simp [sliceBounds, HT.sIx]
    | some i =>
      simp only [sliceBounds, HT.sIx, Option.getD_none, show (1 : Int) > 0 by decide, if_true]
      by_cases h : i < 0
      · simp only [h, if_true] <;> omega
      · simp only [h, if_false] <;> omega
theorem slicePick_cut (its : List Value) (lo hi : Option Int) : slicePick its.toArray lo hi none = ((its.drop (HT.sIx its.length 0 lo)).take (HT.sIx its.length its.length hi - HT.sIx its.length 0 lo)).toArray := by
  obtain ⟨h1, h2, h3⟩ := slice_bounds lo hi its.toArray.size
  unfold slicePick
  rw [h1, h2, h3]
  simp only [sliceRange_one, pick_run, List.size_toArray] <;> rfl
def rSlL (K : PySem.W.Frag) : V → Option Int → Option Int → Hp → VK → Prop := fun x lo hi H Q => ∃ a xs, x = .ref a ∧ SqL K H a xs ∧ ∀ p, H p = none → Q (.ref p) (upd H p (.lst (cutV xs lo hi)))
theorem sl_list : SlR X (rSlL X.K) := by
  intro pins s σ H x v vl vu lo hi sl Q I rx hs pl pu h
  obtain ⟨a, xs, rfl, hx, q⟩ := h
  cases rx
  obtain ⟨its, r, ht, hz⟩ := I.list hx
  have hlen := r.length
  refine ⟨"list", _, slot_list_getitem.lookup, ht.isList.typeIs, ?_⟩
  refine wpAny_getItem_list_slice ht.isList hs pl pu .none (by simp) ?_ (by rw [List.size_toArray] <;> omega)
  rw [slicePick_cut, ← hlen]
  refine ⟨.ref s.heap.objs.size, _, I.laid (t' := s.toks) (o := .lst (cutV xs lo hi)) (fun b ob q => Heap.get?_push_of_some _ q) (Nat.le_refl _) ?_, rfl, q _ (I.hok.fresh (Nat.le_refl _))⟩
  exact ⟨Nat.le_trans (cutV_length xs lo hi) hz, _, 0, (r.drop (HT.sIx xs.length 0 lo)).take (HT.sIx xs.length xs.length hi - HT.sIx xs.length 0 lo), Heap.get?_push_size _ rfl⟩

def flatV : V → Bool
  | .non => true
  | .bl _ => true
  | .int _ => true
  | .str _ => true
  | _ => false
def eqV : V → V → Bool
  | .non, .non => true
  | .bl a, .bl b => a == b
  | .bl a, .int b => (if a then 1 else 0) == b
  | .int a, .bl b => a == (if b then 1 else 0)
  | .int a, .int b => a == b
  | .str a, .str b => a == b
  | _, _ => false
theorem eqAt_V {A : Around} {s : Shared} {y x : V} {u v : Value} (ry : RelV y u) (rx : RelV x v) (fy : flatV y = true) (fx : flatV x = true) : SeqAt.EqAt A s u v (eqV y x) := by
  cases y with
  | non =>
    cases ry
    cases x with
    | non => cases rx; exact SeqAt.EqAt.same _
    | bl b => cases rx; exact SeqAt.EqAt.none_bool b
    | int b => obtain ⟨t, rfl⟩ := rx; exact SeqAt.EqAt.none_int b t
    | str b => obtain ⟨t, rfl⟩ := rx; exact SeqAt.EqAt.none_str b t
    | _ => exact absurd (show false = true from fx) Bool.false_ne_true
  | bl a =>
    cases ry
    cases x with
    | non => cases rx; exact SeqAt.EqAt.bool_none a
    | bl b => cases rx; exact SeqAt.EqAt.bool_bool a b
    | int b => obtain ⟨t, rfl⟩ := rx; exact SeqAt.EqAt.bool_int a b t
    | str b => obtain ⟨t, rfl⟩ := rx; exact SeqAt.EqAt.bool_str a b t
    | _ => exact absurd (show false = true from fx) Bool.false_ne_true
  | int a =>
    obtain ⟨t', rfl⟩ := ry
    cases x with
    | non => cases rx; exact SeqAt.EqAt.int_none a t'
    | bl b => cases rx; exact SeqAt.EqAt.int_bool a t' b
    | int b => obtain ⟨t, rfl⟩ := rx; exact SeqAt.EqAt.int_int a t' b t
    | str b => obtain ⟨t, rfl⟩ := rx; exact SeqAt.EqAt.int_str a t' b t
    | _ => exact absurd (show false = true from fx) Bool.false_ne_true
  | str a =>
    obtain ⟨t', rfl⟩ := ry
    cases x with
    | non => cases rx; exact SeqAt.EqAt.str_none a t'
    | bl b => cases rx; exact SeqAt.EqAt.str_bool a t' b
    | int b => obtain ⟨t, rfl⟩ := rx; exact SeqAt.EqAt.str_int a t' b t
    | str b => obtain ⟨t, rfl⟩ := rx; exact SeqAt.EqAt.str_str a t' b t
    | _ => exact absurd (show false = true from fx) Bool.false_ne_true
  | _ => exact absurd (show false = true from fy) Bool.false_ne_true
def eqU (x : V) (u : Value) : Bool := match u with
  | .none => eqV .non x
  | .bool b => eqV (.bl b) x
  | .int i _ => eqV (.int i) x
  | .str z _ => eqV (.str z) x
  | _ => false
theorem eqU_of {x y : V} {u : Value} (r : RelV y u) (f : flatV y = true) : eqU x u = eqV y x := by
  cases y with
  | non => cases r; rfl
  | bl b => cases r; rfl
  | int i => obtain ⟨t, rfl⟩ := r; rfl
  | str z => obtain ⟨t, rfl⟩ := r; rfl
  | _ => exact absurd (show false = true from f) Bool.false_ne_true
theorem any_eqU {x : V} : ∀ {xs : List V} {us : List Value}, Vals xs us → xs.all flatV = true → us.any (eqU x) = xs.any fun y => eqV y x
  | _, _, .nil, _ => rfl
  | y :: xs, u :: us, .cons r t, f => by
    rw [List.all_cons, Bool.and_eq_true] at f
    rw [List.any_cons, List.any_cons, eqU_of r f.1, any_eqU t f.2]
theorem mem_eqAt {A : Around} {s : Shared} {x : V} {v : Value} (rx : RelV x v) (fx : flatV x = true) : ∀ {xs : List V} {us : List Value}, Vals xs us → xs.all flatV = true → ∀ u ∈ us, SeqAt.EqAt A s u v (eqU x u)
  | _, _, .nil, _ => fun u hu => by cases hu
  | y :: xs, u :: us, .cons r t, f => fun u' hu => by
    rw [List.all_cons, Bool.and_eq_true] at f
    rcases List.mem_cons.mp hu with rfl | hu
    · rw [eqU_of r f.1]; exact eqAt_V r rx f.1 fx
    · exact mem_eqAt rx fx t f.2 u' hu
def inV (x : V) (xs : List V) : Bool := xs.any fun y => eqV y x
def rIn (K : PySem.W.Frag) (neg : Bool) : R2 := fun x y H Q => ∃ p xs, y = .ref p ∧ (SqL K H p xs ∨ SqT K H p xs) ∧ flatV x = true ∧ xs.all flatV = true ∧ Q (.bl (if neg then !inV x xs else inV x xs)) H
theorem op_in_seq : OpR X (compareOp .In) (rIn X.K false) := by
  intro pins s σ H x y v u Q I rx ry h
  obtain ⟨p, xs, rfl, hq, fx, fs, q⟩ := h
  cases ry
  rcases hq with hq | hq
  · obtain ⟨its, r, pl, hz⟩ := I.list hq
    refine SeqAt.in_listAt (eqU x) pl.isList (fun w hw => mem_eqAt rx fx r fs w (by simpa using hw)) ⟨.bl _, H, I, rfl, ?_⟩
    rw [show its.toArray.any (eqU x) = its.any (eqU x) by simp, any_eqU r fs]
    exact q
  · obtain ⟨its, r, pl, hz⟩ := I.tuple hq
    refine SeqAt.in_tupleAt (eqU x) pl (fun w hw => mem_eqAt rx fx r fs w (by simpa using hw)) ⟨.bl _, H, I, rfl, ?_⟩
    rw [show its.toArray.any (eqU x) = its.any (eqU x) by simp, any_eqU r fs]
    exact q

theorem call_len_seq : CallR X (.builtin "len") (fun xs H Q => ∃ p ys, xs = [.ref p] ∧ (SqL X.K H p ys ∨ SqT X.K H p ys) ∧ Q (.int ys.length) H) := by
  intro pins s σ H xs us Q I r h
  obtain ⟨p, ys, rfl, hq, q⟩ := h
  obtain ⟨u, rfl, rx⟩ := vals1 r
  cases rx
  have hn := line63
  rcases hq with hq | hq
  · obtain ⟨its, r', pl, hz⟩ := I.list hq
    have hlen := r'.length
    exact Calls.call_len_list pl.isList (by simp only [List.size_toArray] <;> omega) ⟨.int ys.length, H, I.tok _, ⟨s.toks + 1, by rw [List.size_toArray, hlen]⟩, q⟩
  · obtain ⟨its, r', pl, hz⟩ := I.tuple hq
    have hlen := r'.length
    exact len_tuple pl (by simp only [List.size_toArray] <;> omega) ⟨.int ys.length, H, I.tok _, ⟨s.toks + 1, by rw [List.size_toArray, hlen]⟩, q⟩
theorem CallR.or {f : Value} {r r' : List V → Hp → VK → Prop} (h : CallR X f r) (h' : CallR X f r') : CallR X f (fun xs H Q => r xs H Q ∨ r' xs H Q) := by
  intro pins s σ H xs us Q I rs q
  rcases q with q | q
  · exact h pins s σ H xs us Q I rs q
  · exact h' pins s σ H xs us Q I rs q
theorem call_list_of : CallR X (.type "list") (fun xs H Q => ∃ p ys, xs = [.ref p] ∧ (SqL X.K H p ys ∨ SqT X.K H p ys) ∧ ∀ l, H l = none → Q (.ref l) (upd H l (.lst ys))) := by
  intro pins s σ H xs us Q I r h
  obtain ⟨p, ys, rfl, hq, q⟩ := h
  obtain ⟨u, rfl, rx⟩ := vals1 r
  cases rx
  have fin : ∀ (its : List Value), Vals ys its → ys.length ≤ sizeLine → ∀ (h' : Heap) (c' : Nat), (∀ b o', s.heap.get? b = some o' → h'.get? b = some o') →
      h'.get? s.heap.objs.size = some { cls := .type "list", dict := none, data := .seq its.toArray c', slots := #[] } → EP X pins σ Q (.ref s.heap.objs.size) { s with heap := h' } := fun its r' hz h' c' kp e =>
    ⟨.ref s.heap.objs.size, _, I.laid (t' := s.toks) kp (Nat.le_refl _) (show ObjOk X.prog X.w _ h' _ (.lst ys) from ⟨hz, its, c', r', e⟩), rfl, q _ (I.hok.fresh (Nat.le_refl _))⟩
  rcases hq with hq | hq
  · obtain ⟨its, r', pl, hz⟩ := I.list hq
    have hlen := r'.length
    obtain ⟨o, ho, hc, n, hd⟩ := pl.isList
    exact call_list_seq p (.inl rfl) ho hc hd (fun h' c' kp e => fin its r' hz h' c' kp e) (by simp only [List.size_toArray] <;> omega)
  · obtain ⟨its, r', pl, hz⟩ := I.tuple hq
    have hlen := r'.length
    obtain ⟨o, ho, hc, n, hd⟩ := pl
    exact call_list_seq p (.inr rfl) ho hc hd (fun h' c' kp e => fin its r' hz h' c' kp e) (by simp only [List.size_toArray] <;> omega)

def tyV (K : PySem.W.Frag) (T : String) (x : V) (H : Hp) : Prop := match x with
  | .str _ => T = "str"
  | .int _ => T = "int"
  | .ref p => (T = "list" ∧ ∃ xs, SqL K H p xs) ∨ (T = "tuple" ∧ ∃ o, K.lookup p = some o ∧ o.cls = .type "tuple" ∧ o.dict = none) ∨
      (T = "dict" ∧ ((∃ kvs, H p = some (.dK kvs)) ∨ ∃ kvs, H p = some (.dT kvs))) ∨ (T = "set" ∧ ∃ S n, H p = some (.set S n))
  | _ => False
theorem tyV_is {pins : List (Addr × Obj)} {σ : St} {H : Hp} {s : Shared} {T : String} {x : V} {v : Value} (I : Inv X pins σ H s) (r : RelV x v) (ty : tyV X.K T x H) :
    s.TypeIs v T ∧ ∀ a, v = .ref a → ∃ ob, s.heap.get? a = some ob ∧ ob.dict = none := by
  cases x with
  | str z =>
    obtain ⟨t, rfl⟩ := r
    cases (show T = "str" from ty)
    exact ⟨typeIs_str s z t, fun _ e => nomatch e⟩
  | int i =>
    obtain ⟨t, rfl⟩ := r
    cases (show T = "int" from ty)
    exact ⟨typeIs_int s i t, fun _ e => nomatch e⟩
  | ref p =>
    cases r
    rcases ty with ⟨rfl, xs, hq⟩ | ⟨rfl, o, hk, hc, hd⟩ | ⟨rfl, hk⟩ | ⟨rfl, S, n, hk⟩
    · obtain ⟨its, _, pl, _⟩ := I.list hq
      refine ⟨pl.isList.typeIs, fun a e => ?_⟩
      cases e
      obtain ⟨o, n, e, c, hd, _⟩ := pl
      exact ⟨o, e, hd⟩
    · refine ⟨⟨o, I.kIn p o hk, hc⟩, fun a e => ?_⟩
      cases e
      exact ⟨o, I.kIn _ o hk, hd⟩
    · have z : ∃ o, s.heap.get? p = some o ∧ o.ExactDict := by
        rcases hk with ⟨kvs, hk⟩ | ⟨kvs, hk⟩
        · obtain ⟨_, _, _, _, o, _, _, e, ex, _⟩ := I.hok p _ hk
          exact ⟨o, e, ex⟩
        · obtain ⟨_, _, _, _, o, _, _, e, ex, _⟩ := I.hok p _ hk
          exact ⟨o, e, ex⟩
      obtain ⟨o, e, ex⟩ := z
      refine ⟨⟨o, e, ex.1⟩, fun a e2 => ?_⟩
      cases e2
      exact ⟨o, e, ex.2.1⟩
    · obtain ⟨o, _, _, _, e, ex, _⟩ := I.hok p _ hk
      refine ⟨⟨o, e, ex.1⟩, fun a e2 => ?_⟩
      cases e2
      exact ⟨o, e, ex.2.1⟩
  | _ => exact False.elim ty
def tBM (K : PySem.W.Frag) (T : String) (r : V → List V → Hp → VK → Prop) (to : TE) (t : TA) : TE := fun σ H Q => to σ H fun x H1 => tyV K T x H1 ∧ t σ H1 fun xs H2 => r x xs H2 Q
variable {o e : Expr} {es : List Expr} {to : TE} {t : TA} {name : Str} {apos cpos : Pos} {T id : String} {r : V → List V → Hp → VK → Prop}
theorem pe_bm (pa : PlainAttrs T) (slot : Slot T name id) (hty : typeOf (.builtin id) = pure (.type "method_descriptor")) (hm : MtR X id r) (ho : PE X o to) (ha : PA X (e :: es) t)
    (hbase : attributeBase o name X.env (eval o X.env) = eval o X.env := by rfl)
    (hfew : ((backTo cpos (starEach (e :: es) X.env)).all (fun x => !x.1) && (backToKw cpos (keywordEach [] X.env)).all (fun x => x.1.isSome)
      && decide ((e :: es).length + ([] : List Keyword).length + (if ([] : List Keyword).isEmpty then 0 else 1) < 30)) = true := by rfl)
    (hline : (apos.endLine == cpos.line) = true := by rfl) (hs : starEach (e :: es) X.env = (false, eval e X.env) :: starEach es X.env := by rfl) (hplain : (backTo cpos (starEach es X.env)).any (·.1) = false := by rfl) :
    PE X (.Call (.Attribute o name apos) (e :: es) [] cpos) (tBM X.K T r to t) := by
  intro pins s σ H Q I h
  refine wpAny_Call_method_late hbase hfew hline rfl (thn (ho pins s σ H _ I h) fun v s1 ⟨x, H1, I1, r1, ty, q1⟩ => ?_)
  obtain ⟨h1, h2⟩ := tyV_is I1 r1 ty
  refine ⟨T, id, pa, slot, hty, h1, h2, ?_⟩
  have hA := ha cpos pins s1 σ H1 _ I1 q1
  rw [hs] at hA ⊢
  refine Calls.callWith_builtin (by show (false || (backTo cpos (starEach es X.env)).any (·.1)) = false; rw [hplain] <;> rfl) (Calls.evalArgs_plain ?_)
  exact thn hA fun us s2 ⟨vs, H2, I2, r2, q2⟩ => hm pins s2 σ H2 x vs v us Q I2 r1 r2 q2
end
end L2

namespace L2
open PySem PySem.Spec PyProof.Rows

def MtM (X : Cx) (id : String) (r : V → List V → Hp → VK → Prop) : Prop :=
  ∀ (pins : List (Addr × Obj)) (s : Shared) (σ : St) (H : Hp) (x : V) (xs : List V) (v : Value) (us : List Value) (Q : VK), Inv X pins σ H s → RelV x v → Vals xs us → r x xs H Q →
    wpAny (model X.prog X.w) X.A (call (.builtin id) (v :: us)) (EP X pins σ Q) X.xe s

theorem Vals.one : ∀ {x : V} {us : List Value}, Vals [x] us → ∃ u, us = [u] ∧ RelV x u
  | _, _, .cons r .nil => ⟨_, rfl, r⟩
theorem Vals.two : ∀ {x y : V} {us : List Value}, Vals [x, y] us → ∃ u v, us = [u, v] ∧ RelV x u ∧ RelV y v
  | _, _, _, .cons r (.cons q .nil) => ⟨_, _, rfl, r, q⟩
theorem Vals.zero : ∀ {us : List Value}, Vals [] us → us = []
  | _, .nil => rfl
theorem Vals.reverse {xs : List V} {us : List Value} (h : Vals xs us) : Vals xs.reverse us.reverse := by
  induction h with
  | nil => exact .nil
  | cons r t ih => rw [List.reverse_cons, List.reverse_cons]; exact Vals.append ih (.cons r .nil)

section
variable {X : Cx} {pins : List (Addr × Obj)} {σ : St} {H : Hp} {s : Shared} {l b : Addr} {xs ys zs : List V}

theorem Inv.lset {its its' : List Value} {n : Nat} {f : Array Value → Array Value} {t' : Nat} (I : Inv X pins σ H s) (hH : H l = some (.lst xs))
    (e : s.heap.get? l = some { cls := .type "list", data := .seq its.toArray n }) (hf : f its.toArray = its'.toArray) (hv : Vals ys its') (hz : ys.length ≤ sizeLine) :
    Inv X pins σ (upd H l (.lst ys)) { s with heap := s.heap.update l (Obj.mapSeq f), toks := t' } := by
  have q := PySem.IsL.update e f
  rw [hf] at q
  refine I.write (x := l) (e := l) (by rw [hH]; exact trivial) (.inl rfl) (fun b' u hb hu => (Heap.get?_update_other s.heap (Obj.mapSeq f) (Ne.symm hb)).trans hu) ⟨_, q⟩ ?_
  exact ⟨hz, its', _, hv, q⟩
theorem Inv.lnew {its : List Value} {t' : Nat} (I : Inv X pins σ H s) (hv : Vals ys its) (hz : ys.length ≤ sizeLine) :
    Inv X pins σ (upd H s.heap.objs.size (.lst ys)) { s with heap := s.heap.push { cls := .type "list", data := .seq its.toArray }, toks := t' } :=
  I.laid (fun _ _ q => Heap.get?_push_of_some _ q) (Nat.le_refl _) ⟨hz, its, 0, hv, Heap.get?_push_size _ rfl⟩
theorem Inv.fresh (I : Inv X pins σ H s) : H s.heap.objs.size = none := I.hok.fresh (Nat.le_refl _)
theorem Inv.lstM (I : Inv X pins σ H s) (hH : H l = some (.lst xs)) : xs.length ≤ sizeLine ∧ ∃ (its : List Value) (n : Nat), Vals xs its ∧ xs.length = its.length ∧ s.heap.get? l = some { cls := .type "list", data := .seq its.toArray n } := by
  obtain ⟨z, its, n, r, e⟩ := I.hok l _ hH
  exact ⟨z, its, n, r, r.length, e⟩

theorem notLongL {n : Nat} (h : n ≤ sizeLine) : Builtin.List.listTooLong n = false := by
  unfold Builtin.List.listTooLong
  exact decide_eq_false (by omega)
end

section
variable {X : Cx}

def rAppend : V → List V → Hp → VK → Prop := fun x vs H Q => ∃ l xs y, x = .ref l ∧ vs = [y] ∧ H l = some (.lst xs) ∧ xs.length < sizeLine ∧ Q .non (upd H l (.lst (xs ++ [y])))
theorem mt_append : MtM X "list.append" rAppend := by
  intro pins s σ H x vs v us Q I rx rv h
  obtain ⟨l, xs, y, rfl, rfl, hH, hz, q⟩ := h
  cases rx
  obtain ⟨u, rfl, ru⟩ := rv.one
  obtain ⟨z, its, n, r, hl, e⟩ := I.lstM hH
  refine call_meets F.slot_list_append ⟨_, e, rfl⟩ F.entry_list_append (F.args_list_append_2 _ _) (PySem.list_append l its.toArray n u (by rw [List.size_toArray]; omega)) ⟨e, ?_⟩
  refine ⟨.non, _, I.lset (its' := its ++ [u]) hH e (by simp) (r.append (.cons ru .nil)) ?_, rfl, q⟩
  rw [List.length_append, List.length_singleton]
  omega

def rExtend : V → List V → Hp → VK → Prop := fun x vs H Q => ∃ l b xs zs, x = .ref l ∧ vs = [.ref b] ∧ H l = some (.lst xs) ∧ H b = some (.lst zs) ∧ xs.length + zs.length ≤ sizeLine ∧ Q .non (upd H l (.lst (xs ++ zs)))
theorem mt_extend : MtM X "list.extend" rExtend := by
  intro pins s σ H x vs v us Q I rx rv h
  obtain ⟨l, b, xs, zs, rfl, rfl, hH, hB, hz, q⟩ := h
  cases rx
  obtain ⟨u, rfl, ru⟩ := rv.one
  cases ru
  obtain ⟨z, its, n, r, hl, e⟩ := I.lstM hH
  obtain ⟨z2, its2, n2, r2, hl2, e2⟩ := I.lstM hB
  have hsz : its.toArray.size + its2.toArray.size ≤ sizeLine := by rw [List.size_toArray, List.size_toArray]; omega
  have hlong : ¬ (!its.toArray.isEmpty && Builtin.List.listTooLong (its.toArray.size + its2.toArray.size)) = true := by
    rw [notLongL hsz, Bool.and_false]
    exact Bool.false_ne_true
  refine call_meets F.slot_list_extend ⟨_, e, rfl⟩ F.entry_list_extend (F.args_list_extend_2 _ _)
    (AutoSeq1.list_extend_list_list_0 l its.toArray n b its2.toArray n2 hlong (by rw [List.size_toArray]; omega) (by omega)) ⟨e, e2, ?_⟩
  refine ⟨.non, _, I.lset (its' := its ++ its2) hH e (by simp) (r.append r2) ?_, rfl, q⟩
  rw [List.length_append]
  omega





def rCat : R2 := fun x y H Q => ∃ l b xs zs, x = .ref l ∧ y = .ref b ∧ H l = some (.lst xs) ∧ H b = some (.lst zs) ∧ xs.length + zs.length ≤ sizeLine ∧ ∀ p, H p = none → Q (.ref p) (upd H p (.lst (xs ++ zs)))
theorem op_cat : OpR X (binaryOp .Add) rCat := by
  intro pins s σ H x y v u Q I rx ry h
  obtain ⟨l, b, xs, zs, rfl, rfl, hH, hB, hz, q⟩ := h
  cases rx
  cases ry
  obtain ⟨z, its, n, r, hl, e⟩ := I.lstM hH
  obtain ⟨z2, its2, n2, r2, hl2, e2⟩ := I.lstM hB
  refine PySem.P.add_list e e2 ?_ (by rw [List.size_toArray, List.size_toArray]; omega)
  have ea : its.toArray ++ its2.toArray = (its ++ its2).toArray := by simp
  rw [ea]
  exact ⟨.ref _, _, I.lnew (t' := s.toks) (r.append r2) (by rw [List.length_append]; omega), rfl, q _ I.fresh⟩

end

section
variable {prog : Program} {w : World} {A : Around} {E : Value → Shared → Prop} {s : Shared}
set_option maxRecDepth 100000 in
end

section
variable {X : Cx}
end
end L2

namespace L2
open PySem PySem.Spec PyProof.Rows

theorem Vals.ints : ∀ {ns : List Int} {us : List Value}, Vals (ns.map V.int) us → IntsAre us ns
  | [], us, h => by
    rw [List.map_nil] at h
    cases h
    exact IntsAre.nil
  | n :: ns, us, h => by
    rw [List.map_cons] at h
    cases h with
    | cons r t =>
      obtain ⟨k, rfl⟩ := r
      exact IntsAre.cons n k (Vals.ints t)
theorem Vals.ref1 {a : Addr} {us : List Value} (r : Vals [V.ref a] us) : us = [Value.ref a] := by
  cases r with
  | cons r t =>
    cases t
    cases r
    rfl

section
variable {prog : Program} {w : World} {A : Around} {E : Value → Shared → Prop} {s : Shared} {l : Addr} {its : List Value} {ns : List Int} {Q : Value → Shared → Prop}
theorem sum_raw (hh : A.handled = none) (hl : s.heap.IsList l its.toArray) (hi : IntsAre its ns)
    (h : ∀ h' tk t', (∀ b o, s.heap.get? b = some o → h'.get? b = some o) → Q (.int ns.sum t') { s with heap := h', toks := tk }) : wpAny (model prog w) A (call (.builtin "sum") [.ref l]) Q E s := by
  obtain ⟨xs, e⟩ := hi.allInts.items
  have hn : numsOf (intItems xs).toList = ns := by rw [← e]; exact hi.numsOf
  rw [nums_intItems] at hn
  rw [e] at hl
  refine PySem.sum_intListG hh hl fun h' tk t' hk => ?_
  have := h h' tk t' hk
  rw [preSum_eq, List.take_of_length_le (by simp), hn]; exact this
theorem max_raw (hh : A.handled = none) (hl : s.heap.IsList l its.toArray) (hi : IntsAre its ns) (hne : 0 < ns.length)
    (h : ∀ h' tk M t', (∀ b o, s.heap.get? b = some o → h'.get? b = some o) → M ∈ ns → (∀ a, a ∈ ns → a ≤ M) → Q (.int M t') { s with heap := h', toks := tk }) : wpAny (model prog w) A (call (.builtin "max") [.ref l]) Q E s := by
  obtain ⟨xs, e⟩ := hi.allInts.items
  have hn : numsOf (intItems xs).toList = ns := by rw [← e]; exact hi.numsOf
  rw [nums_intItems] at hn
  subst hn
  rw [e] at hl
  have hsz : 0 < xs.size := by simpa using hne
  refine PySem.max_intList hh hl hsz fun v h' tk hv hk => ?_
  obtain ⟨t, rfl⟩ := intItems_at hv
  obtain ⟨h1, h2⟩ := argBest_gt (numAt xs) (xs.size - 1)
  refine h h' tk _ t hk ?_ fun a ha => ?_
  · rw [numAt_eq]; exact PySem.getD_mem (by rw [List.length_map, Array.length_toList]; omega)
  · obtain ⟨j, hj, rfl⟩ := mem_getD ha
    rw [List.length_map, Array.length_toList] at hj
    rw [← numAt_eq]; exact h2 j (by omega)
end

section
variable {X : Cx}
def rSum (K : PySem.W.Frag) : List V → Hp → VK → Prop := fun vs H Q => ∃ (a : Addr) (ns : List Int), vs = [V.ref a] ∧ SqL K H a (ns.map V.int) ∧ Q (.int ns.sum) H
def rMax (K : PySem.W.Frag) : List V → Hp → VK → Prop := fun vs H Q => ∃ (a : Addr) (ns : List Int), vs = [V.ref a] ∧ SqL K H a (ns.map V.int) ∧ 0 < ns.length ∧ ∀ m, m ∈ ns → (∀ y, y ∈ ns → y ≤ m) → Q (.int m) H
theorem cr_sum (hc : X.calm = true) : CallR X (.builtin "sum") (rSum X.K) := by
  intro pins s σ H vs us Q I r h
  obtain ⟨a, ns, rfl, hs, q⟩ := h
  obtain ⟨its, rv, hl, _⟩ := I.list hs
  rw [Vals.ref1 r]
  exact sum_raw (I.ok.hd hc) hl.isList rv.ints fun h' tk t' hk => ⟨.int _, H, I.kept hk, ⟨_, rfl⟩, q⟩
theorem cr_max (hc : X.calm = true) : CallR X (.builtin "max") (rMax X.K) := by
  intro pins s σ H vs us Q I r h
  obtain ⟨a, ns, rfl, hs, hne, q⟩ := h
  obtain ⟨its, rv, hl, _⟩ := I.list hs
  rw [Vals.ref1 r]
  exact max_raw (I.ok.hd hc) hl.isList rv.ints hne fun h' tk m t' hk h1 h2 => ⟨.int _, H, I.kept hk, ⟨_, rfl⟩, q m h1 h2⟩

end

section
variable {X : Cx}
end

section
variable {X : Cx}
end

section
variable {X : Cx}
end

mutual
inductive Dp (K : PySem.W.Frag) (H : Hp) : V → PyData → Prop
  | non : Dp K H .non .none
  | bl (b : Bool) : Dp K H (.bl b) (.bool b)
  | int (i : Int) : Dp K H (.int i) (.int i)
  | str (x : Str) : Dp K H (.str x) (.str x)
  | lst {a : Addr} {xs : List V} {ds : List PyData} : SqL K H a xs → DpAll K H xs ds → Dp K H (.ref a) (.list ds)
  | tup {a : Addr} {xs : List V} {ds : List PyData} : SqT K H a xs → DpAll K H xs ds → Dp K H (.ref a) (.tuple ds)
inductive DpAll (K : PySem.W.Frag) (H : Hp) : List V → List PyData → Prop
  | nil : DpAll K H [] []
  | cons {v : V} {vs : List V} {d : PyData} {ds : List PyData} : Dp K H v d → DpAll K H vs ds → DpAll K H (v :: vs) (d :: ds)
end
section
variable {X : Cx} {pins : List (Addr × Obj)} {σ : St} {H : Hp} {s : Shared}
mutual
theorem Dp.reads (I : Inv X pins σ H s) : ∀ (d : PyData) (v : V) (u : Value), Dp X.K H v d → RelV v u → ∃ as, Reads s.heap u d as
  | .none, _, _, h, r => by
    cases h
    cases r
    exact ⟨_, Reads.none⟩
  | .bool b, _, _, h, r => by
    cases h
    cases r
    exact ⟨_, Reads.bool b⟩
  | .int i, _, _, h, r => by
    cases h
    obtain ⟨t, rfl⟩ := r
    exact ⟨_, Reads.int i t⟩
  | .str x, _, _, h, r => by
    cases h
    obtain ⟨t, rfl⟩ := r
    exact ⟨_, Reads.str x t⟩
  | .list ds, _, _, h, r => by
    cases h with
    | lst hs ha =>
      cases r
      obtain ⟨its, rv, ⟨o, n, ho, hc, _, hd⟩, _⟩ := I.list hs
      obtain ⟨as, hr⟩ := Dp.readsAll I ds _ its ha rv
      exact ⟨_, Reads.list ho hc hd hr⟩
  | .tuple ds, _, _, h, r => by
    cases h with
    | tup hs ha =>
      cases r
      obtain ⟨its, rv, ⟨o, ho, hc, n, hd⟩, _⟩ := I.tuple hs
      obtain ⟨as, hr⟩ := Dp.readsAll I ds _ its ha rv
      exact ⟨_, Reads.tuple ho hc hd hr⟩
  | .dict _, _, _, h, _ => by cases h
theorem Dp.readsAll (I : Inv X pins σ H s) : ∀ (ds : List PyData) (vs : List V) (us : List Value), DpAll X.K H vs ds → Vals vs us → ∃ as, ReadsAll s.heap us ds as
  | [], _, _, h, r => by
    cases h
    cases r
    exact ⟨_, ReadsAll.nil⟩
  | d :: ds, _, _, h, r => by
    cases h with
    | cons h1 h2 =>
      cases r with
      | cons r1 r2 =>
        obtain ⟨as, q1⟩ := Dp.reads I d _ _ h1 r1
        obtain ⟨bs, q2⟩ := Dp.readsAll I ds _ _ h2 r2
        exact ⟨_, ReadsAll.cons q1 q2⟩
end
end
section
variable {X : Cx}
end
end L2

namespace L2
open PySem PySem.Spec PyProof.Rows
abbrev CellAt (h : Heap) (c : Addr) (v : Option Value) : Prop := h.IsCell c v
def relS (scope sc : Scope) : Scope :=
  { scope with names := scope.names.map fun (n, k) => if (k == .free && sc.kind == .function && sc.names.lookup n == some .cell) then (n, .cell) else (n, k) }

def cloFrom (cells : List (Str × Addr)) : List (Str × NameKind) → List (Str × Addr) → List (Str × Addr)
  | [], acc => acc
  | (n, k) :: r, acc => if k == .free then cloFrom cells r ((n, (cells.lookup n).getD 0) :: acc) else cloFrom cells r acc

theorem closure_loop (env : Env) (f : Str × NameKind → List (Str × Addr) → Sem (ForInStep (List (Str × Addr))))
    (hf : ∀ n k c, f (n, k) c = if k == .free then (do let a ← cellOf env n; pure (.yield ((n, a) :: c))) else pure (.yield c)) :
    ∀ (names : List (Str × NameKind)) (acc : List (Str × Addr)), (∀ y ∈ names, y.2 = .free → ∃ c, env.cells.lookup y.1 = some c) → forIn names acc f = pure (cloFrom env.cells names acc)
  | [], acc, _ => by rw [List.forIn_nil]; rfl
  | (n, k) :: r, acc, h => by
    rw [List.forIn_cons, hf]
    have ih := fun acc => closure_loop env f hf r acc fun y hy => h y (List.mem_cons_of_mem _ hy)
    unfold cloFrom
    by_cases hk : (k == NameKind.free) = true
    · rw [if_pos hk, if_pos hk]
      obtain ⟨c, hc⟩ := h (n, k) List.mem_cons_self (by simpa using hk)
      have e : cellOf env n = pure c := by unfold cellOf; rw [hc]
      rw [e]
      have e2 : (env.cells.lookup n).getD 0 = c := by rw [hc]; rfl
      rw [e2]
      exact ih _
    · rw [if_neg hk, if_neg hk]
      exact ih _
theorem closure_ok {scope : Scope} {env : Env} (h : ∀ y ∈ scope.names, y.2 = .free → ∃ c, env.cells.lookup y.1 = some c) : closureFor scope env = pure (cloFrom env.cells scope.names []) := by
  simp only [closureFor]
  rw [closure_loop env _ (fun n k c => rfl) scope.names [] h]
  rfl

theorem mem_lookup {α : Type} : ∀ {l : List (Str × α)} {n : Str} {c : α}, (n, c) ∈ l → ∃ c', l.lookup n = some c'
  | (k, v) :: r, n, c, h => by
    rw [List.lookup_cons]
    cases hb : n == k with
    | true => exact ⟨_, rfl⟩
    | false =>
      rcases List.mem_cons.mp h with e | h
      · cases e; simp at hb
      · exact mem_lookup h

theorem cloFrom_mem {cells : List (Str × Addr)} : ∀ {names : List (Str × NameKind)} {acc : List (Str × Addr)} {n : Str} {c : Addr}, (n, c) ∈ cloFrom cells names acc → (n, c) ∈ acc ∨ ((n, .free) ∈ names ∧ c = (cells.lookup n).getD 0)
  | [], _, _, _, h => .inl h
  | (m, k) :: r, acc, n, c, h => by
    unfold cloFrom at h
    split at h
    · rename_i hk
      have hk : k = .free := by simpa using hk
      rcases cloFrom_mem h with h | ⟨h1, h2⟩
      · rcases List.mem_cons.mp h with e | h
        · cases e; exact .inr ⟨hk ▸ List.mem_cons_self, rfl⟩
        · exact .inl h
      · exact .inr ⟨List.mem_cons_of_mem _ h1, h2⟩
    · rcases cloFrom_mem h with h | ⟨h1, h2⟩
      · exact .inl h
      · exact .inr ⟨List.mem_cons_of_mem _ h1, h2⟩
theorem cloFrom_acc {cells : List (Str × Addr)} : ∀ {names : List (Str × NameKind)} {acc : List (Str × Addr)} {p : Str × Addr}, p ∈ acc → p ∈ cloFrom cells names acc
  | [], _, _, h => h
  | (m, k) :: r, acc, p, h => by
    unfold cloFrom
    split
    · exact cloFrom_acc (List.mem_cons_of_mem _ h)
    · exact cloFrom_acc h
theorem cloFrom_has {cells : List (Str × Addr)} : ∀ {names : List (Str × NameKind)} {acc : List (Str × Addr)} {n : Str}, (n, .free) ∈ names → (n, (cells.lookup n).getD 0) ∈ cloFrom cells names acc
  | (m, k) :: r, acc, n, h => by
    unfold cloFrom
    rcases List.mem_cons.mp h with e | h
    · cases e
      exact cloFrom_acc List.mem_cons_self
    · split
      · exact cloFrom_has h
      · exact cloFrom_has h

theorem cells_mem : ∀ {names : List (Str × NameKind)} {h : Heap} {acc : List (Str × Addr)} {x : Str} {c : Addr}, (x, c) ∈ cellsFrom h.objs.size names acc →
    (x, c) ∈ acc ∨ ((x, .cell) ∈ names ∧ h.objs.size ≤ c ∧ CellAt (pushCells h names) c none)
  | [], _, _, _, _, h => .inl h
  | (n, k) :: r, h, acc, x, c, hm => by
    unfold cellsFrom at hm
    unfold pushCells
    split at hm
    · rename_i hk
      rw [if_pos hk]
      have hk : k = .cell := by simpa using hk
      rw [← Heap.size_push h { cls := .type "cell", data := .cell none }] at hm
      rcases cells_mem hm with hm | ⟨h1, h2, h3⟩
      · rcases List.mem_cons.mp hm with e | hm
        · cases e
          exact .inr ⟨hk ▸ List.mem_cons_self, Nat.le_refl _, _, pushCells_keeps r _ _ _ (Heap.get?_push_size _ rfl), rfl⟩
        · exact .inl hm
      · rw [Heap.size_push] at h2
        exact .inr ⟨List.mem_cons_of_mem _ h1, Nat.le_of_succ_le h2, h3⟩
    · rename_i hk
      rw [if_neg hk]
      rcases cells_mem hm with hm | ⟨h1, h2, h3⟩
      · exact .inl hm
      · exact .inr ⟨List.mem_cons_of_mem _ h1, h2, h3⟩
theorem cells_acc : ∀ {names : List (Str × NameKind)} {n : Nat} {acc : List (Str × Addr)} {p : Str × Addr}, p ∈ acc → p ∈ cellsFrom n names acc
  | [], _, _, _, h => h
  | (m, k) :: r, n, acc, p, h => by
    unfold cellsFrom
    split
    · exact cells_acc (List.mem_cons_of_mem _ h)
    · exact cells_acc h
theorem cells_has : ∀ {names : List (Str × NameKind)} {n : Nat} {acc : List (Str × Addr)} {x : Str}, (x, .cell) ∈ names → ∃ c, (x, c) ∈ cellsFrom n names acc
  | (m, k) :: r, n, acc, x, h => by
    unfold cellsFrom
    rcases List.mem_cons.mp h with e | h
    · cases e
      exact ⟨n, cells_acc List.mem_cons_self⟩
    · split
      · exact cells_has h
      · exact cells_has h
theorem cells_inj : ∀ {names : List (Str × NameKind)} {h : Heap} {acc : List (Str × Addr)} {x y : Str} {c : Addr}, (∀ p ∈ acc, p.2 < h.objs.size) → (∀ x y c, (x, c) ∈ acc → (y, c) ∈ acc → x = y) →
    (x, c) ∈ cellsFrom h.objs.size names acc → (y, c) ∈ cellsFrom h.objs.size names acc → x = y
  | [], _, _, _, _, _, _, hi, h1, h2 => hi _ _ _ h1 h2
  | (n, k) :: r, h, acc, x, y, c, hl, hi, h1, h2 => by
    unfold cellsFrom at h1 h2
    split at h1
    · rename_i hk
      rw [if_pos hk] at h2
      rw [← Heap.size_push h { cls := .type "cell", data := .cell none }] at h1 h2
      refine cells_inj (h := h.push _) (fun p hp => ?_) (fun x y c a b => ?_) h1 h2
      · rw [Heap.size_push]
        rcases List.mem_cons.mp hp with rfl | hp
        · exact Nat.lt_succ_self _
        · exact Nat.lt_succ_of_lt (hl p hp)
      · rcases List.mem_cons.mp a with e | a <;> rcases List.mem_cons.mp b with e' | b
        · cases e; cases e'; rfl
        · cases e; exact absurd (hl _ b) (Nat.lt_irrefl _)
        · cases e'; exact absurd (hl _ a) (Nat.lt_irrefl _)
        · exact hi _ _ _ a b
    · rename_i hk
      rw [if_neg hk] at h2
      exact cells_inj hl hi h1 h2

theorem newEnv_comp {M : Model} {A : Around} {E : Value → Shared → Prop} {s : Shared} {scope : Scope} {globals : Addr} {closure : List (Str × Addr)} {qual : Str} {func : Option Addr} {code : Value} {around : Env} {builtins : Addr} {Q : Env → Shared → Prop}
    (h : Q (newEnv scope s.heap.objs.size globals (cellsFrom (s.heap.objs.size + 1) scope.names closure) qual func code (some around) builtins)
      { s with heap := pushCells (s.heap.push { cls := .type "dict", data := .dict #[] }) scope.names }) :
    wpAny M A (newFunctionEnv scope globals closure [] qual func code (some around) builtins) Q E s := by
  simp only [newFunctionEnv, Option.isSome_some, if_true]
  refine wpAny_bind (wpAny_alloc ?_)
  refine wpAny_bind (wpAny_layCells _ (fun n k c => rfl) scope.names closure _ _ ?_)
  rw [show ({ s with heap := s.heap.push { cls := .type "dict", data := .dict #[] } } : Shared).heap.objs.size = s.heap.objs.size + 1 from Heap.size_push ..]
  rw [List.forIn_nil]
  exact wpAny_bind (wpAny_pure (wpAny_pure h))

theorem lookup_relS {sc : Scope} : ∀ {names : List (Str × NameKind)} {x : Str} {k : NameKind},
    (names.map fun (n, k) => if (k == NameKind.free && sc.kind == .function && sc.names.lookup n == some .cell) then (n, NameKind.cell) else (n, k)).lookup x = some k →
    ∃ k', names.lookup x = some k' ∧ (k = k' ∨ (k' = .free ∧ k = .cell))
  | [], _, _, h => by simp at h
  | (n, k₀) :: r, x, k, h => by
    have ih := @lookup_relS sc r x k
    have h' : List.lookup x ((if (k₀ == NameKind.free && sc.kind == .function && sc.names.lookup n == some .cell) = true then (n, NameKind.cell) else (n, k₀)) :: (r.map _)) = some k := h
    cases hx : x == n with
    | true =>
      simp only [List.lookup_cons, hx]
      by_cases hc : (k₀ == NameKind.free && sc.kind == .function && sc.names.lookup n == some .cell) = true
      · rw [if_pos hc] at h'
        simp only [List.lookup_cons, hx] at h'
        cases h'
        simp only [Bool.and_eq_true, beq_iff_eq] at hc
        exact ⟨k₀, rfl, .inr ⟨hc.1.1, rfl⟩⟩
      · rw [if_neg hc] at h'
        simp only [List.lookup_cons, hx] at h'
        cases h'
        exact ⟨_, rfl, .inl rfl⟩
    | false =>
      simp only [List.lookup_cons, hx]
      by_cases hc : (k₀ == NameKind.free && sc.kind == .function && sc.names.lookup n == some .cell) = true
      · rw [if_pos hc] at h'
        simp only [List.lookup_cons, hx] at h'
        exact ih h'
      · rw [if_neg hc] at h'
        simp only [List.lookup_cons, hx] at h'
        exact ih h'



structure BlkOk (N : List Str) (sc scope : Scope) (own : List (Str × Nat)) : Prop where
  kind : scope.kind = .function
  uniq : ∀ y ∈ scope.names, scope.names.lookup y.1 = some y.2
  ix : ∀ p ∈ own, N[p.2]? = some p.1
  free : ∀ y ∈ scope.names, y.2 = .free → sc.names.lookup y.1 = some .cell ∨ sc.names.lookup y.1 = some .free
  own : ∀ y ∈ scope.names, y.2 = .local ∨ y.2 = .cell → y.1 ∈ own.map (·.1) ∨ y.1 ∉ N
def wipe (σ : St) : List Nat → St
  | [] => σ
  | v :: vs => (wipe σ vs).set v none
theorem wipe_length (σ : St) : ∀ vs : List Nat, (wipe σ vs).length = σ.length
  | [] => rfl
  | v :: vs => by unfold wipe; rw [List.length_set, wipe_length σ vs]
theorem wipe_some {σ : St} {i : Nat} {x : V} : ∀ {vs : List Nat}, (wipe σ vs)[i]? = some (some x) → σ[i]? = some (some x) ∧ i ∉ vs
  | [], h => ⟨h, by simp⟩
  | v :: vs, h => by
    unfold wipe at h
    by_cases hi : v = i
    · subst hi
      by_cases hv : v < (wipe σ vs).length
      · rw [List.getElem?_set_self hv] at h; cases h
      · rw [List.getElem?_eq_none (by simpa using hv)] at h; cases h
    · rw [List.getElem?_set_ne hi] at h
      obtain ⟨h1, h2⟩ := wipe_some h
      exact ⟨h1, by simp only [List.mem_cons, not_or]; exact ⟨fun e => hi e.symm, h2⟩⟩

abbrev Cx.blk (X : Cx) (s : Shared) (H : Hp) (scope : Scope) (cenv : Env) (fp : List Addr) : Cx := { X with s_0 := s, H_0 := H, env := cenv, outer := X.stack, ex := fp, fn := fun x => scope.names.lookup x == some .cell, pn := [], xe := fun _ _ => False }
section
variable {X : Cx} {pins : List (Addr × Obj)} {σ : St} {H : Hp} {s : Shared}
theorem block_start {scope : Scope} {own : List (Str × Nat)} {fp : List Addr} (I : Inv X pins σ H s) (ok : BlkOk X.N X.env.scope scope own) (hN : X.N.Nodup) (hfp : ∀ b ∈ fp, FpOk X pins H b ∧ b < s.heap.objs.size) :
    Inv (X.blk s H scope (compEnvC scope (cellsFrom (s.heap.objs.size + 1) scope.names (cloFrom X.env.cells scope.names [])) s.heap.objs.size X.env) fp) [] (wipe σ (own.map (·.2))) H { s with heap := pushCells (s.heap.push { cls := .type "dict", data := .dict #[] }) scope.names } := by
  have hfree : ∀ y ∈ scope.names, y.2 = .free → ∃ c, X.env.cells.lookup y.1 = some c := fun y hy e => by
    rcases ok.free y hy e with k | k
    · exact I.ok.has _ (.inl k)
    · exact I.ok.has _ (.inr k)
  generalize hcenv : compEnvC scope (cellsFrom (s.heap.objs.size + 1) scope.names (cloFrom X.env.cells scope.names [])) s.heap.objs.size X.env = cenv
  have kp : ∀ b o, s.heap.get? b = some o → (pushCells (s.heap.push { cls := .type "dict", data := .dict #[] }) scope.names).get? b = some o := fun b o e => pushCells_keeps _ _ _ _ (Heap.get?_push_of_some _ e)
  have hL : cenv.locals = s.heap.objs.size := by rw [← hcenv]; rfl
  have hcl : cenv.cells = cellsFrom (s.heap.objs.size + 1) scope.names (cloFrom X.env.cells scope.names []) := by rw [← hcenv]; rfl
  have hsc : cenv.scope = relS scope X.env.scope := by rw [← hcenv]; rfl
  rw [← Heap.size_push s.heap { cls := .type "dict", data := .dict #[] }] at hcl
  have cm : ∀ {y c}, (y, c) ∈ cloFrom X.env.cells scope.names [] → X.env.cells.lookup y = some c ∧ c < s.heap.objs.size := fun {y c} hm => by
    rcases cloFrom_mem hm with hm | ⟨h1, rfl⟩
    · cases hm
    · obtain ⟨c, hc⟩ := hfree _ h1 rfl
      rw [hc]
      obtain ⟨w, z⟩ := I.cell _ _ hc
      exact ⟨rfl, z.lt⟩
  have mem : ∀ {y c}, cenv.cells.lookup y = some c → (X.env.cells.lookup y = some c ∧ c < s.heap.objs.size) ∨ (s.heap.objs.size + 1 ≤ c ∧ CellAt (pushCells (s.heap.push { cls := .type "dict", data := .dict #[] }) scope.names) c none) := fun {y c} e => by
    rw [hcl] at e
    rcases cells_mem (PySem.mem_of_lookup e) with hm | ⟨_, h2, h3⟩
    · exact .inl (cm hm)
    · rw [Heap.size_push] at h2; exact .inr ⟨h2, h3⟩
  have look : ∀ {y}, scope.names.lookup y = some .free → ∃ c, cenv.cells.lookup y = some c ∧ X.env.cells.lookup y = some c := fun {y} hl => by
    have hy : (y, NameKind.free) ∈ scope.names := PySem.mem_of_lookup hl
    obtain ⟨c', e'⟩ := mem_lookup (cells_acc (names := scope.names) (n := (s.heap.push { cls := .type "dict", data := .dict #[] }).objs.size) (cloFrom_has (cells := X.env.cells) (acc := []) hy))
    rw [← hcl] at e'
    refine ⟨c', e', ?_⟩
    rw [hcl] at e'
    rcases cells_mem (PySem.mem_of_lookup e') with hm | ⟨h1, _, _⟩
    · exact (cm hm).1
    · have := ok.uniq _ h1
      rw [hl] at this; cases this
  have okB : (X.blk s H scope cenv fp).Ok := by
    refine ⟨I.ok.mod, by show cenv.scope.kind = _; rw [hsc]; exact ok.kind, by show cenv.globals = _; rw [← hcenv]; exact I.ok.glob, by show cenv.builtins = _; rw [← hcenv]; exact I.ok.blt, by show s.heap.objs.size ≤ cenv.locals; rw [hL]; exact Nat.le_refl _,
      fun y z c e1 e2 => ?_, fun y hy => ?_, fun y c z e => ?_, I.ok.hd, I.ok.frames, .inl rfl, fun b hb => ⟨?_, fun y c e z => ?_⟩, I.bs, Nat.le_trans I.ok.bsz I.sz, fun b o e hb => ?_, fun b hb z => ?_, I.stack, I.stkFree⟩
    · have e1 : cenv.cells.lookup y = some c := e1
      have e2 : cenv.cells.lookup z = some c := e2
      rw [hcl] at e1 e2
      refine cells_inj (fun p hp => ?_) (fun y z c a b => I.ok.inj y z c (cm a).1 (cm b).1) (PySem.mem_of_lookup e1) (PySem.mem_of_lookup e2)
      rw [Heap.size_push]
      exact Nat.lt_succ_of_lt (cm (y := p.1) (c := p.2) hp).2
    · show ∃ c, cenv.cells.lookup y = some c
      have key : ∀ k, cenv.kindOf y = some k → (k = .cell ∨ k = .free) → ∃ c, cenv.cells.lookup y = some c := fun k hk hk' => by
        unfold Env.kindOf at hk
        rw [hsc] at hk
        obtain ⟨k', e, r⟩ := lookup_relS hk
        have : k' = .cell ∨ k' = .free := by
          rcases r with rfl | ⟨rfl, _⟩
          · exact hk'
          · exact .inr rfl
        rcases this with rfl | rfl
        · obtain ⟨c, hm⟩ := cells_has (n := (s.heap.push { cls := .type "dict", data := .dict #[] }).objs.size) (acc := cloFrom X.env.cells scope.names []) (PySem.mem_of_lookup e)
          obtain ⟨c', e'⟩ := mem_lookup hm
          exact ⟨c', by rw [hcl]; exact e'⟩
        · obtain ⟨c, h1, _⟩ := look e
          exact ⟨c, h1⟩
      rcases hy with hy | hy
      · exact key _ hy (.inl rfl)
      · exact key _ hy (.inr rfl)
    · have z : (scope.names.lookup y == some NameKind.cell) = true := z
      have z : scope.names.lookup y = some .cell := by simpa using z
      have e : cenv.cells.lookup y = some c := e
      rw [hcl] at e
      rcases cells_mem (PySem.mem_of_lookup e) with hm | ⟨_, h2, _⟩
      · rcases cloFrom_mem hm with hm | ⟨h1, _⟩
        · cases hm
        · have q := ok.uniq _ h1
          rw [z] at q; cases q
      · rw [Heap.size_push] at h2
        exact Nat.le_of_succ_le h2
    · show b ≠ cenv.locals
      rw [hL]; exact Nat.ne_of_lt (hfp b hb).2
    · have e : cenv.cells.lookup y = some c := e
      rcases mem e with ⟨h1, _⟩ | ⟨h1, _⟩
      · exact (hfp b hb).1.2.2.2.2.1 y c h1 z
      · have h2 : s.heap.objs.size + 1 ≤ b := by rw [← z]; exact h1
        exact absurd (Nat.lt_of_lt_of_le (hfp b hb).2 (Nat.le_of_succ_le h2)) (Nat.lt_irrefl _)
    · rcases (hfp b hb).1.2.2.2.1 with z | z
      · exact I.ok.noex b o e z
      · exact absurd (Nat.lt_of_lt_of_le (Heap.lt_size e) (Nat.le_trans I.ok.bsz z)) (Nat.lt_irrefl _)
    · rcases List.mem_cons.mp (I.stkSub b z) with z | z
      · exact (hfp b hb).1.2.1 z
      · exact (hfp b hb).1.2.2.1 z
  refine ⟨okB, rfl, I.bare, Un.kept kp, ⟨fun _ => none, ?_, fun i y av e1 e2 e3 => ?_⟩, fun y c e => ?_, ?_, fun y c e => ?_, fun p hp => ?_, I.hok.kept kp, by rw [wipe_length]; exact I.len⟩
  · show Heap.Ns _ cenv.locals _
    rw [hL]
    exact Heap.Ns.keeps (Heap.Ns.new ..) fun b o e => pushCells_keeps _ _ _ _ e
  · obtain ⟨e2, hne⟩ := wipe_some e2
    have hfr : scope.names.lookup y = some .free ∧ (cenv.kindOf y = some .cell ∨ cenv.kindOf y = some .free) := by
      have key : ∀ k, cenv.scope.names.lookup y = some k → k = .local ∨ k = .cell ∨ k = .free → scope.names.lookup y = some .free ∧ (cenv.kindOf y = some .cell ∨ cenv.kindOf y = some .free) := fun k hk hk' => by
        have hk0 := hk
        rw [hsc] at hk
        obtain ⟨k', e, r⟩ := lookup_relS hk
        have no : ¬ (k' = .local ∨ k' = .cell) := fun hh => by
          rcases ok.own _ (PySem.mem_of_lookup e) hh with e' | e'
          · obtain ⟨p, hp, hpy⟩ := List.mem_map.mp e'
            have e3 := ok.ix p hp
            have : p.1 = y := hpy
            rw [this] at e3
            exact hne (List.mem_map.mpr ⟨p, hp, nodup_ix hN e3 e1⟩)
          · exact e' (List.mem_of_getElem? e1)
        rcases r with rfl | ⟨rfl, rfl⟩
        · rcases hk' with rfl | rfl | rfl
          · exact absurd (.inl rfl) no
          · exact absurd (.inr rfl) no
          · exact ⟨e, .inr hk0⟩
        · exact ⟨e, .inl hk0⟩
      have e3 : Vis cenv.scope y := e3
      rcases e3 with e3 | e3 | e3
      · exact key _ e3 (.inl rfl)
      · exact key _ e3 (.inr (.inl rfl))
      · exact key _ e3 (.inr (.inr rfl))
    obtain ⟨m, hn, hl⟩ := I.loc
    have hvis : Vis X.env.scope y := (ok.free _ (PySem.mem_of_lookup hfr.1) rfl).elim (fun k => .inr (.inl k)) (fun k => .inr (.inr k))
    obtain ⟨w, r, q⟩ := hl i y av e1 e2 hvis
    refine ⟨w, r, .inr ⟨hfr.2, ?_⟩⟩
    obtain ⟨c, h1, h2⟩ := look hfr.1
    rcases q with ⟨k, _⟩ | ⟨_, c', e', z⟩
    · have k : X.env.scope.names.lookup y = some .local := k
      rcases ok.free _ (PySem.mem_of_lookup hfr.1) rfl with k' | k' <;> rw [show X.env.scope.names.lookup y = _ from k'] at k <;> cases k
    · rw [h2] at e'; cases e'
      exact ⟨c, h1, z.keeps kp⟩
  · have e : cenv.cells.lookup y = some c := e
    rcases mem e with ⟨h1, _⟩ | ⟨_, z⟩
    · obtain ⟨w, z⟩ := I.cell y c h1
      exact ⟨w, z.keeps kp⟩
    · exact ⟨_, z⟩
  · show H cenv.locals = none
    rw [hL]; exact I.hok.fresh (Nat.le_refl _)
  · have e : cenv.cells.lookup y = some c := e
    rcases mem e with ⟨h1, _⟩ | ⟨h1, _⟩
    · exact I.freeC y c h1
    · exact I.hok.fresh (Nat.le_of_succ_le h1)
  · exact absurd (show p ∈ ([] : List (Addr × Obj)) ++ [] from hp) (by simp)

theorem app_ok {E : Value → Shared → Prop} {D : Addr} {xs : List V} {y : V} {v : Value} {Q : Value → Shared → Prop} (I : Inv X pins σ H s) (hD : H D = some (.lst xs)) (hz : xs.length < sizeLine) (r : RelV y v)
    (h : ∀ s', Inv X pins σ (upd H D (.lst (xs ++ [y]))) s' → Q .none s') : wpAny (model X.prog X.w) X.A (call (.builtin "list.append") [.ref D, v]) Q E s := by
  obtain ⟨hz', its, n, ri, e⟩ := I.hok D _ hD
  have hl := ri.length
  refine append_at (hsz := by rw [List.size_toArray]; omega) e fun h' sb ho' => ?_
  refine h { s with heap := h' } (I.write (t' := s.toks) (by rw [hD]; trivial) (.inl rfl) (fun b u hb q => (sb.2 b hb).trans q) ⟨_, ho'⟩ ⟨by rw [List.length_append]; exact hz, its ++ [v], n + 1, ri.append (.cons r .nil), ?_⟩)
  rw [ho']
  simp

def PTs (X : Cx) (ifs : List Expr) (t : TT) : Prop :=
  ∀ (pins : List (Addr × Obj)) (s : Shared) (σ : St) (H : Hp) (Q : Bool → Hp → Prop), Inv X pins σ H s → t σ H Q →
    wpAny (model X.prog X.w) X.A (forIn ifs true fun c r => if r = true then do let ok ← isTrue c X.env (eval c X.env); pure (ForInStep.yield ok) else pure (ForInStep.yield r)) (TP X pins σ Q) X.xe s
def tYes : TT := fun _ H Q => Q true H
theorem pts_nil : PTs X [] tYes := fun _ _ _ H _ I h => wpAny_tests_nil ⟨H, I, h⟩
theorem pts_one {c : Expr} {t : TT} (h : PT X c t) : PTs X [c] t := fun pins s σ H Q I hw => wpAny_tests_one (h pins s σ H Q I hw)
end

theorem thnF {α : Type} {t : Sem α} {Q Q' : α → Shared → Prop} {M : Model} {A : Around} {E : Value → Shared → Prop} {s : Shared} (h : wpAny M A t Q (fun _ _ => False) s) (hQ : ∀ a s, Q a s → Q' a s) : wpAny M A t Q' E s := wpAny_mono h hQ fun _ _ z => False.elim z

theorem compLoop_any {prog : Program} {w : World} {A : Around} {R : Result → Shared → Prop} {s : Shared} {elt target iter : Expr} {ifs : List Expr} {scope : Scope} {pos : Pos} {it acc : Value} {env : Env} (I : Nat → Shared → Prop)
    (turn : ∀ n s, I n s → wpAny (model prog w) A (pyNext it) (fun r s₁ => match r with
      | none => R (.ok .next) s₁
      | some v => wpAny (model prog w) A (letOwnedTupleGo target it v) (fun _ s₁' => wpAny (model prog w) A (assign target env v) (fun _ s₂ =>
          wpAny (model prog w) A (forIn ifs true fun c r => if r = true then do let ok ← isTrue c env (eval c env); pure (ForInStep.yield ok) else pure (ForInStep.yield r)) (fun ok s₃ =>
            if ok = true then wpAny (model prog w) A (eval elt env) (fun x s₄ =>
              wpAny (model prog w) A (call (.builtin "list.append") [acc, x]) (fun _ s₅ => ∃ m, m < n ∧ I m s₅) (notedBy (model prog w) A env fun e s' => R (.error e) s') s₄) (notedBy (model prog w) A env fun e s' => R (.error e) s') s₃
            else ∃ m, m < n ∧ I m s₃) (notedBy (model prog w) A env fun e s' => R (.error e) s') s₂) (notedBy (model prog w) A env fun e s' => R (.error e) s') s₁') (notedBy (model prog w) A env fun e s' => R (.error e) s') s₁) (notedBy (model prog w) A env fun e s' => R (.error e) s') s)
    (n : Nat) (h : I n s) :
    codeAny (model prog w) A (.compLoop (.ListComp elt [⟨target, iter, ifs, 0⟩] scope pos) 0 it acc env) R s := by
  refine codeAny_loop rfl I (fun n s hI => ?_) n h
  show wpAny _ A ((compTurn (.ListComp elt [⟨target, iter, ifs, 0⟩] scope pos) 0 it acc env).onRaise (fun x => do noteFrame x env; theTreesLotGoes x)) _ _ s
  refine wpAny_noted ?_
  rw [compTurn_list]
  refine wpAny_bind (wpAny_standAt (wpAny_bind (wpAny_mono (turn n s hI) (fun r s₁ h₁ => ?_) fun _ _ h' => h')))
  cases r with
  | none => exact wpAny_pure h₁
  | some v =>
    refine wpAny_bind (wpAny_mono h₁ (fun _ s₁' h₁' => ?_) fun _ _ h' => h')
    refine wpAny_bind (wpAny_mono h₁' (fun _ s₂ h₂ => wpAny_bind (wpAny_mono h₂ (fun ok s₃ h₃ => ?_) fun _ _ h' => h')) fun _ _ h' => h')
    cases ok with
    | false => exact wpAny_pure ⟨rfl, h₃⟩
    | true =>
      exact wpAny_bind (wpAny_bind (wpAny_mono h₃ (fun x s₄ h₄ => wpAny_bind (wpAny_mono h₄ (fun _ s₅ h₅ => wpAny_pure (wpAny_pure ⟨rfl, h₅⟩)) fun _ _ h' => h')) fun _ _ h' => h'))

section
variable {X : Cx}
def tLc (wi : TI) (g : TG) (tt : TT) (te : TE) (vs : List Nat) : TE := fun σ H Q => wi σ H fun J H1 => ∀ D, H1 D = none → ∃ W : Nat → Nat → Hp → Prop, (∃ m, W 0 m (upd H1 D (.lst []))) ∧ ∀ i m H, W i m H →
  (J.stop i H ∧ Q (.ref D) H) ∨ (J.go i H ∧ ∃ Nx : Hp → Prop, (∀ H', Nx H' → ∃ m', m' < m ∧ W (i + 1) m' H') ∧ ∀ x H', J.yld i H x H' → g x (wipe σ vs) H' fun σ2 H2 => wipe σ2 vs = wipe σ vs ∧ tt σ2 H2 fun b H3 =>
    if b = true then te σ2 H3 fun y H4 => ∃ acc, H4 D = some (.lst acc) ∧ acc.length < sizeLine ∧ Nx (upd H4 D (.lst (acc ++ [y]))) else Nx H3)
theorem lc_core {pins : List (Addr × Obj)} {s : Shared} {σ : St} {H : Hp} {Q : VK} {elt tg iter : Expr} {ifs : List Expr} {scope : Scope} {own : List (Str × Nat)} {pos pos' : Pos} {wi : TI} {g : TG} {tt : TT} {te : TE} {use : Option (Value → Sem Unit)} {Qf : Value → Shared → Prop}
    (hc : X.calm = true) (hN : X.N.Nodup) (I : Inv X pins σ H s) (hi : PI X tg iter wi) (ok : BlkOk X.N X.env.scope scope own)
    (hg : ∀ (s : Shared) (H : Hp) (C : Addr) (cl : List (Str × Addr)) (fp : List Addr), PG (X.blk s H scope (compEnvC scope cl C X.env) fp) tg g) (ht : ∀ (s : Shared) (H : Hp) (C : Addr) (cl : List (Str × Addr)) (fp : List Addr), PTs (X.blk s H scope (compEnvC scope cl C X.env) fp) ifs tt)
    (he : ∀ (s : Shared) (H : Hp) (C : Addr) (cl : List (Str × Addr)) (fp : List Addr), PE (X.blk s H scope (compEnvC scope cl C X.env) fp) elt te) (hs : ∀ x, foldedSetIterable iter X.env x = pure x)
    (h : tLc wi g tt te (own.map (·.2)) σ H Q)
    (hRR : ∀ D C s' m H', Inv X pins σ H' s' → Q (.ref D) H' → s'.heap.Ns C m → FpOk X pins H' C → compPost (model X.prog X.w) X.A X.xe use Qf (.ref D) C (.ok .next) s') :
    wpAny (model X.prog X.w) X.A (comprehension (.ListComp elt [⟨tg, iter, ifs, 0⟩] scope pos) scope X.env pos' (newList []) false (eval iter X.env) use) Qf X.xe s := by
  have hfree : ∀ y ∈ scope.names, y.2 = .free → ∃ c, X.env.cells.lookup y.1 = some c := fun y hy e => by
    rcases ok.free y hy e with k | k
    · exact I.ok.has _ (.inl k)
    · exact I.ok.has _ (.inr k)
  refine wpAny_comprehension_free (use := use) rfl hs (closure_ok hfree) ok.kind (fun y hy e => by rw [ok.uniq y hy, e])
    (thn (hi pins s σ H _ I h) fun xv s1 hx => thn hx fun itv s2 h2 => ?_)
  obtain ⟨it, fp, tn, J, H2, e, I2, T, st2, f2, q⟩ := h2
  subst e
  refine wpAny_newObj_type (newEnv_comp ?_) (by show 0 ≤ sizeLine; decide)
  generalize hD : s2.heap.objs.size = D
  have hDn : H2 D = none := I2.hok.fresh (Nat.le_of_eq hD)
  obtain ⟨W, ⟨m0, w0⟩, turn⟩ := q D hDn
  -- the new list
  generalize hs3 : ({ s2 with heap := s2.heap.push { cls := .type "list", data := .seq ([] : List Value).toArray } } : Shared) = s3
  have I3 : Inv X pins σ (upd H2 D (.lst [])) s3 := by
    rw [← hs3]
    refine I2.laid (t' := s2.toks) (fun b o e => Heap.get?_push_of_some _ e) (Nat.le_of_eq hD) ⟨Nat.zero_le _, [], 0, .nil, ?_⟩
    rw [← hD]
    exact Heap.get?_push_size _ rfl
  have h3 : s3.heap = s2.heap.push { cls := .type "list", data := .seq ([] : List Value).toArray } := by rw [← hs3]
  have sz : ∀ b ∈ fp, b < s2.heap.objs.size := fun b hb => by
    obtain ⟨o, e, _⟩ := T.obj _ _ st2 b hb
    exact Heap.lt_size e
  have f3 : ∀ b ∈ fp, FpOk X pins (upd H2 D (.lst [])) b ∧ b < s3.heap.objs.size := fun b hb => by
    have hlt := sz b hb
    refine ⟨⟨?_, (f2 b hb).2⟩, by rw [h3, Heap.size_push]; exact Nat.lt_succ_of_lt hlt⟩
    rw [upd_ne (by rw [← hD]; exact Nat.ne_of_lt hlt)]
    exact (f2 b hb).1
  have st3 : tn 0 s3.heap := T.keep _ _ _ st2 fun b _ o e => by rw [h3]; exact Heap.get?_push_of_some _ e
  have I4 := block_start I3 ok hN f3
  have pg := hg s3 (upd H2 D (.lst [])) s3.heap.objs.size (cellsFrom (s3.heap.objs.size + 1) scope.names (cloFrom X.env.cells scope.names [])) fp
  have pt := ht s3 (upd H2 D (.lst [])) s3.heap.objs.size (cellsFrom (s3.heap.objs.size + 1) scope.names (cloFrom X.env.cells scope.names [])) fp
  have pe := he s3 (upd H2 D (.lst [])) s3.heap.objs.size (cellsFrom (s3.heap.objs.size + 1) scope.names (cloFrom X.env.cells scope.names [])) fp
  show codeAny _ _ (.compStart (.ListComp elt [⟨tg, iter, ifs, 0⟩] scope pos) 0 (.ref it) (.ref D) (compEnvC scope (cellsFrom (s3.heap.objs.size + 1) scope.names (cloFrom X.env.cells scope.names [])) s3.heap.objs.size X.env)) (compPost (model X.prog X.w) X.A X.xe use Qf (.ref D) s3.heap.objs.size) { s3 with heap := pushCells (s3.heap.push { cls := .type "dict", data := .dict #[] }) scope.names }
  have nfp : ∀ b ∈ fp, (upd H2 D (.lst [])) b = none := fun b hb => (f3 b hb).1.1
  generalize hce : compEnvC scope (cellsFrom (s3.heap.objs.size + 1) scope.names (cloFrom X.env.cells scope.names [])) s3.heap.objs.size X.env = ce at I4 pg pt pe ⊢
  have cL : ce.locals = s3.heap.objs.size := by subst hce; rfl
  generalize hH3 : upd H2 D (.lst []) = H3 at I3 I4 pg pt pe w0 nfp f3
  generalize hs4 : ({ s3 with heap := pushCells (s3.heap.push { cls := .type "dict", data := .dict #[] }) scope.names } : Shared) = s4 at I4 ⊢
  have st4 : tn 0 s4.heap := T.keep _ _ _ st3 fun b _ o e => by rw [← hs4]; exact pushCells_keeps _ _ _ _ (Heap.get?_push_of_some _ e)
  have stat : ∀ {σ' : St} {H' : Hp} {s' : Shared}, Inv (X.blk s3 H3 scope ce fp) [] σ' H' s' → (∀ b ∈ fp, H' b = none) → ∀ b ∈ fp, FpOk (X.blk s3 H3 scope ce fp) [] H' b := fun {σ' H' s'} I' hn b hb =>
    ⟨hn b hb, (I'.ok.exf b hb).1, I'.ok.exfs b hb, .inl hb, fun x c e => (I'.ok.exf b hb).2 x c e, fun p hp => absurd (show p ∈ ([] : List (Addr × Obj)) ++ [] from hp) (by simp)⟩
  have loop : codeAny (model X.prog X.w) X.A (.compLoop (.ListComp elt [⟨tg, iter, ifs, 0⟩] scope pos) 0 (.ref it) (.ref D) ce) (compPost (model X.prog X.w) X.A X.xe use Qf (.ref D) s3.heap.objs.size) s4 := by
    refine compLoop_any (fun n s' => ∃ i H', Inv (X.blk s3 H3 scope ce fp) [] (wipe σ (own.map (·.2))) H' s' ∧ tn i s'.heap ∧ (∀ b ∈ fp, H' b = none) ∧ W i n H') ?_ m0 ⟨0, H3, I4, st4, nfp, w0⟩
    rintro n s5 ⟨i, H5, I5, st5, n5, w5⟩
    rcases turn i n H5 w5 with ⟨stop, qq⟩ | ⟨go, Nx, hNx, step⟩
    · have td := T.done (X.blk s3 H3 scope ce fp) rfl rfl rfl hc i [] s5 _ H5 (fun _ _ => False) I5 (stat I5 n5) st5 stop
      refine thnF td fun r s6 ⟨hr, I6⟩ => ?_
      subst hr
      -- back in the def's context
      have I7 : Inv X pins σ H5 s6 := I3.call' (ch := fp) I6.os I6.base I6.hok I6.bare fun b hb => ⟨(f3 b hb).1.2.2.2.1, (f3 b hb).1.2.1, (f3 b hb).1.2.2.2.2.1, (f3 b hb).1.2.2.2.2.2⟩
      have nC : H5 s3.heap.objs.size = none := by
        have z : H5 ce.locals = none := I6.free
        rw [cL] at z
        exact z
      obtain ⟨m, hn, _⟩ := I6.loc
      have hn : s6.heap.Ns ce.locals m := hn
      rw [cL] at hn
      exact hRR D s3.heap.objs.size s6 m H5 I7 qq hn (I3.fpOk (Nat.le_refl _) nC)
    · have ti := T.item (X.blk s3 H3 scope ce fp) rfl rfl rfl hc i [] s5 _ H5 (fun _ _ => False) I5 (stat I5 n5) st5 go
      refine thnF ti fun r s6 ⟨u, hr, h6⟩ => ?_
      subst hr
      refine thnF h6 fun _ s7 ⟨x, H7, I7, r7, y7, st7, n7⟩ => ?_
      have I7' := I7.pinned (stat I7 n7) (T.obj _ _ st7)
      refine thnF (pg _ s7 _ H7 x u _ I7' r7 (step x H7 y7)) fun _ s8 ⟨σ8, H8, I8, hw8, q8⟩ => ?_
      refine thnF (pt _ s8 σ8 H8 _ I8 q8) fun b s9 ⟨H9, I9, q9⟩ => ?_
      -- the turn's end
      have fin : ∀ {s' : Shared} {H' : Hp}, Inv (X.blk s3 H3 scope ce fp) ([] ++ pinsAt fp s7.heap) σ8 H' s' → Nx H' → ∃ m, m < n ∧ ∃ i H', Inv (X.blk s3 H3 scope ce fp) [] (wipe σ (own.map (·.2))) H' s' ∧ tn i s'.heap ∧ (∀ b ∈ fp, H' b = none) ∧ W i m H' := fun {s' H'} I' nx => by
        obtain ⟨m', hm, w'⟩ := hNx H' nx
        have pin' : ∀ b ∈ fp, ∀ o, s7.heap.get? b = some o → s'.heap.get? b = some o ∧ H' b = none := fun b hb o e =>
          let z := I'.pin (b, o) (List.mem_append_right _ (List.mem_append_right _ (mem_pinsAt hb e)))
          ⟨z.1, z.2.1⟩
        have hl : (wipe σ (own.map (·.2))).length = σ8.length := by rw [← hw8, wipe_length]
        refine ⟨m', hm, i + 1, H', (I'.unpinned (pins := [])).weak hl (fun j v e => ?_), T.keep _ _ _ st7 fun b hb o e => (pin' b hb o e).1, fun b hb => ?_, w'⟩
        · rw [← hw8] at e
          exact (wipe_some e).1
        · obtain ⟨o, e, _⟩ := T.obj _ _ st7 b hb
          exact (pin' b hb o e).2
      cases b with
      | false =>
        simp only [Bool.false_eq_true, if_false] at q9 ⊢
        exact fin I9 q9
      | true =>
        simp only [if_true] at q9 ⊢
        refine thnF (pe _ s9 σ8 H9 _ I9 q9) fun z s10 ⟨yv, H10, I10, r10, acc, hD10, hz10, nx⟩ => ?_
        exact app_ok (X := X.blk s3 H3 scope ce fp) I10 hD10 hz10 r10 fun s11 I11 => fin I11 nx
  exact codeAny_compStart_list loop (T.self X.A 0 _ _ _ st4 loop)
theorem pe_lc {elt tg iter : Expr} {ifs : List Expr} {scope : Scope} {own : List (Str × Nat)} {pos : Pos} {wi : TI} {g : TG} {tt : TT} {te : TE} (hc : X.calm = true) (hN : X.N.Nodup) (hi : PI X tg iter wi) (ok : BlkOk X.N X.env.scope scope own)
    (hg : ∀ (s : Shared) (H : Hp) (C : Addr) (cl : List (Str × Addr)) (fp : List Addr), PG (X.blk s H scope (compEnvC scope cl C X.env) fp) tg g) (ht : ∀ (s : Shared) (H : Hp) (C : Addr) (cl : List (Str × Addr)) (fp : List Addr), PTs (X.blk s H scope (compEnvC scope cl C X.env) fp) ifs tt)
    (he : ∀ (s : Shared) (H : Hp) (C : Addr) (cl : List (Str × Addr)) (fp : List Addr), PE (X.blk s H scope (compEnvC scope cl C X.env) fp) elt te) (hs : ∀ x, foldedSetIterable iter X.env x = pure x := by intro _; rfl) :
    PE X (.ListComp elt [⟨tg, iter, ifs, 0⟩] scope pos) (tLc wi g tt te (own.map (·.2))) := by
  intro pins s σ H Q I h
  rw [eval_ListComp]
  refine lc_core hc hN I hi ok hg ht he hs h fun D C s' m H' I' q hn f => ⟨m, hn, fun h'' sb => ?_⟩
  obtain ⟨f0, f1, f2, f3, f4, f5⟩ := f
  exact ⟨.ref D, H', I'.turned (t' := s'.toks) (fun b o hb e => (sb.2 b hb).trans e) f0 f1 f3 f4 f5, rfl, q⟩
theorem ps_setLc {i : Nat} {y : Str} {py : Pos} {elt tg iter : Expr} {ifs : List Expr} {scope : Scope} {own : List (Str × Nat)} {pos spos : Pos} {wi : TI} {g : TG} {tt : TT} {te : TE} (hc : X.calm = true) (hN : X.N.Nodup) (hy : X.N[i]? = some y) (hyl : X.env.scope.names.lookup y = some .local)
    (hsw : swapsWith (.ListComp elt [⟨tg, iter, ifs, 0⟩] scope pos) (some (.Name y py)) spos.line X.env = pure true) (hi : PI X tg iter wi) (ok : BlkOk X.N X.env.scope scope own)
    (hg : ∀ (s : Shared) (H : Hp) (C : Addr) (cl : List (Str × Addr)) (fp : List Addr), PG (X.blk s H scope (compEnvC scope cl C X.env) fp) tg g) (ht : ∀ (s : Shared) (H : Hp) (C : Addr) (cl : List (Str × Addr)) (fp : List Addr), PTs (X.blk s H scope (compEnvC scope cl C X.env) fp) ifs tt)
    (he : ∀ (s : Shared) (H : Hp) (C : Addr) (cl : List (Str × Addr)) (fp : List Addr), PE (X.blk s H scope (compEnvC scope cl C X.env) fp) elt te) (hs : ∀ x, foldedSetIterable iter X.env x = pure x := by intro _; rfl) :
    PS X (.Assign [.Name y py] (.ListComp elt [⟨tg, iter, ifs, 0⟩] scope pos) spos) (tAsg (tLc wi g tt te (own.map (·.2))) (gName i)) := by
  intro pins s σ H D I h
  rw [exec_Assign_Name_used _ _ _ _ hsw]
  refine wpAny_bind (wpAny_standAt (wpAny_bind ?_))
  show wpAny _ X.A (do let _ ← comprehension (.ListComp elt [⟨tg, iter, ifs, 0⟩] scope pos) scope X.env (firstIterPos [⟨tg, iter, ifs, 0⟩] pos) (newList []) false (eval iter X.env) (some (assign (.Name y py) X.env))) _ _ s
  have h : tLc wi g tt te (own.map (·.2)) σ H (fun x H1 => gName i x σ H1 D.nx) := h
  refine wpAny_bind (thn (lc_core (Qf := fun _ s' => SP X pins D .next s') hc hN I hi ok hg ht he hs h fun L C s' m H' I' q hn f => ?_) fun _ s' hq => wpAny_pure (wpAny_pure hq))
  show wpAny _ _ (assign (.Name y py) X.env (.ref L)) _ _ _
  refine wpAny_assign_Name (store_ok2 (v := V.ref L) I' hN hy (.inl hyl) rfl (fun s2 I2 ⟨a, sb, ha⟩ => ?_) (.inr hyl))
  obtain ⟨f0, f1, f2, f3, f4, f5⟩ := f
  have haC : C ≠ a := by
    rcases ha with z | z
    · rw [z]; exact f1
    · exact fun e => f4 y a z e.symm
  refine ⟨m, hn.sameBut sb haC, fun h3 sb3 => ?_⟩
  exact ⟨_, H', I2.turned (t' := s2.toks) (fun b o hb e => (sb3.2 b hb).trans e) f0 f1 f3 f4 f5, q⟩
theorem sw_true {elt : Expr} {gs : List Comprehension} {scope : Scope} {pos py : Pos} {y : Str} {l : Nat} {env : Env} (hk : env.scope.kind = .function) (hy : env.scope.names.lookup y = some .local) (hl : (py.line == pos.line) = true)
    (ha : (scope.names.any fun (n, k) => n == y && (k == .local || k == .cell)) = false) : swapsWith (.ListComp elt gs scope pos) (some (.Name y py)) l env = pure true := by
  have ky : env.kindOf y = some .local := hy
  have hb : env.blockKind = .function := by unfold Env.blockKind; rw [hk]; rfl
  unfold swapsWith
  simp only [hb, ky, ha, Expr.pos, hl]
  rfl
end

theorem lc_list {K : PySem.W.Frag} {a : Addr} {xs : List V} {g : TG} {tt : TT} {te : TE} {vs : List Nat} {σ : St} {H1 : Hp} {D : Addr} {Qd : Hp → Prop} (Pv : Nat → Hp → Prop) (h0 : Pv 0 (upd H1 D (.lst []))) (hl : ∀ i H, i ≤ xs.length → Pv i H → SqL K H a xs)
    (hs : ∀ i x H, xs[i]? = some x → Pv i H → g x (wipe σ vs) H fun σ2 H2 => wipe σ2 vs = wipe σ vs ∧ tt σ2 H2 fun b H3 =>
      if b = true then te σ2 H3 fun y H4 => ∃ acc, H4 D = some (.lst acc) ∧ acc.length < sizeLine ∧ Pv (i + 1) (upd H4 D (.lst (acc ++ [y]))) else Pv (i + 1) H3) (hd : ∀ H, Pv xs.length H → Qd H) :
    ∃ W : Nat → Nat → Hp → Prop, (∃ m, W 0 m (upd H1 D (.lst []))) ∧ ∀ i m H, W i m H →
      ((Itl K a).stop i H ∧ Qd H) ∨ ((Itl K a).go i H ∧ ∃ Nx : Hp → Prop, (∀ H', Nx H' → ∃ m', m' < m ∧ W (i + 1) m' H') ∧ ∀ x H', (Itl K a).yld i H x H' → g x (wipe σ vs) H' fun σ2 H2 => wipe σ2 vs = wipe σ vs ∧ tt σ2 H2 fun b H3 =>
        if b = true then te σ2 H3 fun y H4 => ∃ acc, H4 D = some (.lst acc) ∧ acc.length < sizeLine ∧ Nx (upd H4 D (.lst (acc ++ [y]))) else Nx H3) := by
  refine ⟨fun i m H => m = xs.length - i ∧ i ≤ xs.length ∧ Pv i H, ⟨xs.length, by simp, Nat.zero_le _, h0⟩, ?_⟩
  rintro i m H ⟨rfl, hi, p⟩
  have q := hl i H hi p
  by_cases hlt : i < xs.length
  · refine .inr ⟨⟨xs, xs[i], q, by simp [hlt]⟩, Pv (i + 1), fun H' p' => ⟨xs.length - (i + 1), by omega, rfl, hlt, p'⟩, fun x H' y => ?_⟩
    obtain ⟨e, y⟩ := y
    subst e
    exact hs i x _ (y xs q) p
  · have e : i = xs.length := by omega
    subst e
    exact .inl ⟨⟨xs, q, Nat.le_refl _⟩, hd H p⟩
def blkC (N : List Str) (sc scope : Scope) (own : List (Str × Nat)) : Bool :=
  (match scope.kind with | .function => true | _ => false) && (scope.names.all fun y => decide (scope.names.lookup y.1 = some y.2)) && (own.all fun p => decide (N[p.2]? = some p.1)) &&
    (scope.names.all fun y => match y.2 with
      | .free => (match sc.names.lookup y.1 with | some .cell => true | some .free => true | _ => false)
      | .local => decide (y.1 ∈ own.map (·.1)) || decide (y.1 ∉ N)
      | .cell => decide (y.1 ∈ own.map (·.1)) || decide (y.1 ∉ N)
      | _ => true)
theorem blkOk_by {N : List Str} {sc scope : Scope} {own : List (Str × Nat)} (h : blkC N sc scope own = true) : BlkOk N sc scope own := by
  unfold blkC at h
  simp only [Bool.and_eq_true, List.all_eq_true, decide_eq_true_eq] at h
  obtain ⟨⟨⟨h1, h2⟩, h3⟩, h4⟩ := h
  refine ⟨?_, h2, h3, fun y hy e => ?_, fun y hy e => ?_⟩
  · split at h1
    · assumption
    · cases h1
  · have q := h4 y hy
    simp only [e] at q
    split at q <;> first | exact .inl (by assumption) | exact .inr (by assumption) | cases q
  · have q := h4 y hy
    rcases e with e | e <;> (simp only [e, Bool.or_eq_true, decide_eq_true_eq] at q; exact q)
end L2

namespace L2
open PySem PySem.Spec PyProof.Rows


section
variable {prog : Program} {w : World} {A : Around} {R : Result → Shared → Prop} {s : Shared} {elt t0 i0 t1 i1 : Expr} {ifs0 ifs1 : List Expr} {scope : Scope} {pos : Pos} {it acc : Value} {env : Env}
end

section
variable {X : Cx}
end
end L2

namespace L2
open PySem PySem.Spec PyProof.Rows

section
variable {κ : Type} [DecidableEq κ]
def valV (kvs : List (κ × V)) (k : κ) : Option V := (kvs.find? fun kv => decide (kv.1 = k)).map (·.2)
def putK (kvs : List (κ × V)) (k : κ) (v : V) : List (κ × V) :=
  if (kvs.any fun kv => decide (kv.1 = k)) = true then kvs.map (fun kv => if kv.1 = k then (kv.1, v) else kv) else kvs ++ [(k, v)]
def dropK (kvs : List (κ × V)) (k : κ) : List (κ × V) := kvs.filter fun kv => decide (kv.1 ≠ k)

theorem valV_pos {p : κ × V} {r : List (κ × V)} {k : κ} (e : p.1 = k) : valV (p :: r) k = some p.2 := by simp [valV, List.find?_cons, e]
theorem valV_neg {p : κ × V} {r : List (κ × V)} {k : κ} (e : ¬ p.1 = k) : valV (p :: r) k = valV r k := by simp [valV, List.find?_cons, e]
theorem valV_any (k : κ) : ∀ kvs : List (κ × V), (kvs.any fun kv => decide (kv.1 = k)) = (valV kvs k).isSome
  | [] => rfl
  | p :: r => by
    rw [List.any_cons]
    by_cases e : p.1 = k
    · simp only [valV_pos e, decide_eq_true e, Bool.true_or, Option.isSome_some]
    · rw [valV_neg e, decide_eq_false e, Bool.false_or]; exact valV_any k r

theorem RelO.isSome_eq {o : Option V} {u : Option Value} (r : RelO o u) : o.isSome = u.isSome := by
  cases o with
  | none => cases u with
    | none => rfl
    | some _ => exact (show False from r).elim
  | some _ => cases u with
    | none => exact (show False from r).elim
    | some _ => rfl
theorem RelO.getD {o : Option V} {u : Option Value} {d : V} {d' : Value} (r : RelO o u) (rd : RelV d d') : RelV (o.getD d) (u.getD d') := by
  cases o with
  | none => cases u with
    | none => exact rd
    | some _ => exact (show False from r).elim
  | some _ => cases u with
    | none => exact (show False from r).elim
    | some _ => exact r

theorem KV.val {kvs : List (κ × V)} {vs : List (κ × Value)} (r : KV kvs vs) (k : κ) : RelO (valV kvs k) (valueAt vs k) := by
  unfold KV at r
  induction r with
  | nil => exact True.intro
  | @cons p q ps qs h t ih =>
    obtain ⟨h1, h2⟩ := h
    by_cases e : p.1 = k
    · have e' : q.1 = k := h1.symm.trans e
      have b : valueAt (q :: qs) k = some q.2 := by simp [valueAt, List.find?_cons, e']
      rw [valV_pos e, b]; exact h2
    · have e' : ¬ q.1 = k := fun z => e (h1.trans z)
      have b : valueAt (q :: qs) k = valueAt qs k := by simp [valueAt, List.find?_cons, e']
      rw [valV_neg e, b]; exact ih
theorem KV.any {kvs : List (κ × V)} {vs : List (κ × Value)} (r : KV kvs vs) (k : κ) : (kvs.any fun kv => decide (kv.1 = k)) = vs.any fun kv => decide (kv.1 = k) := by
  unfold KV at r
  induction r with
  | nil => rfl
  | cons h t ih => rw [List.any_cons, List.any_cons, ih, h.1]
theorem KV.repl {kvs : List (κ × V)} {vs : List (κ × Value)} (r : KV kvs vs) (k : κ) {y : V} {u : Value} (ry : RelV y u) :
    KV (kvs.map fun kv => if kv.1 = k then (kv.1, y) else kv) (vs.map fun kv => if kv.1 = k then (kv.1, u) else kv) := by
  unfold KV at r ⊢
  induction r with
  | nil => exact .nil
  | @cons p q ps qs h t ih =>
    rw [List.map_cons, List.map_cons]
    refine .cons ?_ ih
    obtain ⟨h1, h2⟩ := h
    by_cases e : p.1 = k
    · rw [if_pos e, if_pos (h1.symm.trans e)]; exact ⟨h1, ry⟩
    · rw [if_neg e, if_neg (fun z => e (h1.trans z))]; exact ⟨h1, h2⟩
theorem KV.put {kvs : List (κ × V)} {vs : List (κ × Value)} (r : KV kvs vs) (k : κ) {y : V} {u : Value} (ry : RelV y u) : KV (putK kvs k y) (stored vs k u) := by
  unfold putK stored
  rw [r.any k]
  by_cases e : (vs.any fun kv => decide (kv.1 = k)) = true
  · rw [if_pos e, if_pos e]; exact r.repl k ry
  · rw [if_neg e, if_neg e]; exact Paired.snoc r ⟨rfl, ry⟩
theorem KV.drop {kvs : List (κ × V)} {vs : List (κ × Value)} (r : KV kvs vs) (k : κ) : KV (dropK kvs k) (without vs k) := by
  unfold KV at r ⊢
  unfold dropK without
  induction r with
  | nil => exact .nil
  | @cons p q ps qs h t ih =>
    obtain ⟨h1, h2⟩ := h
    rw [List.filter_cons, List.filter_cons]
    by_cases e : p.1 = k
    · have a : ¬ decide (p.1 ≠ k) = true := by simp [e]
      have b : ¬ decide (q.1 ≠ k) = true := by simp [h1.symm.trans e]
      rw [if_neg a, if_neg b]; exact ih
    · have e' : ¬ q.1 = k := fun z => e (h1.trans z)
      have a : decide (p.1 ≠ k) = true := by simp [e]
      have b : decide (q.1 ≠ k) = true := by simp [e']
      rw [if_pos a, if_pos b]; exact .cons ⟨h1, h2⟩ ih
theorem KV.keys {kvs : List (κ × V)} {vs : List (κ × Value)} (r : KV kvs vs) : kvs.map (·.1) = vs.map (·.1) := by
  unfold KV at r
  induction r with
  | nil => rfl
  | cons h t ih => rw [List.map_cons, List.map_cons, ih, h.1]
theorem KV.length {kvs : List (κ × V)} {vs : List (κ × Value)} (r : KV kvs vs) : kvs.length = vs.length := Paired.length r
end



abbrev KT (H : Hp) : List (List Key × V) → List (List Key × Addr × Value) → Prop := Paired fun p q => p.1 = q.1 ∧ H q.2.1 = some (.tup (p.1.map kV)) ∧ RelV p.2 q.2.2
theorem KT.val {H : Hp} {kvs : List (List Key × V)} {xs : List (List Key × Addr × Value)} (r : KT H kvs xs) (k : List Key) : RelO (valV kvs k) ((atKey xs k).map (·.2)) := by
  induction r with
  | nil => exact True.intro
  | @cons p q ps qs h t ih =>
    obtain ⟨h1, _, h2⟩ := h
    by_cases e : p.1 = k
    · have e' : q.1 = k := h1.symm.trans e
      have b : atKey (q :: qs) k = some q.2 := by simp [atKey, List.find?_cons, e']
      rw [valV_pos e, b]; exact h2
    · have e' : ¬ q.1 = k := fun z => e (h1.trans z)
      have b : atKey (q :: qs) k = atKey qs k := by simp [atKey, List.find?_cons, e']
      rw [valV_neg e, b]; exact ih
theorem KT.repl {H : Hp} {kvs : List (List Key × V)} {xs : List (List Key × Addr × Value)} (r : KT H kvs xs) (k : List Key) {y : V} {u : Value} (ry : RelV y u) :
    KT H (kvs.map fun kv => if kv.1 = k then (kv.1, y) else kv) (xs.map (putAt k u)) := by
  induction r with
  | nil => exact .nil
  | @cons p q ps qs h t ih =>
    rw [List.map_cons, List.map_cons]
    refine .cons ?_ ih
    obtain ⟨h1, h2, h3⟩ := h
    unfold putAt
    by_cases e : p.1 = k
    · rw [if_pos e, if_pos (h1.symm.trans e)]; exact ⟨h1, h2, ry⟩
    · rw [if_neg e, if_neg (fun z => e (h1.trans z))]; exact ⟨h1, h2, h3⟩
theorem KT.put {H : Hp} {kvs : List (List Key × V)} {xs : List (List Key × Addr × Value)} (r : KT H kvs xs) (k : List Key) {b : Addr} {y : V} {u : Value} (hb : H b = some (.tup (k.map kV))) (ry : RelV y u) :
    KT H (putK kvs k y) (storedH xs k b u) := by
  have e : (kvs.any fun kv => decide (kv.1 = k)) = (atKey xs k).isSome := by
    rw [valV_any, (r.val k).isSome_eq, Option.isSome_map]
  unfold putK storedH
  rw [e]
  by_cases q : (atKey xs k).isSome = true
  · rw [if_pos q, if_pos q]; exact r.repl k ry
  · rw [if_neg q, if_neg q]; exact Paired.snoc r ⟨rfl, hb, ry⟩
theorem KT.keeps {H H' : Hp} {kvs : List (List Key × V)} {xs : List (List Key × Addr × Value)} (r : KT H kvs xs) (ht : ∀ b ys, H b = some (.tup ys) → H' b = some (.tup ys)) : KT H' kvs xs :=
  Paired.mapP r fun _ _ z => ⟨z.1, ht _ _ z.2.1, z.2.2⟩

section
variable {P : Program} {w : World} {H : Hp} {h : Heap} {a : Addr}
end

def DGet (H : Hp) (a : Addr) (y : V) (r : Option V) : Prop :=
  (∃ kvs k, Rd H a (.dK kvs) ∧ y = kV k ∧ r = valV kvs k) ∨ ∃ kvs k b, Rd H a (.dT kvs) ∧ y = .ref b ∧ H b = some (.tup (k.map kV)) ∧ r = valV kvs k
def DPut (H : Hp) (a : Addr) (y v : V) (H' : Hp) : Prop :=
  (∃ kvs k, H a = some (.dK kvs) ∧ y = kV k ∧ kvs.length < sizeLine ∧ H' = upd H a (.dK (putK kvs k v))) ∨
  ∃ kvs k b, H a = some (.dT kvs) ∧ y = .ref b ∧ H b = some (.tup (k.map kV)) ∧ kvs.length < sizeLine ∧ H' = upd H a (.dT (putK kvs k v))
theorem DGet.k {H : Hp} {a : Addr} {kvs : List (Key × V)} {k : Key} (e : H a = some (.dK kvs)) : DGet H a (kV k) (valV kvs k) := .inl ⟨kvs, k, .inl e, rfl, rfl⟩
theorem DGet.t {H : Hp} {a b : Addr} {kvs : List (List Key × V)} {k : List Key} (e : H a = some (.dT kvs)) (eb : H b = some (.tup (k.map kV))) : DGet H a (.ref b) (valV kvs k) := .inr ⟨kvs, k, b, .inl e, rfl, eb, rfl⟩
theorem DPut.k {H : Hp} {a : Addr} {kvs : List (Key × V)} {k : Key} {v : V} (e : H a = some (.dK kvs)) (hl : kvs.length < sizeLine) : DPut H a (kV k) v (upd H a (.dK (putK kvs k v))) := .inl ⟨kvs, k, e, rfl, hl, rfl⟩
theorem DPut.t {H : Hp} {a b : Addr} {kvs : List (List Key × V)} {k : List Key} {v : V} (e : H a = some (.dT kvs)) (eb : H b = some (.tup (k.map kV))) (hl : kvs.length < sizeLine) :
    DPut H a (.ref b) v (upd H a (.dT (putK kvs k v))) := .inr ⟨kvs, k, b, e, rfl, eb, hl, rfl⟩


section
variable {X : Cx} {pins : List (Addr × Obj)} {σ : St} {H : Hp} {s : Shared} {a : Addr} {y v : V} {u r : Value} {o : Option V} {A : Around} {E : Value → Shared → Prop}


end

section
variable {X : Cx} {pins : List (Addr × Obj)} {σ : St} {H : Hp} {s : Shared} {a : Addr} {kvs : List (Key × V)} {k : Key} {u : Value} {A : Around} {E : Value → Shared → Prop}
end





section
variable {X : Cx} {o i e value : Expr} {pos pos' tpos : Pos} {td ty tv : TE}
end


section
variable {X : Cx} {pos : Pos}
end






section
variable {X : Cx} {pins : List (Addr × Obj)} {σ : St} {H : Hp} {s : Shared} {a : Addr} {y d : V} {u r : Value} {o : Option V} {A : Around} {E : Value → Shared → Prop}
end

section
variable {X : Cx} {o e f : Expr} {apos cpos : Pos} {td ty tx : TE}
end

section
variable {X : Cx} {pins : List (Addr × Obj)} {σ : St} {H : Hp} {s : Shared} {a : Addr} {kvs : List (Key × V)} {A : Around} {E : Value → Shared → Prop}
end


section
variable {X : Cx} {pins : List (Addr × Obj)} {σ : St} {H : Hp} {s : Shared} {a : Addr} {y : V} {u : Value} {A : Around} {E : Value → Shared → Prop}
end
end L2

namespace L2
open PySem PySem.Spec PyProof.Rows


section
variable {prog : Program} {w : World} {A : Around} {E : Value → Shared → Prop}


end

section
variable {X : Cx}
theorem refs_at : ∀ {ps : List Addr} {us : List Value}, Vals (ps.map V.ref) us → us = ps.map Value.ref
  | [], us, r => by
    rw [List.map_nil] at r
    cases r
    rfl
  | p :: ps, us, r => by
    rw [List.map_cons] at r
    cases r with
    | cons h t =>
      cases h
      rw [List.map_cons, ← refs_at t]
end
end L2

namespace L2
open PySem PySem.Spec PyProof.Rows


section
variable {X : Cx} {pins : List (Addr × Obj)} {σ : St} {H : Hp} {s : Shared} {h' : Heap}
theorem Inv.turnedNew {t' : Nat} {ch : List Addr} {T : Addr} {ob : HO} (I : Inv X pins σ H s) (k : ∀ b o, b ∉ ch → s.heap.get? b = some o → h'.get? b = some o) (hf : ∀ b ∈ ch, FpOk X pins H b) (hT : s.heap.objs.size ≤ T)
    (new : ObjOk X.prog X.w (upd H T ob) h' T ob) : Inv X pins σ (upd H T ob) { s with heap := h', toks := t' } := by
  have hn : H T = none := I.hok.fresh hT
  have nit : ∀ b u, H b = some u → b ∉ ch := fun b u e z => by
    have q := (hf b z).1
    rw [q] at e; cases e
  refine I.step (g' := s.gens) (d' := s.drawn) (ch := ch) (fun b hb => ⟨(hf b hb).2.2.2.1, (hf b hb).2.1, (hf b hb).2.2.2.2.1, (hf b hb).2.2.2.2.2⟩) (fun b o _ _ hc e _ => k b o hc e) (fun b o _ _ hc e _ => ⟨o.slots, k b o hc e⟩)
    (fun b o _ e n => ?_) (fun b o hc e => ⟨o, k b o hc e⟩) (fun b xs e => ?_) (fun b o u e => ?_) (fun b ps e => ⟨#[], ?_⟩) (fun m hm => ?_) (fun b u e => ?_) I.bare
  · rw [upd_ne (Nat.ne_of_lt (Nat.lt_of_lt_of_le (Heap.lt_size e) hT))]; exact n
  · rw [upd_ne (ne_of_none e hn)]; exact e
  · rw [upd_ne (ne_of_none e hn)]; exact e
  · rw [upd_ne (ne_of_none e hn), e]; simp
  · obtain ⟨o, es, ep, ho, r⟩ := hm
    exact ⟨o, es, ep, k _ o (fun z => (hf _ z).2.1 rfl) ho, r⟩
  · by_cases hb : b = T
    · subst hb
      rw [upd_same] at e
      cases e
      exact new
    · rw [upd_ne hb] at e
      refine (I.hok b u e).stay (fun c v hc q => k c v ?_ q) (fun c q => by rw [upd_ne (ne_of_none q hn)]; exact q) fun c xs q => by rw [upd_ne (ne_of_none q hn)]; exact q
      rcases hc with z | z
      · rw [z]; exact nit b u e
      · exact nit c _ z

end
section
variable {X : Cx}

end

def RgC (i j c : Int) (n : Nat) : Prop := c ≠ 0 ∧ c.natAbs < 1073741824 ∧ Builtin.Range.small i j c = true ∧ Builtin.Range.rangeSize i j c = n
theorem RgC.neg {i j : Int} (ha : -(2 ^ 62) ≤ i) (ha' : i < 2 ^ 62) (hb : -(2 ^ 62) ≤ j) (hb' : j < 2 ^ 62) : RgC i j (-1) (i - j).toNat :=
  ⟨by decide, by decide, PySem.W.small_down ha ha' hb hb', PySem.W.rangeSize_downNat i j⟩
section
variable {X : Cx} {tg : Expr}
end

section
variable {X : Cx} {tg : Expr}
end


section
variable {prog : Program} {w : World} {A : Around} {E : Value → Shared → Prop} {s : Shared}
end

section
variable {X : Cx} {pins : List (Addr × Obj)} {σ : St} {H : Hp} {s : Shared} {d : Addr} {o : Obj}
end

section
variable {P : Program} {w : World} {K : PySem.W.Frag} {tg : Expr} {d : Addr} {o : Obj} {es : Array DictEntry} {ep : Nat}
end

section
variable {X : Cx} {tg e : Expr} {td : TE} {apos cpos : Pos}
end

def Ite (K : PySem.W.Frag) (a : Addr) : It :=
  ⟨fun i H => ∃ (xs : List V) (x : V), SqL K H a xs ∧ xs[i]? = some x, fun i H v H' => ∃ T x, v = .ref T ∧ H T = none ∧ H' = upd H T (.tup [.int (i : Nat), x]) ∧ ∀ xs, SqL K H a xs → xs[i]? = some x, fun i H => ∃ xs : List V, SqL K H a xs ∧ xs.length ≤ i⟩
theorem turn_enum {P : Program} {w : World} {K : PySem.W.Frag} {elts : List Expr} {kk : Nat} {tpos : Pos} (a e it : Addr) :
    Turn P w K (.Tuple elts kk tpos) (Ite K a) [e, it] e (fun i h => (∃ old, IsEnum h e it ((i : Nat) : Int) old) ∧ h.IsListIter it a i ∧ e ≠ it) where
  mem := by simp
  obj := fun i h st b hb => by
    obtain ⟨⟨old, he⟩, ⟨o, ho, hc, hd⟩, _⟩ := st
    have e' : b = e ∨ b = it := by simpa using hb
    rcases e' with z | z
    · rw [z]; exact ⟨_, he, fun v q => nomatch q⟩
    · rw [z]; exact ⟨o, ho, fun v q => by rw [hd] at q; cases q⟩
  keep := fun i h h' st k => let ⟨⟨old, he⟩, hi, hne⟩ := st; ⟨⟨old, k e (by simp) _ he⟩, hi.at fun o q => k it (by simp) o q, hne⟩
  item := by
    intro X hP hw hK hc i pins s σ H E I hf st hg
    subst hP hw hK
    obtain ⟨⟨old, he⟩, hit, hne⟩ := st
    obtain ⟨xs, x, hq, hx⟩ := hg
    obtain ⟨its, rv, p, hz⟩ := I.list hq
    obtain ⟨u, hu, ru⟩ := rv.get hx
    have hel : e < s.heap.objs.size := Heap.lt_size he
    have hil : it < s.heap.objs.size := by obtain ⟨_, q, _⟩ := hit; exact Heap.lt_size q
    refine wpAny_pyNext_enum_item he hit p.isList (x := u) (by simpa using hu) hne fun h' ho hit' hT hsz hk => ?_
    refine ⟨_, rfl, wpAny_letOwnedTupleGo_enum (s := { s with heap := h', toks := s.toks + 1 }) ho fun h'' he' sb => ?_⟩
    have hT2 : h''.get? s.heap.objs.size = some { cls := .type "tuple", data := .seq #[.int i s.toks, u] } := (sb.2 _ (Nat.ne_of_gt hel)).trans hT
    have new : ObjOk X.prog X.w (upd H s.heap.objs.size (.tup [.int (i : Nat), x])) h'' s.heap.objs.size (.tup [.int (i : Nat), x]) :=
      ⟨by show 2 ≤ sizeLine; decide, [.int i s.toks, u], .cons ⟨_, rfl⟩ (.cons ru .nil), ⟨_, hT2, rfl, _, rfl⟩⟩
    have I1 : Inv X pins σ (upd H s.heap.objs.size (.tup [.int (i : Nat), x])) { s with heap := h'', toks := s.toks + 1 } :=
      I.turnedNew (ch := [e, it]) (fun b ob hb q => (sb.2 b (fun z => hb (by simp [z]))).trans (hk b ob (fun z => hb (by simp [z])) (fun z => hb (by simp [z])) q)) hf (Nat.le_refl _) new
    refine ⟨.ref s.heap.objs.size, _, I1, rfl, ⟨_, x, rfl, I.hok.fresh (Nat.le_refl _), rfl, fun ys hy => by rw [I.list_inj hy hq]; exact hx⟩, ⟨⟨u, ?_⟩, hit'.at fun o q => (sb.2 it (Ne.symm hne)).trans q, hne⟩, fun b hb => ?_⟩
    · have e1 : ((i + 1 : Nat) : Int) = (i : Int) + 1 := by omega
      rw [e1]; exact he'
    · have hb' : b < s.heap.objs.size := by
        have e' : b = e ∨ b = it := by simpa using hb
        rcases e' with z | z
        · rw [z]; exact hel
        · rw [z]; exact hil
      rw [upd_ne (Nat.ne_of_lt hb')]
      exact (hf b hb).1
  done := by
    intro X hP hw hK hc i pins s σ H E I hf st hg
    subst hP hw hK
    obtain ⟨⟨old, he⟩, hit, hne⟩ := st
    obtain ⟨xs, hq, hx⟩ := hg
    obtain ⟨its, rv, p, hz⟩ := I.list hq
    obtain ⟨f0, f1, f2, f3, f4, f5⟩ := hf it (by simp)
    have hl := rv.length
    exact wpAny_pyNext_enum_end (I.ok.hd hc) he hit p.isList (by simp; omega) fun h' eb => ⟨rfl, I.turned (t' := s.toks) (fun b o hb q => eb b o hb q) f0 f1 f3 f4 f5⟩
  self := fun A i s Q E st h => let ⟨⟨_, he⟩, _⟩ := st; wpAny_pyIter_enum he h
def iEnum (K : PySem.W.Frag) (ta : TA) : TI := fun σ H R => ta σ H fun vs H1 => ∃ a xs, vs = [.ref a] ∧ SqL K H1 a xs ∧ R (Ite K a) H1
theorem pi_enum {X : Cx} {e : Expr} {ta : TA} {p pos tpos : Pos} {elts : List Expr} {kk : Nat} (hg : Gl X "enumerate") (hm : X.mg "enumerate" = none) (ha : PA X [e] ta) (hs : starEach [e] X.env = [(false, eval e X.env)] := by rfl) :
    PI X (.Tuple elts kk tpos) (.Call (.Name "enumerate" p) [e] [] pos) (iEnum X.K ta) := by
  intro pins s σ H R I h
  refine Call_ (ld_blt I hg hm boot_enumerate (PyProof.Rows.callWith_type1 (thn (ha pos pins s σ H _ I h) fun us s1 ⟨vs, H1, I1, r1, q1⟩ => ?_) hs rfl))
  obtain ⟨a, xs, ex, hq, q⟩ := q1
  subst ex
  cases r1 with
  | cons r rr =>
    cases rr
    cases r
    obtain ⟨its, rv, p', hz⟩ := I1.list hq
    refine call_enumerate_list p'.isList fun h' he hit hsz hk => wpAny_pyIter_enum he ?_
    have I2 : Inv X pins σ H1 { s1 with heap := h' } := I1.kept (t' := s1.toks) hk
    refine ⟨s1.heap.objs.size + 1, [s1.heap.objs.size + 1, s1.heap.objs.size], _, _, H1, rfl, I2, turn_enum a (s1.heap.objs.size + 1) s1.heap.objs.size, ⟨⟨.none, he⟩, hit, Nat.succ_ne_self _⟩, fun b hb => ?_, q⟩
    have e' : b = s1.heap.objs.size + 1 ∨ b = s1.heap.objs.size := by simpa using hb
    have hle : s1.heap.objs.size ≤ b := by
      rcases e' with z | z
      · rw [z]; exact Nat.le_add_right _ _
      · rw [z]; exact Nat.le_refl _
    exact I1.fpOk hle (I1.hok.fresh hle)
end L2

section 
namespace Bits
open PySem PyProof.Rows








end Bits
end 

section 
namespace TL
open PySem PySem.Builtin PySem.Builtin.Str PySem.StrLaws

abbrev tl (x : Str) : List Nat := x.cps.toList

def pre (S l : List Nat) : Bool := l.take S.length == S
def par (S : List Nat) : List Nat → List Nat → Option (List Nat × List Nat)
  | _, [] => none
  | acc, c :: r => if pre S (c :: r) = true then some (acc, (c :: r).drop S.length) else par S (acc ++ [c]) r











end TL
end 

namespace L2
open PySem PySem.Spec PyProof.Rows




section
variable {X : Cx} {pins : List (Addr × Obj)} {σ : St} {H : Hp} {s : Shared} {Q : VK}
end

section
variable {X : Cx}







end

section
variable {X : Cx} {o e : Expr} {to te : TE}

end
end L2

namespace L2
open PySem PySem.Spec PyProof.Rows

section
variable {X : Cx}
end

theorem IsPart.raw {v : Value} {o : Option Int} (p : IsPart v o) : ∃ l : Option (Int × Tok), v = partValue l ∧ l.map (·.1) = o := by
  cases p with
  | none => exact ⟨none, rfl, rfl⟩
  | int i t => exact ⟨some (i, t), rfl, rfl⟩


end L2

namespace Att
open PySem PySem.W PySem.Calls PyProof.Rows







section
variable {prog : Program} {w : World} {A : Around} {E : Value → Shared → Prop} {s : Shared} {K : Frag}






end
end Att

namespace L2
open PySem PySem.Spec PyProof.Rows



end L2

namespace L2
open PySem PySem.Spec PyProof.Rows


end L2


namespace L2
open PySem PySem.Spec PyProof.Rows

def inClass (s : Stmt) (j : Nat) : Stmt := match s with
  | .ClassDef _ _ _ body _ _ _ _ _ _ _ => body.getD j (.Pass ⟨0, 0, 0, 0⟩)
  | _ => .Pass ⟨0, 0, 0, 0⟩
def defArgs (s : Stmt) : Arguments := match s with
  | .FunctionDef _ a _ _ _ _ _ _ _ _ => a
  | _ => { posonlyargs := [], args := [], vararg := none, kwonlyargs := [], kw_defaults := [], kwarg := none, defaults := [] }
def defBody (s : Stmt) : List Stmt := match s with
  | .FunctionDef _ _ b _ _ _ _ _ _ _ => b
  | _ => []
def defScope (s : Stmt) : Scope := match s with
  | .FunctionDef _ _ _ _ _ _ sc _ _ _ => sc
  | _ => { kind := .function, names := [], isGenerator := false, isCoroutine := false }

abbrev CX0 : CXT := fun _ _ _ _ _ _ => False
abbrev E0 : XK := fun _ _ _ => False
theorem pass0 {X : Cx} : Passes CX0 X E0 := fun _ _ _ _ _ _ _ h => h.elim

structure Fun (K : PySem.W.Frag) (x qual : Str) (st : Stmt) (f : Addr) (fd : FuncData) : Prop where
  ex : ∃ (oc : Value) (od : Option Addr) (kV doc pm : Value) (an : Option Addr) (cdv ct : Value) (osl : Array (Option Value)),
    fd = PySem.W.fnOf x qual (defArgs st) (defBody st) (defScope st) .none kV doc pm an cdv ct ∧ K.lookup f = some ⟨oc, od, .func fd, osl⟩ ∧ PySem.W.codeIn K cdv qual = true
  kp : PySem.W.keepIn K (.ref f) = true
section
variable {P : Program} {w : World} {K : PySem.W.Frag} {mg : Str → Option Value} {base : Heap}
theorem Fun.ok {x qual : Str} {st : Stmt} {f : Addr} {fd : FuncData} {N ps : List Str} {k : Nat} {sp : Sp} (F : Fun K x qual st f fd) (S : FnScope N ps (defScope st)) (len : ∀ vs H Q E, sp vs H Q E → vs.length = ps.length)
    (hbody : ∀ (cdv : Value) (A : Around) (outer : List Env) (s : Shared) (H : Hp) (vs : List V) (Q : VK) (E : XK), Room k (A.deeper (envOfC qual (defScope st) s.heap.objs.size f cdv)) → sp vs H Q E →
      ∃ t, PSs (cxOf CX0 P w K mg base N qual (defScope st) f cdv A outer s H E).nox (defBody st) t ∧ t { nx := fun _ H' => Q .non H', rt := Q } (start N vs) H) : FnOk P w K mg base CX0 (k + 1) f fd ps sp := by
  obtain ⟨oc, od, kV, doc, pm, an, cdv, ct, osl, rfl, lk, hcd⟩ := F.ex
  refine fn_of lk hcd S len fun A outer s H vs Q E hr hsp => ?_
  obtain ⟨t, h, q⟩ := hbody cdv A outer s H vs Q E hr hsp
  exact ⟨t, h.nox, q⟩
theorem Fun.binds {x qual : Str} {st : Stmt} {f : Addr} {fd : FuncData} {ps : List Str} (F : Fun K x qual st f fd)
    (h : ∀ (kV doc pm : Value) (an : Option Addr) (cdv ct : Value) (us : List Value), us.length = ps.length → bindArgs (PySem.W.fnOf x qual (defArgs st) (defBody st) (defScope st) .none kV doc pm an cdv ct) ⟨us, []⟩ = pure (ps.zip us)) : Binds K fd ps [] := by
  obtain ⟨oc, od, kV, doc, pm, an, cdv, ct, osl, rfl, lk, hcd⟩ := F.ex
  exact .all (h kV doc pm an cdv ct)
theorem fun_mk {x qual : Str} {st : Stmt} {f : Addr} {oc : Value} {od an : Option Addr} {osl : Array (Option Value)} {kV doc pm cdv ct : Value} (l : K.lookup f = some ⟨oc, od, .func (PySem.W.fnOf x qual (defArgs st) (defBody st) (defScope st) .none kV doc pm an cdv ct), osl⟩)
    (c : PySem.W.codeIn K cdv qual = true) (k : PySem.W.keepIn K (.ref f) = true) : Fun K x qual st f (PySem.W.fnOf x qual (defArgs st) (defBody st) (defScope st) .none kV doc pm an cdv ct) := ⟨⟨oc, od, kV, doc, pm, an, cdv, ct, osl, rfl, l, c⟩, k⟩
end

section
variable {X : Cx}
theorem pv (i : Nat) {x : Str} {pos : Pos} (hN : X.N[i]? = some x := by rfl) (hv : Vis X.env.scope x := by first | exact Or.inl rfl | exact Or.inr (Or.inl rfl) | exact Or.inr (Or.inr rfl)) (hd : (x == ("__debug__" : Str)) = false := by decide)
    (hcd : (x == ("__classdict__" : Str)) = false := by decide) : PE X (.Name x pos) (tVar i) := pe_var hN hv hd hcd
end

theorem iteF {A B : Prop} (h : B) : if false = true then A else B := by
  rw [if_neg Bool.false_ne_true]
  exact h
theorem iteT {A B : Prop} (h : A) : if true = true then A else B := by
  rw [if_pos rfl]
  exact h
theorem ite2 {c A B : Prop} [Decidable c] (h1 : c → A) (h2 : ¬ c → B) : if c then A else B := by
  by_cases h : c
  · rw [if_pos h]
    exact h1 h
  · rw [if_neg h]
    exact h2 h

def Same (H H' : Hp) : Prop := ∀ b o, H b = some o → H' b = some o
theorem Same.refl (H : Hp) : Same H H := fun _ _ h => h
theorem Same.trans {H H1 H2 : Hp} (a : Same H H1) (b : Same H1 H2) : Same H H2 := fun c o h => b c o (a c o h)
theorem Same.free {H H' : Hp} (e : Same H H') {l : Addr} (h : H' l = Option.none) : H l = Option.none := by
  cases q : H l with
  | none => rfl
  | some o =>
    rw [e l o q] at h
    cases h
theorem Same.seq {K : PySem.W.Frag} {H H' : Hp} {a : Addr} {xs : List V} (e : Same H H') (h : SqL K H a xs) : SqL K H' a xs := by
  rcases h with (h | ⟨o, h⟩) | h
  · exact .inl (.inl (e _ _ h))
  · exact .inl (.inr ⟨o, e _ _ h⟩)
  · exact .inr h

section
variable {κ : Type} [DecidableEq κ]
end
theorem Same.made {H H1 : Hp} {x dx C : Addr} (nx : H x = Option.none) (nd : H dx = Option.none) (k : ∀ b o, (upd (upd H dx (.own x)) x (.ins C dx [])) b = some o → b ≠ x → H1 b = some o) : Same H H1 := fun b o e =>
  k b o (by rw [upd_ne (ne_of_none e nx), upd_ne (ne_of_none e nd)]; exact e) (ne_of_none e nx)
end L2

section
set_option Elab.async false
set_option linter.all false
set_option maxRecDepth 100000
set_option maxHeartbeats 2000000
namespace L2
open PySem PySem.Spec PyProof.Rows
open PySem.W (WData Codec OpenSpec Well WellAll ReadsW ReadsAllW)
mutual
inductive Dw (K : PySem.W.Frag) (H : Hp) : V → WData → Prop
  | non : Dw K H .non .none
  | bl (b : Bool) : Dw K H (.bl b) (.bool b)
  | int (i : Int) : Dw K H (.int i) (.int i)
  | str (x : Str) : Dw K H (.str x) (.str x)
  | byt (b : Array UInt8) : Dw K H (.byt b) (.bytes b.toList)
  | lst {a : Addr} {xs : List V} {ds : List WData} : SqL K H a xs → DwAll K H xs ds → Dw K H (.ref a) (.list ds)
  | tup {a : Addr} {xs : List V} {ds : List WData} : SqT K H a xs → DwAll K H xs ds → Dw K H (.ref a) (.tuple ds)
inductive DwAll (K : PySem.W.Frag) (H : Hp) : List V → List WData → Prop
  | nil : DwAll K H [] []
  | cons {v : V} {vs : List V} {d : WData} {ds : List WData} : Dw K H v d → DwAll K H vs ds → DwAll K H (v :: vs) (d :: ds)
end
theorem dw_ints {K : PySem.W.Frag} {H : Hp} : ∀ ns : List Int, DwAll K H (ns.map V.int) (ns.map WData.int)
  | [] => .nil
  | n :: r => .cons (.int n) (dw_ints r)
theorem ints_dw {K : PySem.W.Frag} {H : Hp} : ∀ (ns : List Int) (xs : List V), DwAll K H xs (ns.map WData.int) → xs = ns.map V.int
  | [], xs, h => by
    cases h
    rfl
  | n :: r, xs, h => by
    cases h with
    | cons h1 h2 =>
      cases h1
      rw [ints_dw r _ h2] <;> rfl
section
variable {P : Program} {w : World} {K : PySem.W.Frag} {H : Hp} {h : Heap} {R : PySem.W.WRecords} {cl : Str → Option Addr}
theorem sqL_at {a : Addr} {xs : List V} (hok : HOk P w H h) (KX : K.In h) (q : SqL K H a xs) : ∃ (its : List Value) (o : Obj) (n : Nat), Vals xs its ∧ h.get? a = some o ∧ o.cls = .type "list" ∧ o.data = .seq its.toArray n := by
  rcases q with q | ⟨o, its, n, e, hc, _, hd, _, hv⟩
  · obtain ⟨_, its, n, hv, e⟩ := (show ObjOk P w H h a (.lst xs) from q.ok hok)
    exact ⟨its, _, n, hv, e, rfl, rfl⟩
  · exact ⟨its.toList, o, n, hv, KX _ _ e, hc, by simp [hd]⟩
theorem sqT_at {a : Addr} {xs : List V} (hok : HOk P w H h) (KX : K.In h) (q : SqT K H a xs) : ∃ (its : List Value) (o : Obj) (n : Nat), Vals xs its ∧ h.get? a = some o ∧ o.cls = .type "tuple" ∧ o.data = .seq its.toArray n := by
  rcases q with q | ⟨o, its, n, e, hc, hd, _, hv⟩
  · obtain ⟨_, its, hv, o, e, hc, n, hd⟩ := (show ObjOk P w H h a (.tup xs) from q.ok hok)
    exact ⟨its, o, n, hv, e, hc, hd⟩
  · exact ⟨its.toList, o, n, hv, KX _ _ e, hc, by simp [hd]⟩
mutual
theorem Dw.reads (hok : HOk P w H h) (KX : K.In h) : ∀ (d : WData) (v : V) (u : Value), Dw K H v d → RelV v u → ∃ as, ReadsW R cl h u d as
  | .none, _, _, x, r => by
    cases x
    cases r
    exact ⟨_, ReadsW.none⟩
  | .bool b, _, _, x, r => by
    cases x
    cases r
    exact ⟨_, ReadsW.bool b⟩
  | .int i, _, _, x, r => by
    cases x
    obtain ⟨t, rfl⟩ := r
    exact ⟨_, ReadsW.int i t⟩
  | .str s, _, _, x, r => by
    cases x
    obtain ⟨t, rfl⟩ := r
    exact ⟨_, ReadsW.str s t⟩
  | .bytes b, _, _, x, r => by
    cases x
    obtain ⟨t, rfl⟩ := r
    exact ⟨_, ReadsW.bytes _ t⟩
  | .list ds, _, _, x, r => by
    cases x with
    | lst hs ha =>
      cases r
      obtain ⟨its, o, n, rv, ho, hc, hd⟩ := sqL_at hok KX hs
      obtain ⟨as, hr⟩ := Dw.readsAll hok KX ds _ its ha rv
      exact ⟨_, ReadsW.list ho hc hd hr⟩
  | .tuple ds, _, _, x, r => by
    cases x with
    | tup hs ha =>
      cases r
      obtain ⟨its, o, n, rv, ho, hc, hd⟩ := sqT_at hok KX hs
      obtain ⟨as, hr⟩ := Dw.readsAll hok KX ds _ its ha rv
      exact ⟨_, ReadsW.tuple ho hc hd hr⟩
  | .float _, _, _, x, _ => by cases x
  | .dict _, _, _, x, _ => by cases x
  | .bytearray _, _, _, x, _ => by cases x
  | .set _, _, _, x, _ => by cases x
  | .frozenset _, _, _, x, _ => by cases x
  | .obj _ _, _, _, x, _ => by cases x
theorem Dw.readsAll (hok : HOk P w H h) (KX : K.In h) : ∀ (ds : List WData) (vs : List V) (us : List Value), DwAll K H vs ds → Vals vs us → ∃ as, ReadsAllW R cl h us ds as
  | [], _, _, x, r => by
    cases x
    cases r
    exact ⟨_, ReadsAllW.nil⟩
  | d :: ds, _, _, x, r => by
    cases x with
    | cons h1 h2 =>
      cases r with
      | cons r1 r2 =>
        obtain ⟨as, q1⟩ := Dw.reads hok KX d _ _ h1 r1
        obtain ⟨bs, q2⟩ := Dw.readsAll hok KX ds _ _ h2 r2
        exact ⟨_, ReadsAllW.cons q1 q2⟩
end
end
mutual
def plW : WData → Bool
  | .none => true
  | .bool _ => true
  | .int _ => true
  | .str _ => true
  | .bytes _ => true
  | .list xs => plWs xs
  | .tuple xs => plWs xs
  | _ => false
def plWs : List WData → Bool
  | [] => true
  | x :: r => plW x && plWs r
end
theorem plWs_map {α : Type} {f : α → WData} (h : ∀ a, plW (f a) = true) : ∀ l : List α, plWs (l.map f) = true
  | [] => rfl
  | x :: r => by
    show (plW (f x) && plWs (r.map f)) = true
    rw [h x, plWs_map h r] <;> rfl
theorem pl_enc : ∀ (c : Codec) (a : c.denote), plW (c.enc a) = true
  | .unit, _ => rfl
  | .bool, _ => rfl
  | .int _ _, _ => rfl
  | .nat _ _, _ => rfl
  | .u8, _ => rfl
  | .bytes _ _, _ => rfl
  | .text _ _ _ _, _ => rfl
  | .list _ _ c, a => plWs_map (fun x => pl_enc c x) a
  | .pair c d, a => by
    show (plW (c.enc a.1) && (plW (d.enc a.2) && true)) = true
    rw [pl_enc c a.1, pl_enc d a.2] <;> rfl
  | .triple c d e, a => by
    show (plW (c.enc a.1) && (plW (d.enc a.2.1) && (plW (e.enc a.2.2) && true))) = true
    rw [pl_enc c a.1, pl_enc d a.2.1, pl_enc e a.2.2] <;> rfl
  | .option c, none => rfl
  | .option c, some x => pl_enc c x
theorem pl_encAll : ∀ (cs : List Codec) (a : Codec.denoteAll cs), plWs (Codec.encAll cs a) = true
  | [], _ => rfl
  | c :: cs, a => by
    show (plW (c.enc a.1) && plWs (Codec.encAll cs a.2)) = true
    rw [pl_enc c a.1, pl_encAll cs a.2] <;> rfl
theorem weight_mem : ∀ {xs : List WData} {d : WData}, d ∈ xs → d.weight ≤ WData.weightAll xs
  | [], d, h => absurd h (by simp)
  | x :: r, d, h => by
    show d.weight ≤ x.weight + 1 + WData.weightAll r
    rcases List.mem_cons.mp h with e | m
    · rw [e]
      omega
    · have z := weight_mem m
      omega
def toV : Value → V
  | .none => .non
  | .bool b => .bl b
  | .int i _ => .int i
  | .str x _ => .str x
  | .bytes b _ => .byt b
  | .ref a => .ref a
  | _ => .non
def OkU (A : List Addr) : Value → Prop
  | .none => True
  | .bool _ => True
  | .int _ _ => True
  | .str _ _ => True
  | .bytes _ _ => True
  | .ref a => a ∈ A
  | _ => False
theorem OkU.mono {A B : List Addr} (h : ∀ a ∈ A, a ∈ B) : ∀ {u : Value}, OkU A u → OkU B u := fun {u} x => by
  cases u with
  | ref a => exact h a x
  | none => trivial
  | bool b => trivial
  | int i t => trivial
  | str s t => trivial
  | bytes b t => trivial
  | _ => exact False.elim x
theorem relV_toV {A : List Addr} {u : Value} (x : OkU A u) : RelV (toV u) u := by
  cases u with
  | ref a => rfl
  | none => rfl
  | bool b => rfl
  | int i t => exact ⟨t, rfl⟩
  | str s t => exact ⟨t, rfl⟩
  | bytes b t => exact ⟨t, rfl⟩
  | _ => exact False.elim x
theorem vals_toV {A : List Addr} : ∀ {vs : List Value}, (∀ u ∈ vs, OkU A u) → Vals (vs.map toV) vs
  | [], _ => .nil
  | u :: r, h => .cons (relV_toV (h u (List.mem_cons_self ..))) (vals_toV fun x hx => h x (List.mem_cons_of_mem _ hx))
def ArgOb (h : Heap) (A : List Addr) (a : Addr) : Prop := ∃ vs : List Value, vs.length ≤ sizeLine ∧ (∀ u ∈ vs, OkU A u) ∧
  (h.get? a = some { cls := .type "list", data := .seq vs.toArray } ∨ h.get? a = some { cls := .type "tuple", data := .seq vs.toArray })
theorem ArgOb.mono {h : Heap} {A B : List Addr} {a : Addr} (k : ∀ a ∈ A, a ∈ B) (x : ArgOb h A a) : ArgOb h B a := by
  obtain ⟨vs, h1, h2, h3⟩ := x
  exact ⟨vs, h1, fun u hu => (h2 u hu).mono k, h3⟩
theorem wellAll_len {P : Params} {h : Heap} : ∀ {vs : List Value} {ds : List WData}, WellAll P h vs ds → vs.length = ds.length
  | _, _, .nil => rfl
  | _, _, .cons _ b => by
    show _ + 1 = _ + 1
    rw [wellAll_len b]
theorem well_list {P : Params} {h : Heap} {v : Value} {ds : List WData} (x : Well P h v (.list ds)) : ∃ (a : Addr) (vs : List Value), v = .ref a ∧ h.get? a = some { cls := .type "list", data := .seq vs.toArray } ∧ WellAll P h vs ds := by
  cases x with
  | list ho hall => exact ⟨_, _, rfl, ho, hall⟩
theorem well_tuple {P : Params} {h : Heap} {v : Value} {ds : List WData} (x : Well P h v (.tuple ds)) : ∃ (a : Addr) (vs : List Value), v = .ref a ∧ h.get? a = some { cls := .type "tuple", data := .seq vs.toArray } ∧ WellAll P h vs ds := by
  cases x with
  | tuple ho hall => exact ⟨_, _, rfl, ho, hall⟩
theorem well_cons {P : Params} {h : Heap} {us : List Value} {d : WData} {ds : List WData} (x : WellAll P h us (d :: ds)) : ∃ (v : Value) (vs : List Value), us = v :: vs ∧ Well P h v d ∧ WellAll P h vs ds := by
  cases x with
  | cons a b => exact ⟨_, _, rfl, a, b⟩
theorem line_of {n : Nat} (h : n ≤ 1048576) : n ≤ sizeLine := Nat.le_trans h (by decide)
section
variable {P : Params} {h : Heap}
mutual
theorem area_one : ∀ (d : WData) (v : Value), Well P h v d → plW d = true → d.weight ≤ 1048576 → ∃ A : List Addr, OkU A v ∧ ∀ a ∈ A, ArgOb h A a
  | .none, _, x, _, _ => by
    cases x
    exact ⟨[], trivial, fun a m => absurd m (by simp)⟩
  | .bool b, _, x, _, _ => by
    cases x
    exact ⟨[], trivial, fun a m => absurd m (by simp)⟩
  | .int i, _, x, _, _ => by
    cases x
    exact ⟨[], trivial, fun a m => absurd m (by simp)⟩
  | .str s, _, x, _, _ => by
    cases x
    exact ⟨[], trivial, fun a m => absurd m (by simp)⟩
  | .bytes b, _, x, _, _ => by
    cases x
    exact ⟨[], trivial, fun a m => absurd m (by simp)⟩
  | .list ds, _, x, p, z => by
    obtain ⟨a, vs, rfl, ho, hall⟩ := well_list x
    have z2 : WData.weightAll ds ≤ 1048576 := z
    obtain ⟨A, h1, h2⟩ := area_all ds _ hall p fun d hd => Nat.le_trans (weight_mem hd) z2
    have k : ∀ b ∈ A, b ∈ a :: A := fun b hb => List.mem_cons_of_mem _ hb
    refine ⟨a :: A, List.mem_cons_self .., fun b hb => ?_⟩
    rcases List.mem_cons.mp hb with e | m
    · rw [e]
      exact ⟨vs, line_of (by rw [wellAll_len hall]; exact Nat.le_trans (PySem.W.length_le_weightAllW ds) z2), fun u hu => (h1 u hu).mono k, .inl ho⟩
    · exact (h2 b m).mono k
  | .tuple ds, _, x, p, z => by
    obtain ⟨a, vs, rfl, ho, hall⟩ := well_tuple x
    have z2 : WData.weightAll ds ≤ 1048576 := z
    obtain ⟨A, h1, h2⟩ := area_all ds _ hall p fun d hd => Nat.le_trans (weight_mem hd) z2
    have k : ∀ b ∈ A, b ∈ a :: A := fun b hb => List.mem_cons_of_mem _ hb
    refine ⟨a :: A, List.mem_cons_self .., fun b hb => ?_⟩
    rcases List.mem_cons.mp hb with e | m
    · rw [e]
      exact ⟨vs, line_of (by rw [wellAll_len hall]; exact Nat.le_trans (PySem.W.length_le_weightAllW ds) z2), fun u hu => (h1 u hu).mono k, .inr ho⟩
    · exact (h2 b m).mono k
  | .float _, _, _, p, _ => Bool.noConfusion (show false = true from p)
  | .dict _, _, _, p, _ => Bool.noConfusion (show false = true from p)
  | .bytearray _, _, _, p, _ => Bool.noConfusion (show false = true from p)
  | .set _, _, _, p, _ => Bool.noConfusion (show false = true from p)
  | .frozenset _, _, _, p, _ => Bool.noConfusion (show false = true from p)
  | .obj _ _, _, _, p, _ => Bool.noConfusion (show false = true from p)
theorem area_all : ∀ (ds : List WData) (vs : List Value), WellAll P h vs ds → plWs ds = true → (∀ d ∈ ds, d.weight ≤ 1048576) → ∃ A : List Addr, (∀ u ∈ vs, OkU A u) ∧ ∀ a ∈ A, ArgOb h A a
  | [], _, x, _, _ => by
    cases x
    exact ⟨[], fun u m => absurd m (by simp), fun a m => absurd m (by simp)⟩
  | d :: ds, _, x, p, z => by
    obtain ⟨v, vs, rfl, x1, x2⟩ := well_cons x
    have q : plW d = true ∧ plWs ds = true := Bool.and_eq_true_iff.mp p
    obtain ⟨A, a1, a2⟩ := area_one d v x1 q.1 (z d (List.mem_cons_self ..))
    obtain ⟨B, b1, b2⟩ := area_all ds vs x2 q.2 fun e he => z e (List.mem_cons_of_mem _ he)
    have kA : ∀ b ∈ A, b ∈ A ++ B := fun b hb => List.mem_append.mpr (.inl hb)
    have kB : ∀ b ∈ B, b ∈ A ++ B := fun b hb => List.mem_append.mpr (.inr hb)
    refine ⟨A ++ B, fun u hu => ?_, fun b hb => ?_⟩
    · rcases List.mem_cons.mp hu with e | m
      · rw [e]
        exact a1.mono kA
      · exact (b1 u m).mono kB
    · rcases List.mem_append.mp hb with m | m
      · exact (a2 b m).mono kA
      · exact (b2 b m).mono kB
end
end
def hoOf (o : Obj) : Option HO := match o.data with
  | .seq vs _ => if (o.cls == Value.type "list") = true then some (.frz o (.lst (vs.toList.map toV))) else some (.frz o (.tup (vs.toList.map toV)))
  | _ => none
def argH (K : PySem.W.Frag) (h : Heap) (A : List Addr) : Hp := fun b => if b ∈ A then (if (K.lookup b).isNone = true then (h.get? b).bind hoOf else none) else none
def OnlyF (H : Hp) : Prop := ∀ b, H b = none ∨ ∃ o u, H b = some (.frz o u)
theorem hoOf_lst (vs : List Value) : hoOf { cls := .type "list", data := .seq vs.toArray } = some (.frz { cls := .type "list", data := .seq vs.toArray } (.lst (vs.map toV))) := by
  show (if (Value.type "list" == Value.type "list") = true then some (HO.frz { cls := .type "list", data := .seq vs.toArray } (.lst (vs.toArray.toList.map toV))) else some (HO.frz { cls := .type "list", data := .seq vs.toArray } (.tup (vs.toArray.toList.map toV)))) = _
  rw [if_pos (beq_self_eq_true _)]
theorem hoOf_tup (vs : List Value) : hoOf { cls := .type "tuple", data := .seq vs.toArray } = some (.frz { cls := .type "tuple", data := .seq vs.toArray } (.tup (vs.map toV))) := by
  show (if (Value.type "tuple" == Value.type "list") = true then some (HO.frz { cls := .type "tuple", data := .seq vs.toArray } (.lst (vs.toArray.toList.map toV))) else some (HO.frz { cls := .type "tuple", data := .seq vs.toArray } (.tup (vs.toArray.toList.map toV)))) = _
  rw [if_neg (by decide)]
section
variable {P : Program} {w : World} {K : PySem.W.Frag} {h : Heap} {A : List Addr}
theorem argH_at {b : Addr} {o : Obj} (hb : b ∈ A) (hk : K.lookup b = none) (e : h.get? b = some o) : argH K h A b = hoOf o := by
  unfold argH
  rw [if_pos hb, hk, if_pos (show (none : Option Obj).isNone = true from rfl), e] <;> rfl
theorem of_argH {b : Addr} {u : HO} (q : argH K h A b = some u) : b ∈ A ∧ K.lookup b = none := by
  unfold argH at q
  by_cases hb : b ∈ A
  · rw [if_pos hb] at q
    cases hk : K.lookup b with
    | none => exact ⟨hb, rfl⟩
    | some o =>
      rw [hk, if_neg (by simp)] at q
      cases q
  · rw [if_neg hb] at q
    cases q
theorem argH_is (ar : ∀ a ∈ A, ArgOb h A a) {b : Addr} {u : HO} (q : argH K h A b = some u) : K.lookup b = none ∧ ∃ vs : List Value, vs.length ≤ sizeLine ∧ (∀ u ∈ vs, OkU A u) ∧
    ((h.get? b = some { cls := .type "list", data := .seq vs.toArray } ∧ u = .frz { cls := .type "list", data := .seq vs.toArray } (.lst (vs.map toV))) ∨
     (h.get? b = some { cls := .type "tuple", data := .seq vs.toArray } ∧ u = .frz { cls := .type "tuple", data := .seq vs.toArray } (.tup (vs.map toV)))) := by
  obtain ⟨hb, hk⟩ := of_argH q
  obtain ⟨vs, h1, h2, h3⟩ := ar b hb
  refine ⟨hk, vs, h1, h2, ?_⟩
  rcases h3 with e | e
  · rw [argH_at hb hk e, hoOf_lst] at q
    exact .inl ⟨e, (Option.some.inj q).symm⟩
  · rw [argH_at hb hk e, hoOf_tup] at q
    exact .inr ⟨e, (Option.some.inj q).symm⟩
theorem argH_only (ar : ∀ a ∈ A, ArgOb h A a) : OnlyF (argH K h A) := fun b => by
  cases q : argH K h A b with
  | none => exact .inl rfl
  | some u =>
    obtain ⟨_, vs, _, _, ⟨_, e⟩ | ⟨_, e⟩⟩ := argH_is ar q
    · exact .inr ⟨_, _, by rw [e]⟩
    · exact .inr ⟨_, _, by rw [e]⟩
theorem argH_ok (ar : ∀ a ∈ A, ArgOb h A a) : HOk P w (argH K h A) h := fun b u q => by
  obtain ⟨_, vs, h1, h2, ⟨e, rfl⟩ | ⟨e, rfl⟩⟩ := argH_is ar q
  · exact ⟨e, by rw [List.length_map]; exact h1, vs, _, vals_toV h2, e⟩
  · exact ⟨e, by rw [List.length_map]; exact h1, vs, vals_toV h2, _, e, rfl, _, rfl⟩
theorem seq_inj {c c' : Value} {vs us : List Value} (e : (some { cls := c, data := .seq vs.toArray } : Option Obj) = some { cls := c', data := .seq us.toArray }) : c = c' ∧ vs = us := by
  have e1 := Option.some.inj e
  have e2 : c = c' := congrArg Obj.cls e1
  have e3 : Data.seq vs.toArray = Data.seq us.toArray := congrArg Obj.data e1
  injection e3 with e4
  refine ⟨e2, ?_⟩
  have e5 := congrArg Array.toList e4
  simpa using e5
theorem argL (KX : K.In h) (ar : ∀ a ∈ A, ArgOb h A a) {a : Addr} {vs : List Value} (ha : a ∈ A) (e : h.get? a = some { cls := .type "list", data := .seq vs.toArray }) : (∀ u ∈ vs, OkU A u) ∧ SqL K (argH K h A) a (vs.map toV) := by
  obtain ⟨us, h1, h2, h3⟩ := ar a ha
  have hu : us = vs := by
    rcases h3 with q | q
    · rw [e] at q
      exact (seq_inj q).2.symm
    · rw [e] at q
      exact absurd (Value.type.inj (seq_inj q).1) (by decide)
  subst hu
  refine ⟨h2, ?_⟩
  cases hk : K.lookup a with
  | none => exact .inl (.inr ⟨_, by rw [argH_at ha hk e, hoOf_lst]⟩)
  | some o =>
    have e2 := KX a o hk
    rw [e] at e2
    obtain rfl := Option.some.inj e2
    exact .inr ⟨_, us.toArray, _, hk, rfl, rfl, rfl, by rw [List.size_toArray]; exact h1, by simpa using vals_toV h2⟩
theorem argT (KX : K.In h) (ar : ∀ a ∈ A, ArgOb h A a) {a : Addr} {vs : List Value} (ha : a ∈ A) (e : h.get? a = some { cls := .type "tuple", data := .seq vs.toArray }) : (∀ u ∈ vs, OkU A u) ∧ SqT K (argH K h A) a (vs.map toV) := by
  obtain ⟨us, h1, h2, h3⟩ := ar a ha
  have hu : us = vs := by
    rcases h3 with q | q
    · rw [e] at q
      exact absurd (Value.type.inj (seq_inj q).1) (by decide)
    · rw [e] at q
      exact (seq_inj q).2.symm
  subst hu
  refine ⟨h2, ?_⟩
  cases hk : K.lookup a with
  | none => exact .inl (.inr ⟨_, by rw [argH_at ha hk e, hoOf_tup]⟩)
  | some o =>
    have e2 := KX a o hk
    rw [e] at e2
    obtain rfl := Option.some.inj e2
    exact .inr ⟨_, us.toArray, _, hk, rfl, rfl, by rw [List.size_toArray]; exact h1, by simpa using vals_toV h2⟩
mutual
theorem dw_one {Pm : Params} (KX : K.In h) (ar : ∀ a ∈ A, ArgOb h A a) : ∀ (d : WData) (v : Value), Well Pm h v d → plW d = true → OkU A v → Dw K (argH K h A) (toV v) d
  | .none, _, x, _, _ => by
    cases x
    exact .non
  | .bool b, _, x, _, _ => by
    cases x
    exact .bl b
  | .int i, _, x, _, _ => by
    cases x
    exact .int i
  | .str s, _, x, _, _ => by
    cases x
    exact .str s
  | .bytes b, _, x, _, _ => by
    cases x
    have z := Dw.byt (K := K) (H := argH K h A) b.toArray
    exact z
  | .list ds, _, x, p, hu => by
    obtain ⟨a, vs, rfl, ho, hall⟩ := well_list x
    obtain ⟨h2, hs⟩ := argL KX ar hu ho
    exact .lst hs (dw_all KX ar ds _ hall p h2)
  | .tuple ds, _, x, p, hu => by
    obtain ⟨a, vs, rfl, ho, hall⟩ := well_tuple x
    obtain ⟨h2, hs⟩ := argT KX ar hu ho
    exact .tup hs (dw_all KX ar ds _ hall p h2)
  | .float _, _, _, p, _ => Bool.noConfusion (show false = true from p)
  | .dict _, _, _, p, _ => Bool.noConfusion (show false = true from p)
  | .bytearray _, _, _, p, _ => Bool.noConfusion (show false = true from p)
  | .set _, _, _, p, _ => Bool.noConfusion (show false = true from p)
  | .frozenset _, _, _, p, _ => Bool.noConfusion (show false = true from p)
  | .obj _ _, _, _, p, _ => Bool.noConfusion (show false = true from p)
theorem dw_all {Pm : Params} (KX : K.In h) (ar : ∀ a ∈ A, ArgOb h A a) : ∀ (ds : List WData) (vs : List Value), WellAll Pm h vs ds → plWs ds = true → (∀ u ∈ vs, OkU A u) → DwAll K (argH K h A) (vs.map toV) ds
  | [], _, x, _, _ => by
    cases x
    exact .nil
  | d :: ds, _, x, p, hu => by
    obtain ⟨v, vs, rfl, x1, x2⟩ := well_cons x
    have q : plW d = true ∧ plWs ds = true := Bool.and_eq_true_iff.mp p
    exact .cons (dw_one KX ar d v x1 q.1 (hu _ (List.mem_cons_self ..))) (dw_all KX ar ds vs x2 q.2 fun u m => hu u (List.mem_cons_of_mem _ m))
end
end
theorem spec_call {P : Program} {w : World} {K : PySem.W.Frag} {mg mb : Str → Option Value} {CX : CXT} {k : Nat} {fa : Addr} {fd : FuncData} {ps : List Str} {sp : Sp} {s₁ : Shared} {vals : List Value} {ds : List WData} {R : PySem.W.WRecords} {cl : Str → Option Addr} {d0 : WData}
    (KX : K.In s₁.heap) (hns : s₁.heap.Ns mainGlobals mg) (hb : s₁.heap.Ns builtinsNs mb) (hbb : ∀ x : Str, x ≠ "__name__" → mb x = bootBuiltins x) (hlim : s₁.heap.NoLimit) (hg : s₁.gens = #[])
    (hwl : WellAll w.params s₁.heap vals ds) (hpl : plWs ds = true) (hwt : ∀ d ∈ ds, d.weight ≤ 1048576) (hr : Room k callerA)
    (F : ∀ base : Heap, K.In base → base.Ns mainGlobals mg → FnOk P w K mg base CX k fa fd ps sp) (hbind : ∀ (s : Shared) (us : List Value), us.length = ps.length → BindsTo s fd ⟨us, []⟩ (ps.zip us)) (hlen : ds.length = ps.length)
    (hsp : ∀ (H : Hp) (xs : List V), OnlyF H → DwAll K H xs ds → sp xs H (fun v H' => Dw K H' v d0) fun _ _ _ => False)
    (hCX : ∀ H e s', CX [] H s₁ (fun _ _ _ => False) e s' → False) :
    codeAny (model P w) callerA (.call (.ref fa) ⟨vals, []⟩) (fun r s' => ∃ u as, r = .ok (.ret u) ∧ ReadsW R cl s'.heap u d0 as ∧ OldK s₁.heap s'.heap ∧ s'.os = s₁.os ∧ AllBare s'.gens) s₁ := by
  obtain ⟨A, ho, ar⟩ := area_all ds vals hwl hpl hwt
  have hO : OnlyF (argH K s₁.heap A) := argH_only ar
  have hok : HOk P w (argH K s₁.heap A) s₁.heap := argH_ok ar
  have hS := dw_all KX ar ds vals hwl hpl ho
  have hV := vals_toV ho
  have hK : ∀ b u, argH K s₁.heap A b = some u → K.lookup b = none := fun b u q => (argH_is ar q).1
  have noA : ∀ {b : Addr} {o : Obj} {es : Array DictEntry} {ep : Nat}, s₁.heap.get? b = some o → o.data = .dict es ep → argH K s₁.heap A b = none := fun {b o es ep} e d => by
    cases q : argH K s₁.heap A b with
    | none => rfl
    | some u =>
      obtain ⟨_, vs, _, _, ⟨e2, _⟩ | ⟨e2, _⟩⟩ := argH_is ar q
      · rw [e2] at e
        cases e
        have d' : Data.seq vs.toArray _ = Data.dict es ep := d
        cases d'
      · rw [e2] at e
        cases e
        have d' : Data.seq vs.toArray _ = Data.dict es ep := d
        cases d'
  generalize argH K s₁.heap A = H at hO hok hS hK noA
  have base_of : ∀ {b : Addr} {o : Obj}, s₁.heap.get? b = some o → H b = none → (hidT s₁.heap H).get? b = some o := fun e n => hidT_get e n
  have nsK : ∀ {b : Addr} {m : Str → Option Value}, s₁.heap.Ns b m → (hidT s₁.heap H).Ns b m := fun {b m} ⟨o, es, ep, e, d, r⟩ => ⟨o, es, ep, base_of e (noA e d), d, r⟩
  have nK : ∀ b o, K.lookup b = some o → H b = none := fun b o e => by
    cases q : H b with
    | none => rfl
    | some u =>
      rw [hK b u q] at e
      cases e
  have hKb : K.In (hidT s₁.heap H) := fun b o e => base_of (KX b o e) (nK b o e)
  have hM : Mod K mg (hidT s₁.heap H) := ⟨hKb, nsK hns, ⟨mb, nsK hb, hbb⟩, let ⟨mc, h1, h2⟩ := hlim; ⟨mc, nsK h1, h2⟩⟩
  have e0 : Env0 P w K mg (hidT s₁.heap H) callerA [] s₁ H := ⟨rfl, hM, fun b o e => of_hidT e, Nat.le_of_eq (hidT_size _ _), trivial, fun b hb => absurd (show b ∈ ([] : List Addr) from hb) (by simp), hok, .of_eq hg⟩
  have hl : vals.length = ps.length := by rw [wellAll_len hwl]; exact hlen
  refine codeAny_mono ((F _ hKb (nsK hns)).run callerA [] s₁ H ⟨vals, []⟩ vals (vals.map toV) _ _ hr e0 (hbind s₁ vals hl) hV (hsp H _ hO hS)) fun r s' x => ?_
  cases r with
  | error e => exact (hCX H e s' x).elim
  | ok fl =>
    cases fl with
    | next => exact False.elim x
    | brk => exact False.elim x
    | cont => exact False.elim x
    | ret u =>
      obtain ⟨v, H', os, bare, un, hok', r', q⟩ := x
      have kept : ∀ b o, s₁.heap.get? b = some o → s'.heap.get? b = some o := fun b o e => by
        cases q2 : H b with
        | none => exact un.keep b o e q2 (by intro z; exact absurd (show b ∈ ([] : List Addr) from z) (by simp)) (by simp)
        | some u2 =>
          rcases hO b with z | ⟨ob, u3, z⟩
          · rw [q2] at z
            cases z
          · have z2 := un.frzs b ob _ z
            obtain ⟨e1, _⟩ := hok b _ z
            obtain ⟨e2, _⟩ := hok' b _ z2
            rw [e] at e1
            cases e1
            exact e2
      have KX' : K.In s'.heap := fun b o e => kept b o (KX b o e)
      obtain ⟨as, hrd⟩ := Dw.reads (R := R) (cl := cl) hok' KX' d0 v u q r'
      exact ⟨u, as, rfl, hrd, OldK.of_keep kept, os, bare⟩
theorem layable_weight {ds : List WData} (h : WData.layableAll ds = true) : ∀ d ∈ ds, d.weight ≤ 1048576 := fun d hd =>
  (PySem.W.layableW_iff.mp (List.all_eq_true.mp h d hd)).2.2
theorem encAll_len : ∀ (cs : List Codec) (a : Codec.denoteAll cs), (Codec.encAll cs a).length = cs.length
  | [], _ => rfl
  | c :: cs, a => by
    show (Codec.encAll cs a.2).length + 1 = cs.length + 1
    rw [encAll_len cs a.2]
theorem walk_spec {r : OpenSpec} {k : Nat} {q : Program} {loose : List Str} {XP : (Str → Option Value) → Heap → Prop} {YP : World → Heap → Prop} {d : DefRec} {K : Params → PySem.W.Frag} {CX : World → CXT} {ps : List Str} {sp : World → Sp}
    (hwell : r.wellSaid = true) (hdf : d.params.defaults = []) (hlen : r.args.length = ps.length) (hr : Room k callerA)
    (hY : ∀ (w : World) (h : Heap), YP w h → (K w.params).In h)
    (F : ∀ (w : World) (mg : Str → Option Value) (fa : Addr) (h : Heap), YP w h → (K w.params).In h → h.Ns mainGlobals mg → mg d.name = some (.ref fa) →
      ∃ fd : FuncData, (∀ (s : Shared) (us : List Value), us.length = ps.length → BindsTo s fd ⟨us, []⟩ (ps.zip us)) ∧
        ∀ base : Heap, (K w.params).In base → base.Ns mainGlobals mg → FnOk r.prog w (K w.params) mg base (CX w) k fa fd ps (sp w))
    (hsp : ∀ (w : World) (H : Hp) (xs : List V) (a : Codec.denoteAll r.args), OnlyF H → Codec.withinAll r.args a = true → Codec.app r.args r.asked a = true → DwAll (K w.params) H xs (Codec.encAll r.args a) →
      sp w xs H (fun v H' => Dw (K w.params) H' v (r.ret.enc (Codec.app r.args r.f a))) fun _ _ _ => False)
    (hCX : ∀ (w : World) (H : Hp) (s : Shared) (e : Value) (s' : Shared), CX w [] H s (fun _ _ _ => False) e s' → False) :
    PySem.W.WalkOS q loose XP YP r d [] (fun f vs => PySem.call f vs) := by
  intro w s_0 s₁ mg mb G Y fa o pm cd doc dV kV ho hd hcd hD hmg hg args vals as hpre hlay hrd hwl hlo
  obtain ⟨a, e1, e2⟩ := PySem.W.os_pre_some hpre
  obtain ⟨e3, hwi⟩ := Codec.encAll_of_decAll r.args args a e1
  subst e3
  have KX := hY w _ Y
  obtain ⟨fd, hb, hF⟩ := F w mg fa _ Y KX G.T.g hmg
  refine PySem.W.enter_call (codeAny_mono (spec_call (R := []) (cl := classAt s_0.heap) (d0 := r.ret.enc (Codec.app r.args r.f a)) KX G.T.g G.T.b G.T.builtins G.T.nolimit hg hwl (pl_encAll _ _) (layable_weight hlay) hr hF hb (by rw [encAll_len]; exact hlen)
    (fun H xs hO hS => hsp w H xs a hO hwi e2 hS) fun H e s' => hCX w H s₁ e s') fun r' s' hq => ?_)
  obtain ⟨u, as', rfl, h1, h2, h3, h4⟩ := hq
  exact ⟨.inl ⟨u, _, as', rfl, fun _ => rfl, h1, (OpenSpec.post_iff hwell hwi _ _).mpr rfl, fun z => Bool.noConfusion (show false = true from z)⟩, h2, h3, h4⟩
theorem walk_specK {r : OpenSpec} {k : Nat} {q : Program} {loose : List Str} {XP : (Str → Option Value) → Heap → Prop} {YP : World → Heap → Prop} {d : DefRec} {K : Params → PySem.W.Frag} {CX : CXT} {ps : List Str} {sp : PySem.W.Frag → Sp}
    (hwell : r.wellSaid = true) (hdf : d.params.defaults = []) (hlen : r.args.length = ps.length) (hr : Room k callerA)
    (hY : ∀ (w : World) (h : Heap), YP w h → (K w.params).In h)
    (F : ∀ (w : World) (mg : Str → Option Value) (fa : Addr) (h : Heap), YP w h → (K w.params).In h → h.Ns mainGlobals mg → mg d.name = some (.ref fa) →
      ∃ fd : FuncData, (∀ (s : Shared) (us : List Value), us.length = ps.length → BindsTo s fd ⟨us, []⟩ (ps.zip us)) ∧
        ∀ base : Heap, (K w.params).In base → base.Ns mainGlobals mg → FnOk r.prog w (K w.params) mg base CX k fa fd ps (sp (K w.params)))
    (hsp : ∀ (K : PySem.W.Frag) (H : Hp) (xs : List V) (a : Codec.denoteAll r.args), OnlyF H → Codec.withinAll r.args a = true → Codec.app r.args r.asked a = true → DwAll K H xs (Codec.encAll r.args a) →
      sp K xs H (fun v H' => Dw K H' v (r.ret.enc (Codec.app r.args r.f a))) fun _ _ _ => False)
    (hCX : ∀ (H : Hp) (s : Shared) (e : Value) (s' : Shared), CX [] H s (fun _ _ _ => False) e s' → False) :
    PySem.W.WalkOS q loose XP YP r d [] (fun f vs => PySem.call f vs) :=
  walk_spec (K := K) (CX := fun _ => CX) (sp := fun w => sp (K w.params)) hwell hdf hlen hr hY F (fun w H xs a h1 h2 h3 h4 => hsp (K w.params) H xs a h1 h2 h3 h4) fun _ H s e s' => hCX H s e s'
end L2
end


end
section
set_option Elab.async false
set_option linter.all false
set_option maxRecDepth 100000
set_option maxHeartbeats 4000000
/-! The text by places: its defs, classes and constants as they stand behind the top. -/
namespace Wb
open PySem PySem.Spec PyProof.Rows L2
def top (i : Nat) : Stmt := PySem.Challenge.pw_weighbridge_s01_answers.main.body.getD i (.Pass ⟨0, 0, 0, 0⟩)
abbrev s_Plate_init : Stmt := inClass (top 25) 0
abbrev s_Plate_is_empty : Stmt := inClass (top 25) 1
abbrev s_Plate_load : Stmt := inClass (top 25) 2
abbrev s_Plate_feels : Stmt := inClass (top 25) 3
abbrev s_Plate_shows : Stmt := inClass (top 25) 4
abbrev s_Plate_reading : Stmt := inClass (top 25) 5
abbrev s_Plate_wrong_with : Stmt := inClass (top 25) 6
abbrev s_Plate_halves_allowed : Stmt := inClass (top 25) 7
abbrev s_Plate_may_be_wrong : Stmt := inClass (top 25) 8
abbrev s_Plate_shows_too_much : Stmt := inClass (top 25) 9
abbrev s_Plate_weighing_refusal : Stmt := inClass (top 25) 10
abbrev s_Ticket_init : Stmt := inClass (top 33) 0
abbrev s_Ticket_net_with : Stmt := inClass (top 33) 1
abbrev s_Goods_init : Stmt := inClass (top 37) 0
abbrev s_Goods_paid_for : Stmt := inClass (top 37) 1
abbrev s_Goods_amount_for : Stmt := inClass (top 37) 2
abbrev s_Goods_room_left : Stmt := inClass (top 37) 3
abbrev s_Goods_stock_refusal : Stmt := inClass (top 37) 4
abbrev s_Goods_move : Stmt := inClass (top 37) 5
abbrev s_Lorry_init : Stmt := inClass (top 42) 0
abbrev s_Lorry_take_tare : Stmt := inClass (top 42) 1
abbrev s_Lorry_last_tare : Stmt := inClass (top 42) 2
abbrev s_Lorry_has_tare : Stmt := inClass (top 42) 3
abbrev s_Lorry_tare_age : Stmt := inClass (top 42) 4
abbrev s_Lorry_has_good_tare : Stmt := inClass (top 42) 5
abbrev s_Lorry_has_two_tares : Stmt := inClass (top 42) 6
abbrev s_Lorry_tare_change : Stmt := inClass (top 42) 7
abbrev s_Lorry_has_odd_tare : Stmt := inClass (top 42) 8
abbrev s_Lorry_gross_above : Stmt := inClass (top 42) 9
abbrev s_Lorry_axle_above : Stmt := inClass (top 42) 10
abbrev s_Lorry_is_too_heavy : Stmt := inClass (top 42) 11
abbrev s_Lorry_gross_left : Stmt := inClass (top 42) 12
abbrev s_Yard_init : Stmt := inClass (top 88) 0
abbrev s_Yard_has_kind : Stmt := inClass (top 88) 1
abbrev s_Yard_has_lorry : Stmt := inClass (top 88) 2
abbrev s_Yard_has_ticket : Stmt := inClass (top 88) 3
abbrev s_Yard_tickets_in : Stmt := inClass (top 88) 4
abbrev s_Yard_lorries_there : Stmt := inClass (top 88) 5
abbrev s_Yard_is_full : Stmt := inClass (top 88) 6
abbrev s_Yard_is_out_of_tickets : Stmt := inClass (top 88) 7
abbrev s_Line_init : Stmt := inClass (top 119) 0
abbrev s_Line_begin : Stmt := inClass (top 119) 1
abbrev s_tell_tare : Stmt := top 16
abbrev s_tell_odd : Stmt := top 17
abbrev s_weighed_refusal : Stmt := top 18
abbrev s_tell_excess : Stmt := top 19
abbrev s_tell_fits : Stmt := top 20
abbrev s_begin_in_range : Stmt := top 44
abbrev s_add_kind : Stmt := top 45
abbrev s_add_lorry : Stmt := top 46
abbrev s_pass_days : Stmt := top 47
abbrev s_tell_dry : Stmt := top 50
abbrev s_tell_yard : Stmt := top 51
abbrev s_tell_ticket : Stmt := top 52
abbrev s_tell_stock : Stmt := top 53
abbrev s_tell_enough : Stmt := top 54
abbrev s_done_tickets : Stmt := top 55
abbrev s_tell_totals : Stmt := top 56
abbrev s_tell_trips : Stmt := top 57
abbrev s_all_amounts : Stmt := top 58
abbrev s_tell_money : Stmt := top 59
abbrev s_tell_heaviest : Stmt := top 60
abbrev s_tell_sums : Stmt := top 61
abbrev s_tell_state : Stmt := top 62
abbrev s_coming_refusal : Stmt := top 64
abbrev s_arrive_refusal : Stmt := top 65
abbrev s_arrive : Stmt := top 66
abbrev s_is_too_heavy_now : Stmt := top 67
abbrev s_settling_refusal : Stmt := top 68
abbrev s_settle : Stmt := top 69
abbrev s_standing_refusal : Stmt := top 70
abbrev s_leave_refusal : Stmt := top 71
abbrev s_leave : Stmt := top 72
abbrev s_net_above_tare : Stmt := top 73
abbrev s_quick_refusal : Stmt := top 74
abbrev s_quick : Stmt := top 75
abbrev s_cancel : Stmt := top 76
abbrev s_set_errors : Stmt := top 81
abbrev s_put_on : Stmt := top 82
abbrev s_take_off : Stmt := top 83
abbrev s_show_reading : Stmt := top 84
abbrev s_set_zero : Stmt := top 85
abbrev s_try_weight : Stmt := top 86
abbrev s_ask_plate : Stmt := top 120
abbrev s_ask_yard : Stmt := top 121
abbrev s_look_up : Stmt := top 122
abbrev s_ask : Stmt := top 123
abbrev s_end_of_call : Stmt := top 124
abbrev s_answers : Stmt := top 125
section
variable {K : PySem.W.Frag} {h : Heap} {mg : Str → Option Value}
structure HasFun (K : PySem.W.Frag) (mg : Str → Option Value) (x : Str) (st : Stmt) : Prop where
  ex : ∃ f fd, mg x = some (.ref f) ∧ Fun K x x st f fd
structure HasMeth (K : PySem.W.Frag) (C : Addr) (m qual : Str) (st : Stmt) : Prop where
  ex : ∃ f fd, Meth K C m f ∧ Fun K m qual st f fd
structure HasInit (K : PySem.W.Frag) (C : Addr) (qual : Str) (st : Stmt) : Prop where
  ex : ∃ f fd, Mk K C f ∧ Fun K "__init__" qual st f fd
structure HasInt (mg : Str → Option Value) (x : Str) (v : Int) : Prop where
  ex : ∃ u, mg x = some u ∧ RelV (.int v) u
structure HasTup (K : PySem.W.Frag) (mg : Str → Option Value) (x : Str) (vs : List Int) : Prop where
  ex : ∃ a, mg x = some (.ref a) ∧ ∀ H : Hp, SqT K H a (vs.map V.int)
theorem mk_fun {x : Str} {st : Stmt} {f : Addr} {od an : Option Addr} {sl : Array (Option Value)} {oc kV dc pm cd ct : Value} (X : K.In h) (G : h.Ns mainGlobals mg)
    (a : PySem.W.nsIn K mainGlobals x = some (some (.ref f))) (l : K.lookup f = some ⟨oc, od, .func (PySem.W.fnOf x x (defArgs st) (defBody st) (defScope st) .none kV dc pm an cd ct), sl⟩)
    (c : PySem.W.codeIn K cd x = true) (k : PySem.W.keepIn K (.ref f) = true) : HasFun K mg x st := ⟨f, _, PySem.W.mg_of X G a, fun_mk l c k⟩
theorem mk_meth {C : Addr} {x qual : Str} {st : Stmt} {f : Addr} {od an : Option Addr} {sl : Array (Option Value)} {oc kV dc pm cd ct : Value}
    (a : PySem.W.findIn K (.ref C) x = some (some (.ref f))) (i : PySem.W.isFn K (.ref f) = true) (l : K.lookup f = some ⟨oc, od, .func (PySem.W.fnOf x qual (defArgs st) (defBody st) (defScope st) .none kV dc pm an cd ct), sl⟩)
    (c : PySem.W.codeIn K cd qual = true) (k : PySem.W.keepIn K (.ref f) = true) : HasMeth K C x qual st := ⟨f, _, ⟨a, i, k⟩, fun_mk l c k⟩
theorem mk_init {C : Addr} {qual : Str} {st : Stmt} {f : Addr} {od an : Option Addr} {sl : Array (Option Value)} {oc kV dc pm cd ct : Value} (mk : PySem.W.makesIn K C = true) (kc : PySem.W.keepIn K (.ref C) = true)
    (a : PySem.W.findIn K (.ref C) "__init__" = some (some (.ref f))) (i : PySem.W.isFn K (.ref f) = true) (l : K.lookup f = some ⟨oc, od, .func (PySem.W.fnOf "__init__" qual (defArgs st) (defBody st) (defScope st) .none kV dc pm an cd ct), sl⟩)
    (c : PySem.W.codeIn K cd qual = true) (k : PySem.W.keepIn K (.ref f) = true) : HasInit K C qual st := ⟨f, _, ⟨mk, a, i, kc⟩, fun_mk l c k⟩
theorem mk_int {x : Str} {v : Int} {t : Tok} (X : K.In h) (G : h.Ns mainGlobals mg) (a : PySem.W.nsIn K mainGlobals x = some (some (.int v t))) : HasInt mg x v := ⟨_, PySem.W.mg_of X G a, t, rfl⟩
theorem mk_tup {x : Str} {a : Addr} {vs : List Int} {us : List Value} {od : Option Addr} {n : Nat} {sl : Array (Option Value)} (X : K.In h) (G : h.Ns mainGlobals mg) (e : PySem.W.nsIn K mainGlobals x = some (some (.ref a)))
    (l : K.lookup a = some ⟨.type "tuple", od, .seq us.toArray n, sl⟩) (z : us.length ≤ sizeLine) (r : Vals (vs.map V.int) us) : HasTup K mg x vs :=
  ⟨a, PySem.W.mg_of X G e, fun H => .inr ⟨_, us.toArray, n, l, rfl, rfl, by simpa using z, by simpa using r⟩⟩
structure U_Plate (K : PySem.W.Frag) (mg : Str → Option Value) (C : Addr) : Prop where
  cl : Cls K C
  mgC : mg "Plate" = some (.ref C)
  n_step : NoAttr K C "step"
  n_capacity : NoAttr K C "capacity"
  n_gain : NoAttr K C "gain"
  n_offset : NoAttr K C "offset"
  n_zero : NoAttr K C "zero"
  n_axles : NoAttr K C "axles"
  init : HasInit K C "Plate.__init__" s_Plate_init
  m_is_empty : HasMeth K C "is_empty" "Plate.is_empty" s_Plate_is_empty
  m_load : HasMeth K C "load" "Plate.load" s_Plate_load
  m_feels : HasMeth K C "feels" "Plate.feels" s_Plate_feels
  m_shows : HasMeth K C "shows" "Plate.shows" s_Plate_shows
  m_reading : HasMeth K C "reading" "Plate.reading" s_Plate_reading
  m_wrong_with : HasMeth K C "wrong_with" "Plate.wrong_with" s_Plate_wrong_with
  m_halves_allowed : HasMeth K C "halves_allowed" "Plate.halves_allowed" s_Plate_halves_allowed
  m_may_be_wrong : HasMeth K C "may_be_wrong" "Plate.may_be_wrong" s_Plate_may_be_wrong
  m_shows_too_much : HasMeth K C "shows_too_much" "Plate.shows_too_much" s_Plate_shows_too_much
  m_weighing_refusal : HasMeth K C "weighing_refusal" "Plate.weighing_refusal" s_Plate_weighing_refusal
theorem mk_Plate {C : Addr} {f0 : Addr} {od0 an0 : Option Addr} {sl0 : Array (Option Value)} {oc0 kV0 dc0 pm0 cd0 ct0 : Value} {f1 : Addr} {od1 an1 : Option Addr} {sl1 : Array (Option Value)} {oc1 kV1 dc1 pm1 cd1 ct1 : Value} {f2 : Addr} {od2 an2 : Option Addr} {sl2 : Array (Option Value)} {oc2 kV2 dc2 pm2 cd2 ct2 : Value} {f3 : Addr} {od3 an3 : Option Addr} {sl3 : Array (Option Value)} {oc3 kV3 dc3 pm3 cd3 ct3 : Value} {f4 : Addr} {od4 an4 : Option Addr} {sl4 : Array (Option Value)} {oc4 kV4 dc4 pm4 cd4 ct4 : Value} {f5 : Addr} {od5 an5 : Option Addr} {sl5 : Array (Option Value)} {oc5 kV5 dc5 pm5 cd5 ct5 : Value} {f6 : Addr} {od6 an6 : Option Addr} {sl6 : Array (Option Value)} {oc6 kV6 dc6 pm6 cd6 ct6 : Value} {f7 : Addr} {od7 an7 : Option Addr} {sl7 : Array (Option Value)} {oc7 kV7 dc7 pm7 cd7 ct7 : Value} {f8 : Addr} {od8 an8 : Option Addr} {sl8 : Array (Option Value)} {oc8 kV8 dc8 pm8 cd8 ct8 : Value} {f9 : Addr} {od9 an9 : Option Addr} {sl9 : Array (Option Value)} {oc9 kV9 dc9 pm9 cd9 ct9 : Value} {f10 : Addr} {od10 an10 : Option Addr} {sl10 : Array (Option Value)} {oc10 kV10 dc10 pm10 cd10 ct10 : Value} (X : K.In h) (G : h.Ns mainGlobals mg)
    (aC : PySem.W.nsIn K mainGlobals "Plate" = some (some (.ref C)))
    (pg : PySem.W.plainGet K C Str.empty = true)
    (hd : PySem.W.hasDictIn K C = true)
    (po : PySem.W.plainOver K C = true)
    (sa : PySem.W.findIn K (.ref C) "__setattr__" = some (some (.builtin "object.__setattr__")))
    (mk : PySem.W.makesIn K C = true)
    (kc : PySem.W.keepIn K (.ref C) = true)
    (n_step : PySem.W.findIn K (.ref C) "step" = some none)
    (n_capacity : PySem.W.findIn K (.ref C) "capacity" = some none)
    (n_gain : PySem.W.findIn K (.ref C) "gain" = some none)
    (n_offset : PySem.W.findIn K (.ref C) "offset" = some none)
    (n_zero : PySem.W.findIn K (.ref C) "zero" = some none)
    (n_axles : PySem.W.findIn K (.ref C) "axles" = some none)
    (a0 : PySem.W.findIn K (.ref C) "__init__" = some (some (.ref f0)))
    (i0 : PySem.W.isFn K (.ref f0) = true)
    (l0 : K.lookup f0 = some ⟨oc0, od0, .func (PySem.W.fnOf "__init__" "Plate.__init__" (defArgs s_Plate_init) (defBody s_Plate_init) (defScope s_Plate_init) .none kV0 dc0 pm0 an0 cd0 ct0), sl0⟩)
    (c0 : PySem.W.codeIn K cd0 "Plate.__init__" = true)
    (k0 : PySem.W.keepIn K (.ref f0) = true)
    (a1 : PySem.W.findIn K (.ref C) "is_empty" = some (some (.ref f1)))
    (i1 : PySem.W.isFn K (.ref f1) = true)
    (l1 : K.lookup f1 = some ⟨oc1, od1, .func (PySem.W.fnOf "is_empty" "Plate.is_empty" (defArgs s_Plate_is_empty) (defBody s_Plate_is_empty) (defScope s_Plate_is_empty) .none kV1 dc1 pm1 an1 cd1 ct1), sl1⟩)
    (c1 : PySem.W.codeIn K cd1 "Plate.is_empty" = true)
    (k1 : PySem.W.keepIn K (.ref f1) = true)
    (a2 : PySem.W.findIn K (.ref C) "load" = some (some (.ref f2)))
    (i2 : PySem.W.isFn K (.ref f2) = true)
    (l2 : K.lookup f2 = some ⟨oc2, od2, .func (PySem.W.fnOf "load" "Plate.load" (defArgs s_Plate_load) (defBody s_Plate_load) (defScope s_Plate_load) .none kV2 dc2 pm2 an2 cd2 ct2), sl2⟩)
    (c2 : PySem.W.codeIn K cd2 "Plate.load" = true)
    (k2 : PySem.W.keepIn K (.ref f2) = true)
    (a3 : PySem.W.findIn K (.ref C) "feels" = some (some (.ref f3)))
    (i3 : PySem.W.isFn K (.ref f3) = true)
    (l3 : K.lookup f3 = some ⟨oc3, od3, .func (PySem.W.fnOf "feels" "Plate.feels" (defArgs s_Plate_feels) (defBody s_Plate_feels) (defScope s_Plate_feels) .none kV3 dc3 pm3 an3 cd3 ct3), sl3⟩)
    (c3 : PySem.W.codeIn K cd3 "Plate.feels" = true)
    (k3 : PySem.W.keepIn K (.ref f3) = true)
    (a4 : PySem.W.findIn K (.ref C) "shows" = some (some (.ref f4)))
    (i4 : PySem.W.isFn K (.ref f4) = true)
    (l4 : K.lookup f4 = some ⟨oc4, od4, .func (PySem.W.fnOf "shows" "Plate.shows" (defArgs s_Plate_shows) (defBody s_Plate_shows) (defScope s_Plate_shows) .none kV4 dc4 pm4 an4 cd4 ct4), sl4⟩)
    (c4 : PySem.W.codeIn K cd4 "Plate.shows" = true)
    (k4 : PySem.W.keepIn K (.ref f4) = true)
    (a5 : PySem.W.findIn K (.ref C) "reading" = some (some (.ref f5)))
    (i5 : PySem.W.isFn K (.ref f5) = true)
    (l5 : K.lookup f5 = some ⟨oc5, od5, .func (PySem.W.fnOf "reading" "Plate.reading" (defArgs s_Plate_reading) (defBody s_Plate_reading) (defScope s_Plate_reading) .none kV5 dc5 pm5 an5 cd5 ct5), sl5⟩)
    (c5 : PySem.W.codeIn K cd5 "Plate.reading" = true)
    (k5 : PySem.W.keepIn K (.ref f5) = true)
    (a6 : PySem.W.findIn K (.ref C) "wrong_with" = some (some (.ref f6)))
    (i6 : PySem.W.isFn K (.ref f6) = true)
    (l6 : K.lookup f6 = some ⟨oc6, od6, .func (PySem.W.fnOf "wrong_with" "Plate.wrong_with" (defArgs s_Plate_wrong_with) (defBody s_Plate_wrong_with) (defScope s_Plate_wrong_with) .none kV6 dc6 pm6 an6 cd6 ct6), sl6⟩)
    (c6 : PySem.W.codeIn K cd6 "Plate.wrong_with" = true)
    (k6 : PySem.W.keepIn K (.ref f6) = true)
    (a7 : PySem.W.findIn K (.ref C) "halves_allowed" = some (some (.ref f7)))
    (i7 : PySem.W.isFn K (.ref f7) = true)
    (l7 : K.lookup f7 = some ⟨oc7, od7, .func (PySem.W.fnOf "halves_allowed" "Plate.halves_allowed" (defArgs s_Plate_halves_allowed) (defBody s_Plate_halves_allowed) (defScope s_Plate_halves_allowed) .none kV7 dc7 pm7 an7 cd7 ct7), sl7⟩)
    (c7 : PySem.W.codeIn K cd7 "Plate.halves_allowed" = true)
    (k7 : PySem.W.keepIn K (.ref f7) = true)
    (a8 : PySem.W.findIn K (.ref C) "may_be_wrong" = some (some (.ref f8)))
    (i8 : PySem.W.isFn K (.ref f8) = true)
    (l8 : K.lookup f8 = some ⟨oc8, od8, .func (PySem.W.fnOf "may_be_wrong" "Plate.may_be_wrong" (defArgs s_Plate_may_be_wrong) (defBody s_Plate_may_be_wrong) (defScope s_Plate_may_be_wrong) .none kV8 dc8 pm8 an8 cd8 ct8), sl8⟩)
    (c8 : PySem.W.codeIn K cd8 "Plate.may_be_wrong" = true)
    (k8 : PySem.W.keepIn K (.ref f8) = true)
    (a9 : PySem.W.findIn K (.ref C) "shows_too_much" = some (some (.ref f9)))
    (i9 : PySem.W.isFn K (.ref f9) = true)
    (l9 : K.lookup f9 = some ⟨oc9, od9, .func (PySem.W.fnOf "shows_too_much" "Plate.shows_too_much" (defArgs s_Plate_shows_too_much) (defBody s_Plate_shows_too_much) (defScope s_Plate_shows_too_much) .none kV9 dc9 pm9 an9 cd9 ct9), sl9⟩)
    (c9 : PySem.W.codeIn K cd9 "Plate.shows_too_much" = true)
    (k9 : PySem.W.keepIn K (.ref f9) = true)
    (a10 : PySem.W.findIn K (.ref C) "weighing_refusal" = some (some (.ref f10)))
    (i10 : PySem.W.isFn K (.ref f10) = true)
    (l10 : K.lookup f10 = some ⟨oc10, od10, .func (PySem.W.fnOf "weighing_refusal" "Plate.weighing_refusal" (defArgs s_Plate_weighing_refusal) (defBody s_Plate_weighing_refusal) (defScope s_Plate_weighing_refusal) .none kV10 dc10 pm10 an10 cd10 ct10), sl10⟩)
    (c10 : PySem.W.codeIn K cd10 "Plate.weighing_refusal" = true)
    (k10 : PySem.W.keepIn K (.ref f10) = true) : ∃ C, U_Plate K mg C :=
  ⟨C, ⟨⟨pg, hd, po, sa⟩, PySem.W.mg_of X G aC, n_step, n_capacity, n_gain, n_offset, n_zero, n_axles, mk_init mk kc a0 i0 l0 c0 k0, mk_meth a1 i1 l1 c1 k1, mk_meth a2 i2 l2 c2 k2, mk_meth a3 i3 l3 c3 k3, mk_meth a4 i4 l4 c4 k4, mk_meth a5 i5 l5 c5 k5, mk_meth a6 i6 l6 c6 k6, mk_meth a7 i7 l7 c7 k7, mk_meth a8 i8 l8 c8 k8, mk_meth a9 i9 l9 c9 k9, mk_meth a10 i10 l10 c10 k10⟩⟩
structure U_Ticket (K : PySem.W.Frag) (mg : Str → Option Value) (C : Addr) : Prop where
  cl : Cls K C
  mgC : mg "Ticket" = some (.ref C)
  n_lorry : NoAttr K C "lorry"
  n_kind : NoAttr K C "kind"
  n_way : NoAttr K C "way"
  n_first : NoAttr K C "first"
  n_second : NoAttr K C "second"
  n_net : NoAttr K C "net"
  n_paid : NoAttr K C "paid"
  n_amount : NoAttr K C "amount"
  n_state : NoAttr K C "state"
  init : HasInit K C "Ticket.__init__" s_Ticket_init
  m_net_with : HasMeth K C "net_with" "Ticket.net_with" s_Ticket_net_with
theorem mk_Ticket {C : Addr} {f0 : Addr} {od0 an0 : Option Addr} {sl0 : Array (Option Value)} {oc0 kV0 dc0 pm0 cd0 ct0 : Value} {f1 : Addr} {od1 an1 : Option Addr} {sl1 : Array (Option Value)} {oc1 kV1 dc1 pm1 cd1 ct1 : Value} (X : K.In h) (G : h.Ns mainGlobals mg)
    (aC : PySem.W.nsIn K mainGlobals "Ticket" = some (some (.ref C)))
    (pg : PySem.W.plainGet K C Str.empty = true)
    (hd : PySem.W.hasDictIn K C = true)
    (po : PySem.W.plainOver K C = true)
    (sa : PySem.W.findIn K (.ref C) "__setattr__" = some (some (.builtin "object.__setattr__")))
    (mk : PySem.W.makesIn K C = true)
    (kc : PySem.W.keepIn K (.ref C) = true)
    (n_lorry : PySem.W.findIn K (.ref C) "lorry" = some none)
    (n_kind : PySem.W.findIn K (.ref C) "kind" = some none)
    (n_way : PySem.W.findIn K (.ref C) "way" = some none)
    (n_first : PySem.W.findIn K (.ref C) "first" = some none)
    (n_second : PySem.W.findIn K (.ref C) "second" = some none)
    (n_net : PySem.W.findIn K (.ref C) "net" = some none)
    (n_paid : PySem.W.findIn K (.ref C) "paid" = some none)
    (n_amount : PySem.W.findIn K (.ref C) "amount" = some none)
    (n_state : PySem.W.findIn K (.ref C) "state" = some none)
    (a0 : PySem.W.findIn K (.ref C) "__init__" = some (some (.ref f0)))
    (i0 : PySem.W.isFn K (.ref f0) = true)
    (l0 : K.lookup f0 = some ⟨oc0, od0, .func (PySem.W.fnOf "__init__" "Ticket.__init__" (defArgs s_Ticket_init) (defBody s_Ticket_init) (defScope s_Ticket_init) .none kV0 dc0 pm0 an0 cd0 ct0), sl0⟩)
    (c0 : PySem.W.codeIn K cd0 "Ticket.__init__" = true)
    (k0 : PySem.W.keepIn K (.ref f0) = true)
    (a1 : PySem.W.findIn K (.ref C) "net_with" = some (some (.ref f1)))
    (i1 : PySem.W.isFn K (.ref f1) = true)
    (l1 : K.lookup f1 = some ⟨oc1, od1, .func (PySem.W.fnOf "net_with" "Ticket.net_with" (defArgs s_Ticket_net_with) (defBody s_Ticket_net_with) (defScope s_Ticket_net_with) .none kV1 dc1 pm1 an1 cd1 ct1), sl1⟩)
    (c1 : PySem.W.codeIn K cd1 "Ticket.net_with" = true)
    (k1 : PySem.W.keepIn K (.ref f1) = true) : ∃ C, U_Ticket K mg C :=
  ⟨C, ⟨⟨pg, hd, po, sa⟩, PySem.W.mg_of X G aC, n_lorry, n_kind, n_way, n_first, n_second, n_net, n_paid, n_amount, n_state, mk_init mk kc a0 i0 l0 c0 k0, mk_meth a1 i1 l1 c1 k1⟩⟩
structure U_Goods (K : PySem.W.Frag) (mg : Str → Option Value) (C : Addr) : Prop where
  cl : Cls K C
  mgC : mg "Goods" = some (.ref C)
  n_price : NoAttr K C "price"
  n_wet : NoAttr K C "wet"
  n_most : NoAttr K C "most"
  n_stock : NoAttr K C "stock"
  init : HasInit K C "Goods.__init__" s_Goods_init
  m_paid_for : HasMeth K C "paid_for" "Goods.paid_for" s_Goods_paid_for
  m_amount_for : HasMeth K C "amount_for" "Goods.amount_for" s_Goods_amount_for
  m_room_left : HasMeth K C "room_left" "Goods.room_left" s_Goods_room_left
  m_stock_refusal : HasMeth K C "stock_refusal" "Goods.stock_refusal" s_Goods_stock_refusal
  m_move : HasMeth K C "move" "Goods.move" s_Goods_move
theorem mk_Goods {C : Addr} {f0 : Addr} {od0 an0 : Option Addr} {sl0 : Array (Option Value)} {oc0 kV0 dc0 pm0 cd0 ct0 : Value} {f1 : Addr} {od1 an1 : Option Addr} {sl1 : Array (Option Value)} {oc1 kV1 dc1 pm1 cd1 ct1 : Value} {f2 : Addr} {od2 an2 : Option Addr} {sl2 : Array (Option Value)} {oc2 kV2 dc2 pm2 cd2 ct2 : Value} {f3 : Addr} {od3 an3 : Option Addr} {sl3 : Array (Option Value)} {oc3 kV3 dc3 pm3 cd3 ct3 : Value} {f4 : Addr} {od4 an4 : Option Addr} {sl4 : Array (Option Value)} {oc4 kV4 dc4 pm4 cd4 ct4 : Value} {f5 : Addr} {od5 an5 : Option Addr} {sl5 : Array (Option Value)} {oc5 kV5 dc5 pm5 cd5 ct5 : Value} (X : K.In h) (G : h.Ns mainGlobals mg)
    (aC : PySem.W.nsIn K mainGlobals "Goods" = some (some (.ref C)))
    (pg : PySem.W.plainGet K C Str.empty = true)
    (hd : PySem.W.hasDictIn K C = true)
    (po : PySem.W.plainOver K C = true)
    (sa : PySem.W.findIn K (.ref C) "__setattr__" = some (some (.builtin "object.__setattr__")))
    (mk : PySem.W.makesIn K C = true)
    (kc : PySem.W.keepIn K (.ref C) = true)
    (n_price : PySem.W.findIn K (.ref C) "price" = some none)
    (n_wet : PySem.W.findIn K (.ref C) "wet" = some none)
    (n_most : PySem.W.findIn K (.ref C) "most" = some none)
    (n_stock : PySem.W.findIn K (.ref C) "stock" = some none)
    (a0 : PySem.W.findIn K (.ref C) "__init__" = some (some (.ref f0)))
    (i0 : PySem.W.isFn K (.ref f0) = true)
    (l0 : K.lookup f0 = some ⟨oc0, od0, .func (PySem.W.fnOf "__init__" "Goods.__init__" (defArgs s_Goods_init) (defBody s_Goods_init) (defScope s_Goods_init) .none kV0 dc0 pm0 an0 cd0 ct0), sl0⟩)
    (c0 : PySem.W.codeIn K cd0 "Goods.__init__" = true)
    (k0 : PySem.W.keepIn K (.ref f0) = true)
    (a1 : PySem.W.findIn K (.ref C) "paid_for" = some (some (.ref f1)))
    (i1 : PySem.W.isFn K (.ref f1) = true)
    (l1 : K.lookup f1 = some ⟨oc1, od1, .func (PySem.W.fnOf "paid_for" "Goods.paid_for" (defArgs s_Goods_paid_for) (defBody s_Goods_paid_for) (defScope s_Goods_paid_for) .none kV1 dc1 pm1 an1 cd1 ct1), sl1⟩)
    (c1 : PySem.W.codeIn K cd1 "Goods.paid_for" = true)
    (k1 : PySem.W.keepIn K (.ref f1) = true)
    (a2 : PySem.W.findIn K (.ref C) "amount_for" = some (some (.ref f2)))
    (i2 : PySem.W.isFn K (.ref f2) = true)
    (l2 : K.lookup f2 = some ⟨oc2, od2, .func (PySem.W.fnOf "amount_for" "Goods.amount_for" (defArgs s_Goods_amount_for) (defBody s_Goods_amount_for) (defScope s_Goods_amount_for) .none kV2 dc2 pm2 an2 cd2 ct2), sl2⟩)
    (c2 : PySem.W.codeIn K cd2 "Goods.amount_for" = true)
    (k2 : PySem.W.keepIn K (.ref f2) = true)
    (a3 : PySem.W.findIn K (.ref C) "room_left" = some (some (.ref f3)))
    (i3 : PySem.W.isFn K (.ref f3) = true)
    (l3 : K.lookup f3 = some ⟨oc3, od3, .func (PySem.W.fnOf "room_left" "Goods.room_left" (defArgs s_Goods_room_left) (defBody s_Goods_room_left) (defScope s_Goods_room_left) .none kV3 dc3 pm3 an3 cd3 ct3), sl3⟩)
    (c3 : PySem.W.codeIn K cd3 "Goods.room_left" = true)
    (k3 : PySem.W.keepIn K (.ref f3) = true)
    (a4 : PySem.W.findIn K (.ref C) "stock_refusal" = some (some (.ref f4)))
    (i4 : PySem.W.isFn K (.ref f4) = true)
    (l4 : K.lookup f4 = some ⟨oc4, od4, .func (PySem.W.fnOf "stock_refusal" "Goods.stock_refusal" (defArgs s_Goods_stock_refusal) (defBody s_Goods_stock_refusal) (defScope s_Goods_stock_refusal) .none kV4 dc4 pm4 an4 cd4 ct4), sl4⟩)
    (c4 : PySem.W.codeIn K cd4 "Goods.stock_refusal" = true)
    (k4 : PySem.W.keepIn K (.ref f4) = true)
    (a5 : PySem.W.findIn K (.ref C) "move" = some (some (.ref f5)))
    (i5 : PySem.W.isFn K (.ref f5) = true)
    (l5 : K.lookup f5 = some ⟨oc5, od5, .func (PySem.W.fnOf "move" "Goods.move" (defArgs s_Goods_move) (defBody s_Goods_move) (defScope s_Goods_move) .none kV5 dc5 pm5 an5 cd5 ct5), sl5⟩)
    (c5 : PySem.W.codeIn K cd5 "Goods.move" = true)
    (k5 : PySem.W.keepIn K (.ref f5) = true) : ∃ C, U_Goods K mg C :=
  ⟨C, ⟨⟨pg, hd, po, sa⟩, PySem.W.mg_of X G aC, n_price, n_wet, n_most, n_stock, mk_init mk kc a0 i0 l0 c0 k0, mk_meth a1 i1 l1 c1 k1, mk_meth a2 i2 l2 c2 k2, mk_meth a3 i3 l3 c3 k3, mk_meth a4 i4 l4 c4 k4, mk_meth a5 i5 l5 c5 k5⟩⟩
structure U_Lorry (K : PySem.W.Frag) (mg : Str → Option Value) (C : Addr) : Prop where
  cl : Cls K C
  mgC : mg "Lorry" = some (.ref C)
  n_axle_most : NoAttr K C "axle_most"
  n_gross_most : NoAttr K C "gross_most"
  n_tares : NoAttr K C "tares"
  n_tare_day : NoAttr K C "tare_day"
  init : HasInit K C "Lorry.__init__" s_Lorry_init
  m_take_tare : HasMeth K C "take_tare" "Lorry.take_tare" s_Lorry_take_tare
  m_last_tare : HasMeth K C "last_tare" "Lorry.last_tare" s_Lorry_last_tare
  m_has_tare : HasMeth K C "has_tare" "Lorry.has_tare" s_Lorry_has_tare
  m_tare_age : HasMeth K C "tare_age" "Lorry.tare_age" s_Lorry_tare_age
  m_has_good_tare : HasMeth K C "has_good_tare" "Lorry.has_good_tare" s_Lorry_has_good_tare
  m_has_two_tares : HasMeth K C "has_two_tares" "Lorry.has_two_tares" s_Lorry_has_two_tares
  m_tare_change : HasMeth K C "tare_change" "Lorry.tare_change" s_Lorry_tare_change
  m_has_odd_tare : HasMeth K C "has_odd_tare" "Lorry.has_odd_tare" s_Lorry_has_odd_tare
  m_gross_above : HasMeth K C "gross_above" "Lorry.gross_above" s_Lorry_gross_above
  m_axle_above : HasMeth K C "axle_above" "Lorry.axle_above" s_Lorry_axle_above
  m_is_too_heavy : HasMeth K C "is_too_heavy" "Lorry.is_too_heavy" s_Lorry_is_too_heavy
  m_gross_left : HasMeth K C "gross_left" "Lorry.gross_left" s_Lorry_gross_left
theorem mk_Lorry {C : Addr} {f0 : Addr} {od0 an0 : Option Addr} {sl0 : Array (Option Value)} {oc0 kV0 dc0 pm0 cd0 ct0 : Value} {f1 : Addr} {od1 an1 : Option Addr} {sl1 : Array (Option Value)} {oc1 kV1 dc1 pm1 cd1 ct1 : Value} {f2 : Addr} {od2 an2 : Option Addr} {sl2 : Array (Option Value)} {oc2 kV2 dc2 pm2 cd2 ct2 : Value} {f3 : Addr} {od3 an3 : Option Addr} {sl3 : Array (Option Value)} {oc3 kV3 dc3 pm3 cd3 ct3 : Value} {f4 : Addr} {od4 an4 : Option Addr} {sl4 : Array (Option Value)} {oc4 kV4 dc4 pm4 cd4 ct4 : Value} {f5 : Addr} {od5 an5 : Option Addr} {sl5 : Array (Option Value)} {oc5 kV5 dc5 pm5 cd5 ct5 : Value} {f6 : Addr} {od6 an6 : Option Addr} {sl6 : Array (Option Value)} {oc6 kV6 dc6 pm6 cd6 ct6 : Value} {f7 : Addr} {od7 an7 : Option Addr} {sl7 : Array (Option Value)} {oc7 kV7 dc7 pm7 cd7 ct7 : Value} {f8 : Addr} {od8 an8 : Option Addr} {sl8 : Array (Option Value)} {oc8 kV8 dc8 pm8 cd8 ct8 : Value} {f9 : Addr} {od9 an9 : Option Addr} {sl9 : Array (Option Value)} {oc9 kV9 dc9 pm9 cd9 ct9 : Value} {f10 : Addr} {od10 an10 : Option Addr} {sl10 : Array (Option Value)} {oc10 kV10 dc10 pm10 cd10 ct10 : Value} {f11 : Addr} {od11 an11 : Option Addr} {sl11 : Array (Option Value)} {oc11 kV11 dc11 pm11 cd11 ct11 : Value} {f12 : Addr} {od12 an12 : Option Addr} {sl12 : Array (Option Value)} {oc12 kV12 dc12 pm12 cd12 ct12 : Value} (X : K.In h) (G : h.Ns mainGlobals mg)
    (aC : PySem.W.nsIn K mainGlobals "Lorry" = some (some (.ref C)))
    (pg : PySem.W.plainGet K C Str.empty = true)
    (hd : PySem.W.hasDictIn K C = true)
    (po : PySem.W.plainOver K C = true)
    (sa : PySem.W.findIn K (.ref C) "__setattr__" = some (some (.builtin "object.__setattr__")))
    (mk : PySem.W.makesIn K C = true)
    (kc : PySem.W.keepIn K (.ref C) = true)
    (n_axle_most : PySem.W.findIn K (.ref C) "axle_most" = some none)
    (n_gross_most : PySem.W.findIn K (.ref C) "gross_most" = some none)
    (n_tares : PySem.W.findIn K (.ref C) "tares" = some none)
    (n_tare_day : PySem.W.findIn K (.ref C) "tare_day" = some none)
    (a0 : PySem.W.findIn K (.ref C) "__init__" = some (some (.ref f0)))
    (i0 : PySem.W.isFn K (.ref f0) = true)
    (l0 : K.lookup f0 = some ⟨oc0, od0, .func (PySem.W.fnOf "__init__" "Lorry.__init__" (defArgs s_Lorry_init) (defBody s_Lorry_init) (defScope s_Lorry_init) .none kV0 dc0 pm0 an0 cd0 ct0), sl0⟩)
    (c0 : PySem.W.codeIn K cd0 "Lorry.__init__" = true)
    (k0 : PySem.W.keepIn K (.ref f0) = true)
    (a1 : PySem.W.findIn K (.ref C) "take_tare" = some (some (.ref f1)))
    (i1 : PySem.W.isFn K (.ref f1) = true)
    (l1 : K.lookup f1 = some ⟨oc1, od1, .func (PySem.W.fnOf "take_tare" "Lorry.take_tare" (defArgs s_Lorry_take_tare) (defBody s_Lorry_take_tare) (defScope s_Lorry_take_tare) .none kV1 dc1 pm1 an1 cd1 ct1), sl1⟩)
    (c1 : PySem.W.codeIn K cd1 "Lorry.take_tare" = true)
    (k1 : PySem.W.keepIn K (.ref f1) = true)
    (a2 : PySem.W.findIn K (.ref C) "last_tare" = some (some (.ref f2)))
    (i2 : PySem.W.isFn K (.ref f2) = true)
    (l2 : K.lookup f2 = some ⟨oc2, od2, .func (PySem.W.fnOf "last_tare" "Lorry.last_tare" (defArgs s_Lorry_last_tare) (defBody s_Lorry_last_tare) (defScope s_Lorry_last_tare) .none kV2 dc2 pm2 an2 cd2 ct2), sl2⟩)
    (c2 : PySem.W.codeIn K cd2 "Lorry.last_tare" = true)
    (k2 : PySem.W.keepIn K (.ref f2) = true)
    (a3 : PySem.W.findIn K (.ref C) "has_tare" = some (some (.ref f3)))
    (i3 : PySem.W.isFn K (.ref f3) = true)
    (l3 : K.lookup f3 = some ⟨oc3, od3, .func (PySem.W.fnOf "has_tare" "Lorry.has_tare" (defArgs s_Lorry_has_tare) (defBody s_Lorry_has_tare) (defScope s_Lorry_has_tare) .none kV3 dc3 pm3 an3 cd3 ct3), sl3⟩)
    (c3 : PySem.W.codeIn K cd3 "Lorry.has_tare" = true)
    (k3 : PySem.W.keepIn K (.ref f3) = true)
    (a4 : PySem.W.findIn K (.ref C) "tare_age" = some (some (.ref f4)))
    (i4 : PySem.W.isFn K (.ref f4) = true)
    (l4 : K.lookup f4 = some ⟨oc4, od4, .func (PySem.W.fnOf "tare_age" "Lorry.tare_age" (defArgs s_Lorry_tare_age) (defBody s_Lorry_tare_age) (defScope s_Lorry_tare_age) .none kV4 dc4 pm4 an4 cd4 ct4), sl4⟩)
    (c4 : PySem.W.codeIn K cd4 "Lorry.tare_age" = true)
    (k4 : PySem.W.keepIn K (.ref f4) = true)
    (a5 : PySem.W.findIn K (.ref C) "has_good_tare" = some (some (.ref f5)))
    (i5 : PySem.W.isFn K (.ref f5) = true)
    (l5 : K.lookup f5 = some ⟨oc5, od5, .func (PySem.W.fnOf "has_good_tare" "Lorry.has_good_tare" (defArgs s_Lorry_has_good_tare) (defBody s_Lorry_has_good_tare) (defScope s_Lorry_has_good_tare) .none kV5 dc5 pm5 an5 cd5 ct5), sl5⟩)
    (c5 : PySem.W.codeIn K cd5 "Lorry.has_good_tare" = true)
    (k5 : PySem.W.keepIn K (.ref f5) = true)
    (a6 : PySem.W.findIn K (.ref C) "has_two_tares" = some (some (.ref f6)))
    (i6 : PySem.W.isFn K (.ref f6) = true)
    (l6 : K.lookup f6 = some ⟨oc6, od6, .func (PySem.W.fnOf "has_two_tares" "Lorry.has_two_tares" (defArgs s_Lorry_has_two_tares) (defBody s_Lorry_has_two_tares) (defScope s_Lorry_has_two_tares) .none kV6 dc6 pm6 an6 cd6 ct6), sl6⟩)
    (c6 : PySem.W.codeIn K cd6 "Lorry.has_two_tares" = true)
    (k6 : PySem.W.keepIn K (.ref f6) = true)
    (a7 : PySem.W.findIn K (.ref C) "tare_change" = some (some (.ref f7)))
    (i7 : PySem.W.isFn K (.ref f7) = true)
    (l7 : K.lookup f7 = some ⟨oc7, od7, .func (PySem.W.fnOf "tare_change" "Lorry.tare_change" (defArgs s_Lorry_tare_change) (defBody s_Lorry_tare_change) (defScope s_Lorry_tare_change) .none kV7 dc7 pm7 an7 cd7 ct7), sl7⟩)
    (c7 : PySem.W.codeIn K cd7 "Lorry.tare_change" = true)
    (k7 : PySem.W.keepIn K (.ref f7) = true)
    (a8 : PySem.W.findIn K (.ref C) "has_odd_tare" = some (some (.ref f8)))
    (i8 : PySem.W.isFn K (.ref f8) = true)
    (l8 : K.lookup f8 = some ⟨oc8, od8, .func (PySem.W.fnOf "has_odd_tare" "Lorry.has_odd_tare" (defArgs s_Lorry_has_odd_tare) (defBody s_Lorry_has_odd_tare) (defScope s_Lorry_has_odd_tare) .none kV8 dc8 pm8 an8 cd8 ct8), sl8⟩)
    (c8 : PySem.W.codeIn K cd8 "Lorry.has_odd_tare" = true)
    (k8 : PySem.W.keepIn K (.ref f8) = true)
    (a9 : PySem.W.findIn K (.ref C) "gross_above" = some (some (.ref f9)))
    (i9 : PySem.W.isFn K (.ref f9) = true)
    (l9 : K.lookup f9 = some ⟨oc9, od9, .func (PySem.W.fnOf "gross_above" "Lorry.gross_above" (defArgs s_Lorry_gross_above) (defBody s_Lorry_gross_above) (defScope s_Lorry_gross_above) .none kV9 dc9 pm9 an9 cd9 ct9), sl9⟩)
    (c9 : PySem.W.codeIn K cd9 "Lorry.gross_above" = true)
    (k9 : PySem.W.keepIn K (.ref f9) = true)
    (a10 : PySem.W.findIn K (.ref C) "axle_above" = some (some (.ref f10)))
    (i10 : PySem.W.isFn K (.ref f10) = true)
    (l10 : K.lookup f10 = some ⟨oc10, od10, .func (PySem.W.fnOf "axle_above" "Lorry.axle_above" (defArgs s_Lorry_axle_above) (defBody s_Lorry_axle_above) (defScope s_Lorry_axle_above) .none kV10 dc10 pm10 an10 cd10 ct10), sl10⟩)
    (c10 : PySem.W.codeIn K cd10 "Lorry.axle_above" = true)
    (k10 : PySem.W.keepIn K (.ref f10) = true)
    (a11 : PySem.W.findIn K (.ref C) "is_too_heavy" = some (some (.ref f11)))
    (i11 : PySem.W.isFn K (.ref f11) = true)
    (l11 : K.lookup f11 = some ⟨oc11, od11, .func (PySem.W.fnOf "is_too_heavy" "Lorry.is_too_heavy" (defArgs s_Lorry_is_too_heavy) (defBody s_Lorry_is_too_heavy) (defScope s_Lorry_is_too_heavy) .none kV11 dc11 pm11 an11 cd11 ct11), sl11⟩)
    (c11 : PySem.W.codeIn K cd11 "Lorry.is_too_heavy" = true)
    (k11 : PySem.W.keepIn K (.ref f11) = true)
    (a12 : PySem.W.findIn K (.ref C) "gross_left" = some (some (.ref f12)))
    (i12 : PySem.W.isFn K (.ref f12) = true)
    (l12 : K.lookup f12 = some ⟨oc12, od12, .func (PySem.W.fnOf "gross_left" "Lorry.gross_left" (defArgs s_Lorry_gross_left) (defBody s_Lorry_gross_left) (defScope s_Lorry_gross_left) .none kV12 dc12 pm12 an12 cd12 ct12), sl12⟩)
    (c12 : PySem.W.codeIn K cd12 "Lorry.gross_left" = true)
    (k12 : PySem.W.keepIn K (.ref f12) = true) : ∃ C, U_Lorry K mg C :=
  ⟨C, ⟨⟨pg, hd, po, sa⟩, PySem.W.mg_of X G aC, n_axle_most, n_gross_most, n_tares, n_tare_day, mk_init mk kc a0 i0 l0 c0 k0, mk_meth a1 i1 l1 c1 k1, mk_meth a2 i2 l2 c2 k2, mk_meth a3 i3 l3 c3 k3, mk_meth a4 i4 l4 c4 k4, mk_meth a5 i5 l5 c5 k5, mk_meth a6 i6 l6 c6 k6, mk_meth a7 i7 l7 c7 k7, mk_meth a8 i8 l8 c8 k8, mk_meth a9 i9 l9 c9 k9, mk_meth a10 i10 l10 c10 k10, mk_meth a11 i11 l11 c11 k11, mk_meth a12 i12 l12 c12 k12⟩⟩
structure U_Yard (K : PySem.W.Frag) (mg : Str → Option Value) (C : Addr) : Prop where
  cl : Cls K C
  mgC : mg "Yard" = some (.ref C)
  n_plate : NoAttr K C "plate"
  n_room : NoAttr K C "room"
  n_good : NoAttr K C "good"
  n_day : NoAttr K C "day"
  n_kinds : NoAttr K C "kinds"
  n_lorries : NoAttr K C "lorries"
  n_tickets : NoAttr K C "tickets"
  init : HasInit K C "Yard.__init__" s_Yard_init
  m_has_kind : HasMeth K C "has_kind" "Yard.has_kind" s_Yard_has_kind
  m_has_lorry : HasMeth K C "has_lorry" "Yard.has_lorry" s_Yard_has_lorry
  m_has_ticket : HasMeth K C "has_ticket" "Yard.has_ticket" s_Yard_has_ticket
  m_tickets_in : HasMeth K C "tickets_in" "Yard.tickets_in" s_Yard_tickets_in
  m_lorries_there : HasMeth K C "lorries_there" "Yard.lorries_there" s_Yard_lorries_there
  m_is_full : HasMeth K C "is_full" "Yard.is_full" s_Yard_is_full
  m_is_out_of_tickets : HasMeth K C "is_out_of_tickets" "Yard.is_out_of_tickets" s_Yard_is_out_of_tickets
theorem mk_Yard {C : Addr} {f0 : Addr} {od0 an0 : Option Addr} {sl0 : Array (Option Value)} {oc0 kV0 dc0 pm0 cd0 ct0 : Value} {f1 : Addr} {od1 an1 : Option Addr} {sl1 : Array (Option Value)} {oc1 kV1 dc1 pm1 cd1 ct1 : Value} {f2 : Addr} {od2 an2 : Option Addr} {sl2 : Array (Option Value)} {oc2 kV2 dc2 pm2 cd2 ct2 : Value} {f3 : Addr} {od3 an3 : Option Addr} {sl3 : Array (Option Value)} {oc3 kV3 dc3 pm3 cd3 ct3 : Value} {f4 : Addr} {od4 an4 : Option Addr} {sl4 : Array (Option Value)} {oc4 kV4 dc4 pm4 cd4 ct4 : Value} {f5 : Addr} {od5 an5 : Option Addr} {sl5 : Array (Option Value)} {oc5 kV5 dc5 pm5 cd5 ct5 : Value} {f6 : Addr} {od6 an6 : Option Addr} {sl6 : Array (Option Value)} {oc6 kV6 dc6 pm6 cd6 ct6 : Value} {f7 : Addr} {od7 an7 : Option Addr} {sl7 : Array (Option Value)} {oc7 kV7 dc7 pm7 cd7 ct7 : Value} (X : K.In h) (G : h.Ns mainGlobals mg)
    (aC : PySem.W.nsIn K mainGlobals "Yard" = some (some (.ref C)))
    (pg : PySem.W.plainGet K C Str.empty = true)
    (hd : PySem.W.hasDictIn K C = true)
    (po : PySem.W.plainOver K C = true)
    (sa : PySem.W.findIn K (.ref C) "__setattr__" = some (some (.builtin "object.__setattr__")))
    (mk : PySem.W.makesIn K C = true)
    (kc : PySem.W.keepIn K (.ref C) = true)
    (n_plate : PySem.W.findIn K (.ref C) "plate" = some none)
    (n_room : PySem.W.findIn K (.ref C) "room" = some none)
    (n_good : PySem.W.findIn K (.ref C) "good" = some none)
    (n_day : PySem.W.findIn K (.ref C) "day" = some none)
    (n_kinds : PySem.W.findIn K (.ref C) "kinds" = some none)
    (n_lorries : PySem.W.findIn K (.ref C) "lorries" = some none)
    (n_tickets : PySem.W.findIn K (.ref C) "tickets" = some none)
    (a0 : PySem.W.findIn K (.ref C) "__init__" = some (some (.ref f0)))
    (i0 : PySem.W.isFn K (.ref f0) = true)
    (l0 : K.lookup f0 = some ⟨oc0, od0, .func (PySem.W.fnOf "__init__" "Yard.__init__" (defArgs s_Yard_init) (defBody s_Yard_init) (defScope s_Yard_init) .none kV0 dc0 pm0 an0 cd0 ct0), sl0⟩)
    (c0 : PySem.W.codeIn K cd0 "Yard.__init__" = true)
    (k0 : PySem.W.keepIn K (.ref f0) = true)
    (a1 : PySem.W.findIn K (.ref C) "has_kind" = some (some (.ref f1)))
    (i1 : PySem.W.isFn K (.ref f1) = true)
    (l1 : K.lookup f1 = some ⟨oc1, od1, .func (PySem.W.fnOf "has_kind" "Yard.has_kind" (defArgs s_Yard_has_kind) (defBody s_Yard_has_kind) (defScope s_Yard_has_kind) .none kV1 dc1 pm1 an1 cd1 ct1), sl1⟩)
    (c1 : PySem.W.codeIn K cd1 "Yard.has_kind" = true)
    (k1 : PySem.W.keepIn K (.ref f1) = true)
    (a2 : PySem.W.findIn K (.ref C) "has_lorry" = some (some (.ref f2)))
    (i2 : PySem.W.isFn K (.ref f2) = true)
    (l2 : K.lookup f2 = some ⟨oc2, od2, .func (PySem.W.fnOf "has_lorry" "Yard.has_lorry" (defArgs s_Yard_has_lorry) (defBody s_Yard_has_lorry) (defScope s_Yard_has_lorry) .none kV2 dc2 pm2 an2 cd2 ct2), sl2⟩)
    (c2 : PySem.W.codeIn K cd2 "Yard.has_lorry" = true)
    (k2 : PySem.W.keepIn K (.ref f2) = true)
    (a3 : PySem.W.findIn K (.ref C) "has_ticket" = some (some (.ref f3)))
    (i3 : PySem.W.isFn K (.ref f3) = true)
    (l3 : K.lookup f3 = some ⟨oc3, od3, .func (PySem.W.fnOf "has_ticket" "Yard.has_ticket" (defArgs s_Yard_has_ticket) (defBody s_Yard_has_ticket) (defScope s_Yard_has_ticket) .none kV3 dc3 pm3 an3 cd3 ct3), sl3⟩)
    (c3 : PySem.W.codeIn K cd3 "Yard.has_ticket" = true)
    (k3 : PySem.W.keepIn K (.ref f3) = true)
    (a4 : PySem.W.findIn K (.ref C) "tickets_in" = some (some (.ref f4)))
    (i4 : PySem.W.isFn K (.ref f4) = true)
    (l4 : K.lookup f4 = some ⟨oc4, od4, .func (PySem.W.fnOf "tickets_in" "Yard.tickets_in" (defArgs s_Yard_tickets_in) (defBody s_Yard_tickets_in) (defScope s_Yard_tickets_in) .none kV4 dc4 pm4 an4 cd4 ct4), sl4⟩)
    (c4 : PySem.W.codeIn K cd4 "Yard.tickets_in" = true)
    (k4 : PySem.W.keepIn K (.ref f4) = true)
    (a5 : PySem.W.findIn K (.ref C) "lorries_there" = some (some (.ref f5)))
    (i5 : PySem.W.isFn K (.ref f5) = true)
    (l5 : K.lookup f5 = some ⟨oc5, od5, .func (PySem.W.fnOf "lorries_there" "Yard.lorries_there" (defArgs s_Yard_lorries_there) (defBody s_Yard_lorries_there) (defScope s_Yard_lorries_there) .none kV5 dc5 pm5 an5 cd5 ct5), sl5⟩)
    (c5 : PySem.W.codeIn K cd5 "Yard.lorries_there" = true)
    (k5 : PySem.W.keepIn K (.ref f5) = true)
    (a6 : PySem.W.findIn K (.ref C) "is_full" = some (some (.ref f6)))
    (i6 : PySem.W.isFn K (.ref f6) = true)
    (l6 : K.lookup f6 = some ⟨oc6, od6, .func (PySem.W.fnOf "is_full" "Yard.is_full" (defArgs s_Yard_is_full) (defBody s_Yard_is_full) (defScope s_Yard_is_full) .none kV6 dc6 pm6 an6 cd6 ct6), sl6⟩)
    (c6 : PySem.W.codeIn K cd6 "Yard.is_full" = true)
    (k6 : PySem.W.keepIn K (.ref f6) = true)
    (a7 : PySem.W.findIn K (.ref C) "is_out_of_tickets" = some (some (.ref f7)))
    (i7 : PySem.W.isFn K (.ref f7) = true)
    (l7 : K.lookup f7 = some ⟨oc7, od7, .func (PySem.W.fnOf "is_out_of_tickets" "Yard.is_out_of_tickets" (defArgs s_Yard_is_out_of_tickets) (defBody s_Yard_is_out_of_tickets) (defScope s_Yard_is_out_of_tickets) .none kV7 dc7 pm7 an7 cd7 ct7), sl7⟩)
    (c7 : PySem.W.codeIn K cd7 "Yard.is_out_of_tickets" = true)
    (k7 : PySem.W.keepIn K (.ref f7) = true) : ∃ C, U_Yard K mg C :=
  ⟨C, ⟨⟨pg, hd, po, sa⟩, PySem.W.mg_of X G aC, n_plate, n_room, n_good, n_day, n_kinds, n_lorries, n_tickets, mk_init mk kc a0 i0 l0 c0 k0, mk_meth a1 i1 l1 c1 k1, mk_meth a2 i2 l2 c2 k2, mk_meth a3 i3 l3 c3 k3, mk_meth a4 i4 l4 c4 k4, mk_meth a5 i5 l5 c5 k5, mk_meth a6 i6 l6 c6 k6, mk_meth a7 i7 l7 c7 k7⟩⟩
structure U_Line (K : PySem.W.Frag) (mg : Str → Option Value) (C : Addr) : Prop where
  cl : Cls K C
  mgC : mg "Line" = some (.ref C)
  n_yard : NoAttr K C "yard"
  init : HasInit K C "Line.__init__" s_Line_init
  m_begin : HasMeth K C "begin" "Line.begin" s_Line_begin
theorem mk_Line {C : Addr} {f0 : Addr} {od0 an0 : Option Addr} {sl0 : Array (Option Value)} {oc0 kV0 dc0 pm0 cd0 ct0 : Value} {f1 : Addr} {od1 an1 : Option Addr} {sl1 : Array (Option Value)} {oc1 kV1 dc1 pm1 cd1 ct1 : Value} (X : K.In h) (G : h.Ns mainGlobals mg)
    (aC : PySem.W.nsIn K mainGlobals "Line" = some (some (.ref C)))
    (pg : PySem.W.plainGet K C Str.empty = true)
    (hd : PySem.W.hasDictIn K C = true)
    (po : PySem.W.plainOver K C = true)
    (sa : PySem.W.findIn K (.ref C) "__setattr__" = some (some (.builtin "object.__setattr__")))
    (mk : PySem.W.makesIn K C = true)
    (kc : PySem.W.keepIn K (.ref C) = true)
    (n_yard : PySem.W.findIn K (.ref C) "yard" = some none)
    (a0 : PySem.W.findIn K (.ref C) "__init__" = some (some (.ref f0)))
    (i0 : PySem.W.isFn K (.ref f0) = true)
    (l0 : K.lookup f0 = some ⟨oc0, od0, .func (PySem.W.fnOf "__init__" "Line.__init__" (defArgs s_Line_init) (defBody s_Line_init) (defScope s_Line_init) .none kV0 dc0 pm0 an0 cd0 ct0), sl0⟩)
    (c0 : PySem.W.codeIn K cd0 "Line.__init__" = true)
    (k0 : PySem.W.keepIn K (.ref f0) = true)
    (a1 : PySem.W.findIn K (.ref C) "begin" = some (some (.ref f1)))
    (i1 : PySem.W.isFn K (.ref f1) = true)
    (l1 : K.lookup f1 = some ⟨oc1, od1, .func (PySem.W.fnOf "begin" "Line.begin" (defArgs s_Line_begin) (defBody s_Line_begin) (defScope s_Line_begin) .none kV1 dc1 pm1 an1 cd1 ct1), sl1⟩)
    (c1 : PySem.W.codeIn K cd1 "Line.begin" = true)
    (k1 : PySem.W.keepIn K (.ref f1) = true) : ∃ C, U_Line K mg C :=
  ⟨C, ⟨⟨pg, hd, po, sa⟩, PySem.W.mg_of X G aC, n_yard, mk_init mk kc a0 i0 l0 c0 k0, mk_meth a1 i1 l1 c1 k1⟩⟩
end
structure Cs where
  Plate : Addr
  Ticket : Addr
  Goods : Addr
  Lorry : Addr
  Yard : Addr
  Line : Addr
structure Txt (K : PySem.W.Frag) (mg : Str → Option Value) (cs : Cs) : Prop where
  Plate : U_Plate K mg cs.Plate
  Ticket : U_Ticket K mg cs.Ticket
  Goods : U_Goods K mg cs.Goods
  Lorry : U_Lorry K mg cs.Lorry
  Yard : U_Yard K mg cs.Yard
  Line : U_Line K mg cs.Line
  f_tell_tare : HasFun K mg "tell_tare" s_tell_tare
  f_tell_odd : HasFun K mg "tell_odd" s_tell_odd
  f_weighed_refusal : HasFun K mg "weighed_refusal" s_weighed_refusal
  f_tell_excess : HasFun K mg "tell_excess" s_tell_excess
  f_tell_fits : HasFun K mg "tell_fits" s_tell_fits
  f_begin_in_range : HasFun K mg "begin_in_range" s_begin_in_range
  f_add_kind : HasFun K mg "add_kind" s_add_kind
  f_add_lorry : HasFun K mg "add_lorry" s_add_lorry
  f_pass_days : HasFun K mg "pass_days" s_pass_days
  f_tell_dry : HasFun K mg "tell_dry" s_tell_dry
  f_tell_yard : HasFun K mg "tell_yard" s_tell_yard
  f_tell_ticket : HasFun K mg "tell_ticket" s_tell_ticket
  f_tell_stock : HasFun K mg "tell_stock" s_tell_stock
  f_tell_enough : HasFun K mg "tell_enough" s_tell_enough
  f_done_tickets : HasFun K mg "done_tickets" s_done_tickets
  f_tell_totals : HasFun K mg "tell_totals" s_tell_totals
  f_tell_trips : HasFun K mg "tell_trips" s_tell_trips
  f_all_amounts : HasFun K mg "all_amounts" s_all_amounts
  f_tell_money : HasFun K mg "tell_money" s_tell_money
  f_tell_heaviest : HasFun K mg "tell_heaviest" s_tell_heaviest
  f_tell_sums : HasFun K mg "tell_sums" s_tell_sums
  f_tell_state : HasFun K mg "tell_state" s_tell_state
  f_coming_refusal : HasFun K mg "coming_refusal" s_coming_refusal
  f_arrive_refusal : HasFun K mg "arrive_refusal" s_arrive_refusal
  f_arrive : HasFun K mg "arrive" s_arrive
  f_is_too_heavy_now : HasFun K mg "is_too_heavy_now" s_is_too_heavy_now
  f_settling_refusal : HasFun K mg "settling_refusal" s_settling_refusal
  f_settle : HasFun K mg "settle" s_settle
  f_standing_refusal : HasFun K mg "standing_refusal" s_standing_refusal
  f_leave_refusal : HasFun K mg "leave_refusal" s_leave_refusal
  f_leave : HasFun K mg "leave" s_leave
  f_net_above_tare : HasFun K mg "net_above_tare" s_net_above_tare
  f_quick_refusal : HasFun K mg "quick_refusal" s_quick_refusal
  f_quick : HasFun K mg "quick" s_quick
  f_cancel : HasFun K mg "cancel" s_cancel
  f_set_errors : HasFun K mg "set_errors" s_set_errors
  f_put_on : HasFun K mg "put_on" s_put_on
  f_take_off : HasFun K mg "take_off" s_take_off
  f_show_reading : HasFun K mg "show_reading" s_show_reading
  f_set_zero : HasFun K mg "set_zero" s_set_zero
  f_try_weight : HasFun K mg "try_weight" s_try_weight
  f_ask_plate : HasFun K mg "ask_plate" s_ask_plate
  f_ask_yard : HasFun K mg "ask_yard" s_ask_yard
  f_look_up : HasFun K mg "look_up" s_look_up
  f_ask : HasFun K mg "ask" s_ask
  f_end_of_call : HasFun K mg "end_of_call" s_end_of_call
  f_answers : HasFun K mg "answers" s_answers
  g_NONE_SUCH : HasInt mg "NONE_SUCH" (-2)
  g_NOTHING_THERE : HasInt mg "NOTHING_THERE" (-6)
  g_NOT_BEGUN : HasInt mg "NOT_BEGUN" (-11)
  g_SHOWS_NOTHING : HasInt mg "SHOWS_NOTHING" (-12)
  g_FULL : HasInt mg "FULL" (-13)
  g_NOT_NOW : HasInt mg "NOT_NOW" (-16)
  g_ALREADY : HasInt mg "ALREADY" (-17)
  g_OUT_OF_RANGE : HasInt mg "OUT_OF_RANGE" (-22)
  g_TOO_MUCH : HasInt mg "TOO_MUCH" (-28)
  g_NOT_SO_MUCH : HasInt mg "NOT_SO_MUCH" (-33)
  g_TOO_HEAVY : HasInt mg "TOO_HEAVY" (-40)
  g_NOTHING_NET : HasInt mg "NOTHING_NET" (-44)
  g_NO_GOOD_TARE : HasInt mg "NO_GOOD_TARE" (-61)
  g_NO_ROOM : HasInt mg "NO_ROOM" (-75)
  g_FINE : HasInt mg "FINE" (0)
  g_STEPS_ABOVE : HasInt mg "STEPS_ABOVE" (9)
  g_FINE_STEPS : HasInt mg "FINE_STEPS" (500)
  g_MIDDLE_STEPS : HasInt mg "MIDDLE_STEPS" (2000)
  g_BRINGS : HasInt mg "BRINGS" (0)
  g_FETCHES : HasInt mg "FETCHES" (1)
  g_ON_YARD : HasInt mg "ON_YARD" (0)
  g_DONE : HasInt mg "DONE" (1)
  g_CALLED_OFF : HasInt mg "CALLED_OFF" (2)
  g_MOST_TICKETS : HasInt mg "MOST_TICKETS" (60)
  g_MOST_KINDS : HasInt mg "MOST_KINDS" (6)
  g_MOST_MOIST : HasInt mg "MOST_MOIST" (100)
  g_MOST_LORRIES : HasInt mg "MOST_LORRIES" (12)
  g_TARES_KEPT : HasInt mg "TARES_KEPT" (2)
  g_ALIKE_HUNDREDTHS : HasInt mg "ALIKE_HUNDREDTHS" (2)
  g_MOST_NET : HasInt mg "MOST_NET" (1000000)
  g_MOST_AXLES : HasInt mg "MOST_AXLES" (6)
  g_MOST_ON_AXLE : HasInt mg "MOST_ON_AXLE" (50000)
  g_ZERO_PART : HasInt mg "ZERO_PART" (50)
  g_BEGIN : HasInt mg "BEGIN" (0)
  g_KIND : HasInt mg "KIND" (1)
  g_LORRY : HasInt mg "LORRY" (2)
  g_DRIFT : HasInt mg "DRIFT" (3)
  g_ON : HasInt mg "ON" (4)
  g_OFF : HasInt mg "OFF" (5)
  g_SHOW : HasInt mg "SHOW" (6)
  g_ZERO : HasInt mg "ZERO" (7)
  g_TEST : HasInt mg "TEST" (8)
  g_ARRIVE : HasInt mg "ARRIVE" (10)
  g_LEAVE : HasInt mg "LEAVE" (11)
  g_QUICK : HasInt mg "QUICK" (12)
  g_CANCEL : HasInt mg "CANCEL" (13)
  g_DAYS : HasInt mg "DAYS" (14)
  g_TARE : HasInt mg "TARE" (15)
  g_ODD : HasInt mg "ODD" (16)
  g_EXCESS : HasInt mg "EXCESS" (17)
  g_FITS : HasInt mg "FITS" (18)
  g_DRY : HasInt mg "DRY" (19)
  g_YARD : HasInt mg "YARD" (20)
  g_LOOK : HasInt mg "LOOK" (21)
  g_STOCK : HasInt mg "STOCK" (22)
  g_ENOUGH : HasInt mg "ENOUGH" (23)
  g_TOTALS : HasInt mg "TOTALS" (24)
  g_TRIPS : HasInt mg "TRIPS" (25)
  g_MONEY : HasInt mg "MONEY" (26)
  g_HEAVIEST : HasInt mg "HEAVIEST" (27)
  g_SUMS : HasInt mg "SUMS" (28)
  g_WIDTHS : HasTup K mg "WIDTHS" [4, 3, 2, 2, 1, 0, 0, 0, 1, 1, 3, 2, 4, 1, 1, 1, 1, 1, 1, 3, 0, 1, 1, 2, 1, 1, 0, 0, 0, 0]
  b_abs : mg "abs" = none
  b_enumerate : mg "enumerate" = none
  b_len : mg "len" = none
  b_list : mg "list" = none
  b_max : mg "max" = none
  b_min : mg "min" = none
  b_sum : mg "sum" = none
end Wb

end
section
set_option Elab.async false
set_option linter.all false
set_option maxRecDepth 100000
set_option maxHeartbeats 4000000
/-! Short rules over the layer: a def with its promise, its calls; the names of the top; the fields. -/
namespace Wb
open PySem PySem.Spec PyProof.Rows L2
/-- a def of the top keeps its promise, in k turns of depth -/
def FOk (P : Program) (w : World) (K : PySem.W.Frag) (mg : Str → Option Value) (base : Heap) (k : Nat) (x : Str) (ps : List Str) (sp : Sp) : Prop :=
  ∃ f fd, mg x = some (.ref f) ∧ PySem.W.keepIn K (.ref f) = true ∧ Binds K fd ps [] ∧ FnOk P w K mg base CX0 k f fd ps sp
def MOk (P : Program) (w : World) (K : PySem.W.Frag) (mg : Str → Option Value) (base : Heap) (k : Nat) (C : Addr) (m : Str) (ps : List Str) (sp : Sp) : Prop :=
  ∃ f fd, Meth K C m f ∧ Binds K fd ps [] ∧ FnOk P w K mg base CX0 k f fd ps sp
def IOk (P : Program) (w : World) (K : PySem.W.Frag) (mg : Str → Option Value) (base : Heap) (k : Nat) (C : Addr) (ps : List Str) (sp : Sp) : Prop :=
  ∃ f fd, Mk K C f ∧ Binds K fd ps [] ∧ FnOk P w K mg base CX0 k f fd ps sp
section
variable {P : Program} {w : World} {K : PySem.W.Frag} {mg : Str → Option Value} {base : Heap}
/-- how a def of so many plain parameters binds -/
def BindsAll (x qual : Str) (st : Stmt) (ps : List Str) : Prop :=
  ∀ (kV doc pm : Value) (an : Option Addr) (cdv ct : Value) (us : List Value), us.length = ps.length → bindArgs (PySem.W.fnOf x qual (defArgs st) (defBody st) (defScope st) .none kV doc pm an cdv ct) ⟨us, []⟩ = pure (ps.zip us)
/-- what is to be shown of a body -/
def Body (P : Program) (w : World) (K : PySem.W.Frag) (mg : Str → Option Value) (base : Heap) (N : List Str) (qual : Str) (st : Stmt) (k : Nat) (sp : Sp) : Prop :=
  ∀ (f : Addr) (cdv : Value) (A : Around) (outer : List Env) (s : Shared) (H : Hp) (vs : List V) (Q : VK) (E : XK), Room k (A.deeper (envOfC qual (defScope st) s.heap.objs.size f cdv)) → sp vs H Q E →
      ∃ t, PSs (cxOf CX0 P w K mg base N qual (defScope st) f cdv A outer s H E).nox (defBody st) t ∧ t { nx := fun _ H' => Q .non H', rt := Q } (start N vs) H
theorem HasFun.ok {x : Str} {st : Stmt} {N ps : List Str} {k : Nat} {sp : Sp} (h : HasFun K mg x st) (S : FnScope N ps (defScope st)) (B : BindsAll x x st ps) (len : ∀ vs H Q E, sp vs H Q E → vs.length = ps.length)
    (b : Body P w K mg base N x st k sp) : FOk P w K mg base (k + 1) x ps sp := by
  obtain ⟨f, fd, hm, F⟩ := h.ex
  exact ⟨f, fd, hm, F.kp, F.binds B, F.ok S len fun cdv A outer s H vs Q E hr h => b f cdv A outer s H vs Q E hr h⟩
theorem HasMeth.ok {C : Addr} {x qual : Str} {st : Stmt} {N ps : List Str} {k : Nat} {sp : Sp} (h : HasMeth K C x qual st) (S : FnScope N ps (defScope st)) (B : BindsAll x qual st ps) (len : ∀ vs H Q E, sp vs H Q E → vs.length = ps.length)
    (b : Body P w K mg base N qual st k sp) : MOk P w K mg base (k + 1) C x ps sp := by
  obtain ⟨f, fd, hm, F⟩ := h.ex
  exact ⟨f, fd, hm, F.binds B, F.ok S len fun cdv A outer s H vs Q E hr h => b f cdv A outer s H vs Q E hr h⟩
theorem HasInit.ok {C : Addr} {qual : Str} {st : Stmt} {N ps : List Str} {k : Nat} {sp : Sp} (h : HasInit K C qual st) (S : FnScope N ps (defScope st)) (B : BindsAll "__init__" qual st ps) (len : ∀ vs H Q E, sp vs H Q E → vs.length = ps.length)
    (b : Body P w K mg base N qual st k sp) : IOk P w K mg base (k + 1) C ps sp := by
  obtain ⟨f, fd, hm, F⟩ := h.ex
  exact ⟨f, fd, hm, F.binds B, F.ok S len fun cdv A outer s H vs Q E hr h => b f cdv A outer s H vs Q E hr h⟩
end
section
variable {X : Cx} {k : Nat} {C : Addr} {ps : List Str} {sp : Sp} {x m : Str} {p pos apos : Pos} {e o : Expr} {es : List Expr} {ta : TE} {t : TA}
theorem pf (F : FOk X.prog X.w X.K X.mg X.base k x ps sp) (hr : Room k X.A) (ha : PA X (e :: es) t) (hg : Gl X x := by rfl) (hdb : (x == ("__debug__" : Str)) = false := by decide)
    (he : starEach (e :: es) X.env = (false, eval e X.env) :: starEach es X.env := by rfl) (hpl : (backTo pos (starEach es X.env)).any (·.1) = false := by rfl) :
    PE X (.Call (.Name x p) (e :: es) [] pos) (tCall sp [] E0 t) := by
  obtain ⟨f, fd, hm, hk, hb, F⟩ := F
  exact pe_call F hr hg hm hk hb .nil pass0 ha hdb he hpl
theorem pm {pl : Sem Bool} (he : PE X o ta) (c : Cls X.K C) (F : MOk X.prog X.w X.K X.mg X.base k C m ps sp) (hr : Room k X.A) (ha : PA X (e :: es) t)
    (hst : starEach (e :: es) X.env = (false, eval e X.env) :: starEach es X.env := by rfl) (hpl : (backTo pos (starEach es X.env)).any (·.1) = false := by rfl)
    (ht : eval (.Call (.Attribute o m apos) (e :: es) [] pos) X.env = (do
      let ov ← eval o X.env
      standAt apos.atName
      let (f, first) ← holding [ov] (getMethod ov m pl)
      callWith pos f first (backTo pos (starEach (e :: es) X.env)) (backToKw pos (keywordEach [] X.env))) := by rfl) :
    PE X (.Call (.Attribute o m apos) (e :: es) [] pos) (tMeth C m sp [] E0 ta t) := by
  obtain ⟨f, fd, hm, hb, F⟩ := F
  exact pe_meth he c hm F hr hb .nil pass0 ha hst hpl ht
theorem pm0 {pl : Sem Bool} (he : PE X o ta) (c : Cls X.K C) (F : MOk X.prog X.w X.K X.mg X.base k C m ps sp) (hr : Room k X.A)
    (ht : eval (.Call (.Attribute o m apos) [] [] pos) X.env = (do
      let ov ← eval o X.env
      standAt apos.atName
      let (f, first) ← holding [ov] (getMethod ov m pl)
      callWith pos f first (backTo pos (starEach [] X.env)) (backToKw pos (keywordEach [] X.env))) := by rfl) :
    PE X (.Call (.Attribute o m apos) [] [] pos) (tMeth C m sp [] E0 ta tNil) := by
  obtain ⟨f, fd, hm, hb, F⟩ := F
  exact pe_meth0 he c hm F hr hb .nil pass0 ht
theorem pk (F : IOk X.prog X.w X.K X.mg X.base k C ps sp) (hr : Room (k + 1) X.A) (hm : X.mg x = some (.ref C)) (ha : PA X (e :: es) t) (hg : Gl X x := by rfl) (hdb : (x == ("__debug__" : Str)) = false := by decide)
    (he : starEach (e :: es) X.env = (false, eval e X.env) :: starEach es X.env := by rfl) (hpl : (backTo pos (starEach es X.env)).any (·.1) = false := by rfl) :
    PE X (.Call (.Name x p) (e :: es) [] pos) (tMake C sp [] E0 t) := by
  obtain ⟨f, fd, hM, hb, F⟩ := F
  exact pe_make hM F hr hg hm hb .nil pass0 ha hdb he hpl
theorem pk0 (F : IOk X.prog X.w X.K X.mg X.base k C ps sp) (hr : Room (k + 1) X.A) (hm : X.mg x = some (.ref C)) (hg : Gl X x := by rfl) (hdb : (x == ("__debug__" : Str)) = false := by decide) :
    PE X (.Call (.Name x p) [] [] pos) (tMake C sp [] E0 tNil) := by
  obtain ⟨f, fd, hM, hb, F⟩ := F
  exact pe_make0 hM F hr hg hm hb .nil pass0 hdb
/-- a name of the top that holds an int -/
theorem pgi {v : Int} (h : HasInt X.mg x v) (hg : Gl X x := by rfl) (hd : (x == ("__debug__" : Str)) = false := by decide) : PE X (.Name x pos) (tC (.int v)) := by
  obtain ⟨u, hm, r⟩ := h.ex
  exact pe_glob hg hm r hd
/-- a name of the top that holds a tuple of ints -/
def tGT (K : PySem.W.Frag) (vs : List Int) : TE := fun _ H Q => ∀ a, SqT K H a (vs.map V.int) → Q (.ref a) H
theorem pgt {vs : List Int} (h : HasTup X.K X.mg x vs) (hg : Gl X x := by rfl) (hd : (x == ("__debug__" : Str)) = false := by decide) : PE X (.Name x pos) (tGT X.K vs) := by
  obtain ⟨a, hm, hs⟩ := h.ex
  intro pins s σ H Q I q
  exact pe_glob (v := .ref a) hg hm rfl hd pins s σ H Q I (q a (hs H))
/-- a built-in def, a built-in kind -/
theorem pb {id : String} {r : List V → Hp → VK → Prop} (hc : CallR X (.builtin id) r) (hm : X.mg x = none) (hv : bootBuiltins x = some (.builtin id)) (ha : PA X (e :: es) t) (hg : Gl X x := by rfl) (hn : x ≠ "__name__" := by decide) (hdb : (x == ("__debug__" : Str)) = false := by decide)
    (he : starEach (e :: es) X.env = (false, eval e X.env) :: starEach es X.env := by rfl) (hpl : (backTo pos (starEach es X.env)).any (·.1) = false := by rfl) : PE X (.Call (.Name x p) (e :: es) [] pos) (tCB r t) :=
  pe_callB hc hg hm hv ha hn hdb he hpl
end
end Wb

end
section
set_option Elab.async false
set_option linter.all false
set_option maxRecDepth 100000
set_option maxHeartbeats 4000000
/-! The scopes of the defs, how their arguments bind. -/
namespace Wb
open PySem PySem.Spec PyProof.Rows L2
theorem ln0 (us : List Value) (h : us.length = 0) : us = [] := by
  match us, h with
  | [], _ => exact rfl
theorem ln1 (us : List Value) (h : us.length = 1) : ∃ a : Value, us = [a] := by
  match us, h with
  | [a], _ => exact ⟨a, rfl⟩
theorem ln2 (us : List Value) (h : us.length = 2) : ∃ a b : Value, us = [a, b] := by
  match us, h with
  | [a, b], _ => exact ⟨a, b, rfl⟩
theorem ln3 (us : List Value) (h : us.length = 3) : ∃ a b c : Value, us = [a, b, c] := by
  match us, h with
  | [a, b, c], _ => exact ⟨a, b, c, rfl⟩
theorem ln4 (us : List Value) (h : us.length = 4) : ∃ a b c d : Value, us = [a, b, c, d] := by
  match us, h with
  | [a, b, c, d], _ => exact ⟨a, b, c, d, rfl⟩
theorem ln5 (us : List Value) (h : us.length = 5) : ∃ a b c d e : Value, us = [a, b, c, d, e] := by
  match us, h with
  | [a, b, c, d, e], _ => exact ⟨a, b, c, d, e, rfl⟩
theorem ln6 (us : List Value) (h : us.length = 6) : ∃ a b c d e f : Value, us = [a, b, c, d, e, f] := by
  match us, h with
  | [a, b, c, d, e, f], _ => exact ⟨a, b, c, d, e, f, rfl⟩
theorem sc_Plate_init : FnScope ["self", "step", "steps"] ["self", "step", "steps"] (defScope s_Plate_init) := ⟨rfl, rfl, rfl, by decide +kernel, rfl, by decide +kernel, by decide +kernel⟩
theorem bd_Plate_init : BindsAll "__init__" "Plate.__init__" s_Plate_init ["self", "step", "steps"] := fun _ _ _ _ _ _ us hl => by
  obtain ⟨_, _, _, rfl⟩ := ln3 us hl
  rfl
theorem sc_Plate_is_empty : FnScope ["self"] ["self"] (defScope s_Plate_is_empty) := ⟨rfl, rfl, rfl, by decide +kernel, rfl, by decide +kernel, by decide +kernel⟩
theorem bd_Plate_is_empty : BindsAll "is_empty" "Plate.is_empty" s_Plate_is_empty ["self"] := fun _ _ _ _ _ _ us hl => by
  obtain ⟨_, rfl⟩ := ln1 us hl
  rfl
theorem sc_Plate_load : FnScope ["self"] ["self"] (defScope s_Plate_load) := ⟨rfl, rfl, rfl, by decide +kernel, rfl, by decide +kernel, by decide +kernel⟩
theorem bd_Plate_load : BindsAll "load" "Plate.load" s_Plate_load ["self"] := fun _ _ _ _ _ _ us hl => by
  obtain ⟨_, rfl⟩ := ln1 us hl
  rfl
theorem sc_Plate_feels : FnScope ["self", "weight"] ["self", "weight"] (defScope s_Plate_feels) := ⟨rfl, rfl, rfl, by decide +kernel, rfl, by decide +kernel, by decide +kernel⟩
theorem bd_Plate_feels : BindsAll "feels" "Plate.feels" s_Plate_feels ["self", "weight"] := fun _ _ _ _ _ _ us hl => by
  obtain ⟨_, _, rfl⟩ := ln2 us hl
  rfl
theorem sc_Plate_shows : FnScope ["self", "weight"] ["self", "weight"] (defScope s_Plate_shows) := ⟨rfl, rfl, rfl, by decide +kernel, rfl, by decide +kernel, by decide +kernel⟩
theorem bd_Plate_shows : BindsAll "shows" "Plate.shows" s_Plate_shows ["self", "weight"] := fun _ _ _ _ _ _ us hl => by
  obtain ⟨_, _, rfl⟩ := ln2 us hl
  rfl
theorem sc_Plate_reading : FnScope ["self"] ["self"] (defScope s_Plate_reading) := ⟨rfl, rfl, rfl, by decide +kernel, rfl, by decide +kernel, by decide +kernel⟩
theorem bd_Plate_reading : BindsAll "reading" "Plate.reading" s_Plate_reading ["self"] := fun _ _ _ _ _ _ us hl => by
  obtain ⟨_, rfl⟩ := ln1 us hl
  rfl
theorem sc_Plate_wrong_with : FnScope ["self", "weight"] ["self", "weight"] (defScope s_Plate_wrong_with) := ⟨rfl, rfl, rfl, by decide +kernel, rfl, by decide +kernel, by decide +kernel⟩
theorem bd_Plate_wrong_with : BindsAll "wrong_with" "Plate.wrong_with" s_Plate_wrong_with ["self", "weight"] := fun _ _ _ _ _ _ us hl => by
  obtain ⟨_, _, rfl⟩ := ln2 us hl
  rfl
theorem sc_Plate_halves_allowed : FnScope ["self", "weight"] ["self", "weight"] (defScope s_Plate_halves_allowed) := ⟨rfl, rfl, rfl, by decide +kernel, rfl, by decide +kernel, by decide +kernel⟩
theorem bd_Plate_halves_allowed : BindsAll "halves_allowed" "Plate.halves_allowed" s_Plate_halves_allowed ["self", "weight"] := fun _ _ _ _ _ _ us hl => by
  obtain ⟨_, _, rfl⟩ := ln2 us hl
  rfl
theorem sc_Plate_may_be_wrong : FnScope ["self", "weight"] ["self", "weight"] (defScope s_Plate_may_be_wrong) := ⟨rfl, rfl, rfl, by decide +kernel, rfl, by decide +kernel, by decide +kernel⟩
theorem bd_Plate_may_be_wrong : BindsAll "may_be_wrong" "Plate.may_be_wrong" s_Plate_may_be_wrong ["self", "weight"] := fun _ _ _ _ _ _ us hl => by
  obtain ⟨_, _, rfl⟩ := ln2 us hl
  rfl
theorem sc_Plate_shows_too_much : FnScope ["self"] ["self"] (defScope s_Plate_shows_too_much) := ⟨rfl, rfl, rfl, by decide +kernel, rfl, by decide +kernel, by decide +kernel⟩
theorem bd_Plate_shows_too_much : BindsAll "shows_too_much" "Plate.shows_too_much" s_Plate_shows_too_much ["self"] := fun _ _ _ _ _ _ us hl => by
  obtain ⟨_, rfl⟩ := ln1 us hl
  rfl
theorem sc_Plate_weighing_refusal : FnScope ["self"] ["self"] (defScope s_Plate_weighing_refusal) := ⟨rfl, rfl, rfl, by decide +kernel, rfl, by decide +kernel, by decide +kernel⟩
theorem bd_Plate_weighing_refusal : BindsAll "weighing_refusal" "Plate.weighing_refusal" s_Plate_weighing_refusal ["self"] := fun _ _ _ _ _ _ us hl => by
  obtain ⟨_, rfl⟩ := ln1 us hl
  rfl
theorem sc_Ticket_init : FnScope ["self", "lorry", "kind", "way", "first"] ["self", "lorry", "kind", "way", "first"] (defScope s_Ticket_init) := ⟨rfl, rfl, rfl, by decide +kernel, rfl, by decide +kernel, by decide +kernel⟩
theorem bd_Ticket_init : BindsAll "__init__" "Ticket.__init__" s_Ticket_init ["self", "lorry", "kind", "way", "first"] := fun _ _ _ _ _ _ us hl => by
  obtain ⟨_, _, _, _, _, rfl⟩ := ln5 us hl
  rfl
theorem sc_Ticket_net_with : FnScope ["self", "second"] ["self", "second"] (defScope s_Ticket_net_with) := ⟨rfl, rfl, rfl, by decide +kernel, rfl, by decide +kernel, by decide +kernel⟩
theorem bd_Ticket_net_with : BindsAll "net_with" "Ticket.net_with" s_Ticket_net_with ["self", "second"] := fun _ _ _ _ _ _ us hl => by
  obtain ⟨_, _, rfl⟩ := ln2 us hl
  rfl
theorem sc_Goods_init : FnScope ["self", "price", "wet", "most"] ["self", "price", "wet", "most"] (defScope s_Goods_init) := ⟨rfl, rfl, rfl, by decide +kernel, rfl, by decide +kernel, by decide +kernel⟩
theorem bd_Goods_init : BindsAll "__init__" "Goods.__init__" s_Goods_init ["self", "price", "wet", "most"] := fun _ _ _ _ _ _ us hl => by
  obtain ⟨_, _, _, _, rfl⟩ := ln4 us hl
  rfl
theorem sc_Goods_paid_for : FnScope ["self", "net", "moist"] ["self", "net", "moist"] (defScope s_Goods_paid_for) := ⟨rfl, rfl, rfl, by decide +kernel, rfl, by decide +kernel, by decide +kernel⟩
theorem bd_Goods_paid_for : BindsAll "paid_for" "Goods.paid_for" s_Goods_paid_for ["self", "net", "moist"] := fun _ _ _ _ _ _ us hl => by
  obtain ⟨_, _, _, rfl⟩ := ln3 us hl
  rfl
theorem sc_Goods_amount_for : FnScope ["self", "paid"] ["self", "paid"] (defScope s_Goods_amount_for) := ⟨rfl, rfl, rfl, by decide +kernel, rfl, by decide +kernel, by decide +kernel⟩
theorem bd_Goods_amount_for : BindsAll "amount_for" "Goods.amount_for" s_Goods_amount_for ["self", "paid"] := fun _ _ _ _ _ _ us hl => by
  obtain ⟨_, _, rfl⟩ := ln2 us hl
  rfl
theorem sc_Goods_room_left : FnScope ["self"] ["self"] (defScope s_Goods_room_left) := ⟨rfl, rfl, rfl, by decide +kernel, rfl, by decide +kernel, by decide +kernel⟩
theorem bd_Goods_room_left : BindsAll "room_left" "Goods.room_left" s_Goods_room_left ["self"] := fun _ _ _ _ _ _ us hl => by
  obtain ⟨_, rfl⟩ := ln1 us hl
  rfl
theorem sc_Goods_stock_refusal : FnScope ["self", "way", "net"] ["self", "way", "net"] (defScope s_Goods_stock_refusal) := ⟨rfl, rfl, rfl, by decide +kernel, rfl, by decide +kernel, by decide +kernel⟩
theorem bd_Goods_stock_refusal : BindsAll "stock_refusal" "Goods.stock_refusal" s_Goods_stock_refusal ["self", "way", "net"] := fun _ _ _ _ _ _ us hl => by
  obtain ⟨_, _, _, rfl⟩ := ln3 us hl
  rfl
theorem sc_Goods_move : FnScope ["self", "way", "net"] ["self", "way", "net"] (defScope s_Goods_move) := ⟨rfl, rfl, rfl, by decide +kernel, rfl, by decide +kernel, by decide +kernel⟩
theorem bd_Goods_move : BindsAll "move" "Goods.move" s_Goods_move ["self", "way", "net"] := fun _ _ _ _ _ _ us hl => by
  obtain ⟨_, _, _, rfl⟩ := ln3 us hl
  rfl
theorem sc_Lorry_init : FnScope ["self", "axle_most", "gross_most"] ["self", "axle_most", "gross_most"] (defScope s_Lorry_init) := ⟨rfl, rfl, rfl, by decide +kernel, rfl, by decide +kernel, by decide +kernel⟩
theorem bd_Lorry_init : BindsAll "__init__" "Lorry.__init__" s_Lorry_init ["self", "axle_most", "gross_most"] := fun _ _ _ _ _ _ us hl => by
  obtain ⟨_, _, _, rfl⟩ := ln3 us hl
  rfl
theorem sc_Lorry_take_tare : FnScope ["self", "weight", "day", "tares"] ["self", "weight", "day"] (defScope s_Lorry_take_tare) := ⟨rfl, rfl, rfl, by decide +kernel, rfl, by decide +kernel, by decide +kernel⟩
theorem bd_Lorry_take_tare : BindsAll "take_tare" "Lorry.take_tare" s_Lorry_take_tare ["self", "weight", "day"] := fun _ _ _ _ _ _ us hl => by
  obtain ⟨_, _, _, rfl⟩ := ln3 us hl
  rfl
theorem sc_Lorry_last_tare : FnScope ["self"] ["self"] (defScope s_Lorry_last_tare) := ⟨rfl, rfl, rfl, by decide +kernel, rfl, by decide +kernel, by decide +kernel⟩
theorem bd_Lorry_last_tare : BindsAll "last_tare" "Lorry.last_tare" s_Lorry_last_tare ["self"] := fun _ _ _ _ _ _ us hl => by
  obtain ⟨_, rfl⟩ := ln1 us hl
  rfl
theorem sc_Lorry_has_tare : FnScope ["self"] ["self"] (defScope s_Lorry_has_tare) := ⟨rfl, rfl, rfl, by decide +kernel, rfl, by decide +kernel, by decide +kernel⟩
theorem bd_Lorry_has_tare : BindsAll "has_tare" "Lorry.has_tare" s_Lorry_has_tare ["self"] := fun _ _ _ _ _ _ us hl => by
  obtain ⟨_, rfl⟩ := ln1 us hl
  rfl
theorem sc_Lorry_tare_age : FnScope ["self", "day"] ["self", "day"] (defScope s_Lorry_tare_age) := ⟨rfl, rfl, rfl, by decide +kernel, rfl, by decide +kernel, by decide +kernel⟩
theorem bd_Lorry_tare_age : BindsAll "tare_age" "Lorry.tare_age" s_Lorry_tare_age ["self", "day"] := fun _ _ _ _ _ _ us hl => by
  obtain ⟨_, _, rfl⟩ := ln2 us hl
  rfl
theorem sc_Lorry_has_good_tare : FnScope ["self", "day", "good"] ["self", "day", "good"] (defScope s_Lorry_has_good_tare) := ⟨rfl, rfl, rfl, by decide +kernel, rfl, by decide +kernel, by decide +kernel⟩
theorem bd_Lorry_has_good_tare : BindsAll "has_good_tare" "Lorry.has_good_tare" s_Lorry_has_good_tare ["self", "day", "good"] := fun _ _ _ _ _ _ us hl => by
  obtain ⟨_, _, _, rfl⟩ := ln3 us hl
  rfl
theorem sc_Lorry_has_two_tares : FnScope ["self"] ["self"] (defScope s_Lorry_has_two_tares) := ⟨rfl, rfl, rfl, by decide +kernel, rfl, by decide +kernel, by decide +kernel⟩
theorem bd_Lorry_has_two_tares : BindsAll "has_two_tares" "Lorry.has_two_tares" s_Lorry_has_two_tares ["self"] := fun _ _ _ _ _ _ us hl => by
  obtain ⟨_, rfl⟩ := ln1 us hl
  rfl
theorem sc_Lorry_tare_change : FnScope ["self"] ["self"] (defScope s_Lorry_tare_change) := ⟨rfl, rfl, rfl, by decide +kernel, rfl, by decide +kernel, by decide +kernel⟩
theorem bd_Lorry_tare_change : BindsAll "tare_change" "Lorry.tare_change" s_Lorry_tare_change ["self"] := fun _ _ _ _ _ _ us hl => by
  obtain ⟨_, rfl⟩ := ln1 us hl
  rfl
theorem sc_Lorry_has_odd_tare : FnScope ["self"] ["self"] (defScope s_Lorry_has_odd_tare) := ⟨rfl, rfl, rfl, by decide +kernel, rfl, by decide +kernel, by decide +kernel⟩
theorem bd_Lorry_has_odd_tare : BindsAll "has_odd_tare" "Lorry.has_odd_tare" s_Lorry_has_odd_tare ["self"] := fun _ _ _ _ _ _ us hl => by
  obtain ⟨_, rfl⟩ := ln1 us hl
  rfl
theorem sc_Lorry_gross_above : FnScope ["self", "weight"] ["self", "weight"] (defScope s_Lorry_gross_above) := ⟨rfl, rfl, rfl, by decide +kernel, rfl, by decide +kernel, by decide +kernel⟩
theorem bd_Lorry_gross_above : BindsAll "gross_above" "Lorry.gross_above" s_Lorry_gross_above ["self", "weight"] := fun _ _ _ _ _ _ us hl => by
  obtain ⟨_, _, rfl⟩ := ln2 us hl
  rfl
theorem sc_Lorry_axle_above : FnScope ["self", "axles"] ["self", "axles"] (defScope s_Lorry_axle_above) := ⟨rfl, rfl, rfl, by decide +kernel, rfl, by decide +kernel, by decide +kernel⟩
theorem bd_Lorry_axle_above : BindsAll "axle_above" "Lorry.axle_above" s_Lorry_axle_above ["self", "axles"] := fun _ _ _ _ _ _ us hl => by
  obtain ⟨_, _, rfl⟩ := ln2 us hl
  rfl
theorem sc_Lorry_is_too_heavy : FnScope ["self", "weight", "axles"] ["self", "weight", "axles"] (defScope s_Lorry_is_too_heavy) := ⟨rfl, rfl, rfl, by decide +kernel, rfl, by decide +kernel, by decide +kernel⟩
theorem bd_Lorry_is_too_heavy : BindsAll "is_too_heavy" "Lorry.is_too_heavy" s_Lorry_is_too_heavy ["self", "weight", "axles"] := fun _ _ _ _ _ _ us hl => by
  obtain ⟨_, _, _, rfl⟩ := ln3 us hl
  rfl
theorem sc_Lorry_gross_left : FnScope ["self", "weight"] ["self", "weight"] (defScope s_Lorry_gross_left) := ⟨rfl, rfl, rfl, by decide +kernel, rfl, by decide +kernel, by decide +kernel⟩
theorem bd_Lorry_gross_left : BindsAll "gross_left" "Lorry.gross_left" s_Lorry_gross_left ["self", "weight"] := fun _ _ _ _ _ _ us hl => by
  obtain ⟨_, _, rfl⟩ := ln2 us hl
  rfl
theorem sc_Yard_init : FnScope ["self", "plate", "room", "good"] ["self", "plate", "room", "good"] (defScope s_Yard_init) := ⟨rfl, rfl, rfl, by decide +kernel, rfl, by decide +kernel, by decide +kernel⟩
theorem bd_Yard_init : BindsAll "__init__" "Yard.__init__" s_Yard_init ["self", "plate", "room", "good"] := fun _ _ _ _ _ _ us hl => by
  obtain ⟨_, _, _, _, rfl⟩ := ln4 us hl
  rfl
theorem sc_Yard_has_kind : FnScope ["self", "number"] ["self", "number"] (defScope s_Yard_has_kind) := ⟨rfl, rfl, rfl, by decide +kernel, rfl, by decide +kernel, by decide +kernel⟩
theorem bd_Yard_has_kind : BindsAll "has_kind" "Yard.has_kind" s_Yard_has_kind ["self", "number"] := fun _ _ _ _ _ _ us hl => by
  obtain ⟨_, _, rfl⟩ := ln2 us hl
  rfl
theorem sc_Yard_has_lorry : FnScope ["self", "number"] ["self", "number"] (defScope s_Yard_has_lorry) := ⟨rfl, rfl, rfl, by decide +kernel, rfl, by decide +kernel, by decide +kernel⟩
theorem bd_Yard_has_lorry : BindsAll "has_lorry" "Yard.has_lorry" s_Yard_has_lorry ["self", "number"] := fun _ _ _ _ _ _ us hl => by
  obtain ⟨_, _, rfl⟩ := ln2 us hl
  rfl
theorem sc_Yard_has_ticket : FnScope ["self", "number"] ["self", "number"] (defScope s_Yard_has_ticket) := ⟨rfl, rfl, rfl, by decide +kernel, rfl, by decide +kernel, by decide +kernel⟩
theorem bd_Yard_has_ticket : BindsAll "has_ticket" "Yard.has_ticket" s_Yard_has_ticket ["self", "number"] := fun _ _ _ _ _ _ us hl => by
  obtain ⟨_, _, rfl⟩ := ln2 us hl
  rfl
theorem sc_Yard_tickets_in : FnScope ["self", "state", "number", "ticket"] ["self", "state"] (defScope s_Yard_tickets_in) := ⟨rfl, rfl, rfl, by decide +kernel, rfl, by decide +kernel, by decide +kernel⟩
theorem bd_Yard_tickets_in : BindsAll "tickets_in" "Yard.tickets_in" s_Yard_tickets_in ["self", "state"] := fun _ _ _ _ _ _ us hl => by
  obtain ⟨_, _, rfl⟩ := ln2 us hl
  rfl
theorem sc_Yard_lorries_there : FnScope ["self", "number"] ["self"] (defScope s_Yard_lorries_there) := ⟨rfl, rfl, rfl, by decide +kernel, rfl, by decide +kernel, by decide +kernel⟩
theorem bd_Yard_lorries_there : BindsAll "lorries_there" "Yard.lorries_there" s_Yard_lorries_there ["self"] := fun _ _ _ _ _ _ us hl => by
  obtain ⟨_, rfl⟩ := ln1 us hl
  rfl
theorem sc_Yard_is_full : FnScope ["self"] ["self"] (defScope s_Yard_is_full) := ⟨rfl, rfl, rfl, by decide +kernel, rfl, by decide +kernel, by decide +kernel⟩
theorem bd_Yard_is_full : BindsAll "is_full" "Yard.is_full" s_Yard_is_full ["self"] := fun _ _ _ _ _ _ us hl => by
  obtain ⟨_, rfl⟩ := ln1 us hl
  rfl
theorem sc_Yard_is_out_of_tickets : FnScope ["self"] ["self"] (defScope s_Yard_is_out_of_tickets) := ⟨rfl, rfl, rfl, by decide +kernel, rfl, by decide +kernel, by decide +kernel⟩
theorem bd_Yard_is_out_of_tickets : BindsAll "is_out_of_tickets" "Yard.is_out_of_tickets" s_Yard_is_out_of_tickets ["self"] := fun _ _ _ _ _ _ us hl => by
  obtain ⟨_, rfl⟩ := ln1 us hl
  rfl
theorem sc_Line_init : FnScope ["self"] ["self"] (defScope s_Line_init) := ⟨rfl, rfl, rfl, by decide +kernel, rfl, by decide +kernel, by decide +kernel⟩
theorem bd_Line_init : BindsAll "__init__" "Line.__init__" s_Line_init ["self"] := fun _ _ _ _ _ _ us hl => by
  obtain ⟨_, rfl⟩ := ln1 us hl
  rfl
theorem sc_Line_begin : FnScope ["self", "step", "steps", "room", "good"] ["self", "step", "steps", "room", "good"] (defScope s_Line_begin) := ⟨rfl, rfl, rfl, by decide +kernel, rfl, by decide +kernel, by decide +kernel⟩
theorem bd_Line_begin : BindsAll "begin" "Line.begin" s_Line_begin ["self", "step", "steps", "room", "good"] := fun _ _ _ _ _ _ us hl => by
  obtain ⟨_, _, _, _, _, rfl⟩ := ln5 us hl
  rfl
theorem sc_tell_tare : FnScope ["yard", "number", "lorry"] ["yard", "number"] (defScope s_tell_tare) := ⟨rfl, rfl, rfl, by decide +kernel, rfl, by decide +kernel, by decide +kernel⟩
theorem bd_tell_tare : BindsAll "tell_tare" "tell_tare" s_tell_tare ["yard", "number"] := fun _ _ _ _ _ _ us hl => by
  obtain ⟨_, _, rfl⟩ := ln2 us hl
  rfl
theorem sc_tell_odd : FnScope ["yard", "number", "lorry"] ["yard", "number"] (defScope s_tell_odd) := ⟨rfl, rfl, rfl, by decide +kernel, rfl, by decide +kernel, by decide +kernel⟩
theorem bd_tell_odd : BindsAll "tell_odd" "tell_odd" s_tell_odd ["yard", "number"] := fun _ _ _ _ _ _ us hl => by
  obtain ⟨_, _, rfl⟩ := ln2 us hl
  rfl
theorem sc_weighed_refusal : FnScope ["yard", "number"] ["yard", "number"] (defScope s_weighed_refusal) := ⟨rfl, rfl, rfl, by decide +kernel, rfl, by decide +kernel, by decide +kernel⟩
theorem bd_weighed_refusal : BindsAll "weighed_refusal" "weighed_refusal" s_weighed_refusal ["yard", "number"] := fun _ _ _ _ _ _ us hl => by
  obtain ⟨_, _, rfl⟩ := ln2 us hl
  rfl
theorem sc_tell_excess : FnScope ["yard", "number", "refusal", "lorry", "weight", "axles"] ["yard", "number"] (defScope s_tell_excess) := ⟨rfl, rfl, rfl, by decide +kernel, rfl, by decide +kernel, by decide +kernel⟩
theorem bd_tell_excess : BindsAll "tell_excess" "tell_excess" s_tell_excess ["yard", "number"] := fun _ _ _ _ _ _ us hl => by
  obtain ⟨_, _, rfl⟩ := ln2 us hl
  rfl
theorem sc_tell_fits : FnScope ["yard", "number", "refusal"] ["yard", "number"] (defScope s_tell_fits) := ⟨rfl, rfl, rfl, by decide +kernel, rfl, by decide +kernel, by decide +kernel⟩
theorem bd_tell_fits : BindsAll "tell_fits" "tell_fits" s_tell_fits ["yard", "number"] := fun _ _ _ _ _ _ us hl => by
  obtain ⟨_, _, rfl⟩ := ln2 us hl
  rfl
theorem sc_begin_in_range : FnScope ["step", "steps", "room", "good"] ["step", "steps", "room", "good"] (defScope s_begin_in_range) := ⟨rfl, rfl, rfl, by decide +kernel, rfl, by decide +kernel, by decide +kernel⟩
theorem bd_begin_in_range : BindsAll "begin_in_range" "begin_in_range" s_begin_in_range ["step", "steps", "room", "good"] := fun _ _ _ _ _ _ us hl => by
  obtain ⟨_, _, _, _, rfl⟩ := ln4 us hl
  rfl
theorem sc_add_kind : FnScope ["yard", "price", "wet", "most"] ["yard", "price", "wet", "most"] (defScope s_add_kind) := ⟨rfl, rfl, rfl, by decide +kernel, rfl, by decide +kernel, by decide +kernel⟩
theorem bd_add_kind : BindsAll "add_kind" "add_kind" s_add_kind ["yard", "price", "wet", "most"] := fun _ _ _ _ _ _ us hl => by
  obtain ⟨_, _, _, _, rfl⟩ := ln4 us hl
  rfl
theorem sc_add_lorry : FnScope ["yard", "axle", "gross"] ["yard", "axle", "gross"] (defScope s_add_lorry) := ⟨rfl, rfl, rfl, by decide +kernel, rfl, by decide +kernel, by decide +kernel⟩
theorem bd_add_lorry : BindsAll "add_lorry" "add_lorry" s_add_lorry ["yard", "axle", "gross"] := fun _ _ _ _ _ _ us hl => by
  obtain ⟨_, _, _, rfl⟩ := ln3 us hl
  rfl
theorem sc_pass_days : FnScope ["yard", "days"] ["yard", "days"] (defScope s_pass_days) := ⟨rfl, rfl, rfl, by decide +kernel, rfl, by decide +kernel, by decide +kernel⟩
theorem bd_pass_days : BindsAll "pass_days" "pass_days" s_pass_days ["yard", "days"] := fun _ _ _ _ _ _ us hl => by
  obtain ⟨_, _, rfl⟩ := ln2 us hl
  rfl
theorem sc_tell_dry : FnScope ["yard", "kind", "net", "moist", "goods", "paid"] ["yard", "kind", "net", "moist"] (defScope s_tell_dry) := ⟨rfl, rfl, rfl, by decide +kernel, rfl, by decide +kernel, by decide +kernel⟩
theorem bd_tell_dry : BindsAll "tell_dry" "tell_dry" s_tell_dry ["yard", "kind", "net", "moist"] := fun _ _ _ _ _ _ us hl => by
  obtain ⟨_, _, _, _, rfl⟩ := ln4 us hl
  rfl
theorem sc_tell_yard : FnScope ["yard", "numbers"] ["yard"] (defScope s_tell_yard) := ⟨rfl, rfl, rfl, by decide +kernel, rfl, by decide +kernel, by decide +kernel⟩
theorem bd_tell_yard : BindsAll "tell_yard" "tell_yard" s_tell_yard ["yard"] := fun _ _ _ _ _ _ us hl => by
  obtain ⟨_, rfl⟩ := ln1 us hl
  rfl
theorem sc_tell_ticket : FnScope ["yard", "number", "ticket", "whose", "weights"] ["yard", "number"] (defScope s_tell_ticket) := ⟨rfl, rfl, rfl, by decide +kernel, rfl, by decide +kernel, by decide +kernel⟩
theorem bd_tell_ticket : BindsAll "tell_ticket" "tell_ticket" s_tell_ticket ["yard", "number"] := fun _ _ _ _ _ _ us hl => by
  obtain ⟨_, _, rfl⟩ := ln2 us hl
  rfl
theorem sc_tell_stock : FnScope ["yard", "kind", "goods"] ["yard", "kind"] (defScope s_tell_stock) := ⟨rfl, rfl, rfl, by decide +kernel, rfl, by decide +kernel, by decide +kernel⟩
theorem bd_tell_stock : BindsAll "tell_stock" "tell_stock" s_tell_stock ["yard", "kind"] := fun _ _ _ _ _ _ us hl => by
  obtain ⟨_, _, rfl⟩ := ln2 us hl
  rfl
theorem sc_tell_enough : FnScope ["yard", "kind", "wanted"] ["yard", "kind", "wanted"] (defScope s_tell_enough) := ⟨rfl, rfl, rfl, by decide +kernel, rfl, by decide +kernel, by decide +kernel⟩
theorem bd_tell_enough : BindsAll "tell_enough" "tell_enough" s_tell_enough ["yard", "kind", "wanted"] := fun _ _ _ _ _ _ us hl => by
  obtain ⟨_, _, _, rfl⟩ := ln3 us hl
  rfl
theorem sc_done_tickets : FnScope ["yard", "way", "done", "number", "ticket"] ["yard", "way"] (defScope s_done_tickets) := ⟨rfl, rfl, rfl, by decide +kernel, rfl, by decide +kernel, by decide +kernel⟩
theorem bd_done_tickets : BindsAll "done_tickets" "done_tickets" s_done_tickets ["yard", "way"] := fun _ _ _ _ _ _ us hl => by
  obtain ⟨_, _, rfl⟩ := ln2 us hl
  rfl
theorem sc_tell_totals : FnScope ["yard", "kind", "came", "went", "ticket"] ["yard", "kind"] (defScope s_tell_totals) := ⟨rfl, rfl, rfl, by decide +kernel, rfl, by decide +kernel, by decide +kernel⟩
theorem bd_tell_totals : BindsAll "tell_totals" "tell_totals" s_tell_totals ["yard", "kind"] := fun _ _ _ _ _ _ us hl => by
  obtain ⟨_, _, rfl⟩ := ln2 us hl
  rfl
theorem sc_tell_trips : FnScope ["yard", "lorry", "numbers", "number"] ["yard", "lorry"] (defScope s_tell_trips) := ⟨rfl, rfl, rfl, by decide +kernel, rfl, by decide +kernel, by decide +kernel⟩
theorem bd_tell_trips : BindsAll "tell_trips" "tell_trips" s_tell_trips ["yard", "lorry"] := fun _ _ _ _ _ _ us hl => by
  obtain ⟨_, _, rfl⟩ := ln2 us hl
  rfl
theorem sc_all_amounts : FnScope ["tickets", "ticket"] ["tickets"] (defScope s_all_amounts) := ⟨rfl, rfl, rfl, by decide +kernel, rfl, by decide +kernel, by decide +kernel⟩
theorem bd_all_amounts : BindsAll "all_amounts" "all_amounts" s_all_amounts ["tickets"] := fun _ _ _ _ _ _ us hl => by
  obtain ⟨_, rfl⟩ := ln1 us hl
  rfl
theorem sc_tell_money : FnScope ["yard"] ["yard"] (defScope s_tell_money) := ⟨rfl, rfl, rfl, by decide +kernel, rfl, by decide +kernel, by decide +kernel⟩
theorem bd_tell_money : BindsAll "tell_money" "tell_money" s_tell_money ["yard"] := fun _ _ _ _ _ _ us hl => by
  obtain ⟨_, rfl⟩ := ln1 us hl
  rfl
theorem sc_tell_heaviest : FnScope ["yard", "done", "heaviest", "number"] ["yard"] (defScope s_tell_heaviest) := ⟨rfl, rfl, rfl, by decide +kernel, rfl, by decide +kernel, by decide +kernel⟩
theorem bd_tell_heaviest : BindsAll "tell_heaviest" "tell_heaviest" s_tell_heaviest ["yard"] := fun _ _ _ _ _ _ us hl => by
  obtain ⟨_, rfl⟩ := ln1 us hl
  rfl
theorem sc_tell_sums : FnScope ["yard", "stock", "goods"] ["yard"] (defScope s_tell_sums) := ⟨rfl, rfl, rfl, by decide +kernel, rfl, by decide +kernel, by decide +kernel⟩
theorem bd_tell_sums : BindsAll "tell_sums" "tell_sums" s_tell_sums ["yard"] := fun _ _ _ _ _ _ us hl => by
  obtain ⟨_, rfl⟩ := ln1 us hl
  rfl
theorem sc_tell_state : FnScope ["yard", "counts"] ["yard"] (defScope s_tell_state) := ⟨rfl, rfl, rfl, by decide +kernel, rfl, by decide +kernel, by decide +kernel⟩
theorem bd_tell_state : BindsAll "tell_state" "tell_state" s_tell_state ["yard"] := fun _ _ _ _ _ _ us hl => by
  obtain ⟨_, rfl⟩ := ln1 us hl
  rfl
theorem sc_coming_refusal : FnScope ["yard", "lorry", "kind", "way", "moist"] ["yard", "lorry", "kind", "way", "moist"] (defScope s_coming_refusal) := ⟨rfl, rfl, rfl, by decide +kernel, rfl, by decide +kernel, by decide +kernel⟩
theorem bd_coming_refusal : BindsAll "coming_refusal" "coming_refusal" s_coming_refusal ["yard", "lorry", "kind", "way", "moist"] := fun _ _ _ _ _ _ us hl => by
  obtain ⟨_, _, _, _, _, rfl⟩ := ln5 us hl
  rfl
theorem sc_arrive_refusal : FnScope ["yard", "lorry", "kind", "way", "refusal"] ["yard", "lorry", "kind", "way"] (defScope s_arrive_refusal) := ⟨rfl, rfl, rfl, by decide +kernel, rfl, by decide +kernel, by decide +kernel⟩
theorem bd_arrive_refusal : BindsAll "arrive_refusal" "arrive_refusal" s_arrive_refusal ["yard", "lorry", "kind", "way"] := fun _ _ _ _ _ _ us hl => by
  obtain ⟨_, _, _, _, rfl⟩ := ln4 us hl
  rfl
theorem sc_arrive : FnScope ["yard", "lorry", "kind", "way", "refusal", "weight"] ["yard", "lorry", "kind", "way"] (defScope s_arrive) := ⟨rfl, rfl, rfl, by decide +kernel, rfl, by decide +kernel, by decide +kernel⟩
theorem bd_arrive : BindsAll "arrive" "arrive" s_arrive ["yard", "lorry", "kind", "way"] := fun _ _ _ _ _ _ us hl => by
  obtain ⟨_, _, _, _, rfl⟩ := ln4 us hl
  rfl
theorem sc_is_too_heavy_now : FnScope ["yard", "lorry"] ["yard", "lorry"] (defScope s_is_too_heavy_now) := ⟨rfl, rfl, rfl, by decide +kernel, rfl, by decide +kernel, by decide +kernel⟩
theorem bd_is_too_heavy_now : BindsAll "is_too_heavy_now" "is_too_heavy_now" s_is_too_heavy_now ["yard", "lorry"] := fun _ _ _ _ _ _ us hl => by
  obtain ⟨_, _, rfl⟩ := ln2 us hl
  rfl
theorem sc_settling_refusal : FnScope ["yard", "kind", "way", "net"] ["yard", "kind", "way", "net"] (defScope s_settling_refusal) := ⟨rfl, rfl, rfl, by decide +kernel, rfl, by decide +kernel, by decide +kernel⟩
theorem bd_settling_refusal : BindsAll "settling_refusal" "settling_refusal" s_settling_refusal ["yard", "kind", "way", "net"] := fun _ _ _ _ _ _ us hl => by
  obtain ⟨_, _, _, _, rfl⟩ := ln4 us hl
  rfl
theorem sc_settle : FnScope ["yard", "ticket", "second", "net", "moist", "goods"] ["yard", "ticket", "second", "net", "moist"] (defScope s_settle) := ⟨rfl, rfl, rfl, by decide +kernel, rfl, by decide +kernel, by decide +kernel⟩
theorem bd_settle : BindsAll "settle" "settle" s_settle ["yard", "ticket", "second", "net", "moist"] := fun _ _ _ _ _ _ us hl => by
  obtain ⟨_, _, _, _, _, rfl⟩ := ln5 us hl
  rfl
theorem sc_standing_refusal : FnScope ["yard", "number"] ["yard", "number"] (defScope s_standing_refusal) := ⟨rfl, rfl, rfl, by decide +kernel, rfl, by decide +kernel, by decide +kernel⟩
theorem bd_standing_refusal : BindsAll "standing_refusal" "standing_refusal" s_standing_refusal ["yard", "number"] := fun _ _ _ _ _ _ us hl => by
  obtain ⟨_, _, rfl⟩ := ln2 us hl
  rfl
theorem sc_leave_refusal : FnScope ["yard", "number", "moist", "refusal", "ticket"] ["yard", "number", "moist"] (defScope s_leave_refusal) := ⟨rfl, rfl, rfl, by decide +kernel, rfl, by decide +kernel, by decide +kernel⟩
theorem bd_leave_refusal : BindsAll "leave_refusal" "leave_refusal" s_leave_refusal ["yard", "number", "moist"] := fun _ _ _ _ _ _ us hl => by
  obtain ⟨_, _, _, rfl⟩ := ln3 us hl
  rfl
theorem sc_leave : FnScope ["yard", "number", "moist", "refusal", "ticket", "weight"] ["yard", "number", "moist"] (defScope s_leave) := ⟨rfl, rfl, rfl, by decide +kernel, rfl, by decide +kernel, by decide +kernel⟩
theorem bd_leave : BindsAll "leave" "leave" s_leave ["yard", "number", "moist"] := fun _ _ _ _ _ _ us hl => by
  obtain ⟨_, _, _, rfl⟩ := ln3 us hl
  rfl
theorem sc_net_above_tare : FnScope ["yard", "lorry"] ["yard", "lorry"] (defScope s_net_above_tare) := ⟨rfl, rfl, rfl, by decide +kernel, rfl, by decide +kernel, by decide +kernel⟩
theorem bd_net_above_tare : BindsAll "net_above_tare" "net_above_tare" s_net_above_tare ["yard", "lorry"] := fun _ _ _ _ _ _ us hl => by
  obtain ⟨_, _, rfl⟩ := ln2 us hl
  rfl
theorem sc_quick_refusal : FnScope ["yard", "lorry", "kind", "way", "moist", "refusal"] ["yard", "lorry", "kind", "way", "moist"] (defScope s_quick_refusal) := ⟨rfl, rfl, rfl, by decide +kernel, rfl, by decide +kernel, by decide +kernel⟩
theorem bd_quick_refusal : BindsAll "quick_refusal" "quick_refusal" s_quick_refusal ["yard", "lorry", "kind", "way", "moist"] := fun _ _ _ _ _ _ us hl => by
  obtain ⟨_, _, _, _, _, rfl⟩ := ln5 us hl
  rfl
theorem sc_quick : FnScope ["yard", "lorry", "kind", "way", "moist", "refusal", "net", "ticket"] ["yard", "lorry", "kind", "way", "moist"] (defScope s_quick) := ⟨rfl, rfl, rfl, by decide +kernel, rfl, by decide +kernel, by decide +kernel⟩
theorem bd_quick : BindsAll "quick" "quick" s_quick ["yard", "lorry", "kind", "way", "moist"] := fun _ _ _ _ _ _ us hl => by
  obtain ⟨_, _, _, _, _, rfl⟩ := ln5 us hl
  rfl
theorem sc_cancel : FnScope ["yard", "number", "refusal", "ticket"] ["yard", "number"] (defScope s_cancel) := ⟨rfl, rfl, rfl, by decide +kernel, rfl, by decide +kernel, by decide +kernel⟩
theorem bd_cancel : BindsAll "cancel" "cancel" s_cancel ["yard", "number"] := fun _ _ _ _ _ _ us hl => by
  obtain ⟨_, _, rfl⟩ := ln2 us hl
  rfl
theorem sc_set_errors : FnScope ["plate", "gain", "offset"] ["plate", "gain", "offset"] (defScope s_set_errors) := ⟨rfl, rfl, rfl, by decide +kernel, rfl, by decide +kernel, by decide +kernel⟩
theorem bd_set_errors : BindsAll "set_errors" "set_errors" s_set_errors ["plate", "gain", "offset"] := fun _ _ _ _ _ _ us hl => by
  obtain ⟨_, _, _, rfl⟩ := ln3 us hl
  rfl
theorem sc_put_on : FnScope ["plate", "axles"] ["plate", "axles"] (defScope s_put_on) := ⟨rfl, rfl, rfl, by decide +kernel, rfl, by decide +kernel, by decide +kernel⟩
theorem bd_put_on : BindsAll "put_on" "put_on" s_put_on ["plate", "axles"] := fun _ _ _ _ _ _ us hl => by
  obtain ⟨_, _, rfl⟩ := ln2 us hl
  rfl
theorem sc_take_off : FnScope ["plate"] ["plate"] (defScope s_take_off) := ⟨rfl, rfl, rfl, by decide +kernel, rfl, by decide +kernel, by decide +kernel⟩
theorem bd_take_off : BindsAll "take_off" "take_off" s_take_off ["plate"] := fun _ _ _ _ _ _ us hl => by
  obtain ⟨_, rfl⟩ := ln1 us hl
  rfl
theorem sc_show_reading : FnScope ["plate"] ["plate"] (defScope s_show_reading) := ⟨rfl, rfl, rfl, by decide +kernel, rfl, by decide +kernel, by decide +kernel⟩
theorem bd_show_reading : BindsAll "show_reading" "show_reading" s_show_reading ["plate"] := fun _ _ _ _ _ _ us hl => by
  obtain ⟨_, rfl⟩ := ln1 us hl
  rfl
theorem sc_set_zero : FnScope ["plate", "felt", "unzeroed"] ["plate"] (defScope s_set_zero) := ⟨rfl, rfl, rfl, by decide +kernel, rfl, by decide +kernel, by decide +kernel⟩
theorem bd_set_zero : BindsAll "set_zero" "set_zero" s_set_zero ["plate"] := fun _ _ _ _ _ _ us hl => by
  obtain ⟨_, rfl⟩ := ln1 us hl
  rfl
theorem sc_try_weight : FnScope ["plate", "weight", "verdict"] ["plate", "weight"] (defScope s_try_weight) := ⟨rfl, rfl, rfl, by decide +kernel, rfl, by decide +kernel, by decide +kernel⟩
theorem bd_try_weight : BindsAll "try_weight" "try_weight" s_try_weight ["plate", "weight"] := fun _ _ _ _ _ _ us hl => by
  obtain ⟨_, _, rfl⟩ := ln2 us hl
  rfl
theorem sc_ask_plate : FnScope ["plate", "number", "given"] ["plate", "number", "given"] (defScope s_ask_plate) := ⟨rfl, rfl, rfl, by decide +kernel, rfl, by decide +kernel, by decide +kernel⟩
theorem bd_ask_plate : BindsAll "ask_plate" "ask_plate" s_ask_plate ["plate", "number", "given"] := fun _ _ _ _ _ _ us hl => by
  obtain ⟨_, _, _, rfl⟩ := ln3 us hl
  rfl
theorem sc_ask_yard : FnScope ["yard", "number", "given"] ["yard", "number", "given"] (defScope s_ask_yard) := ⟨rfl, rfl, rfl, by decide +kernel, rfl, by decide +kernel, by decide +kernel⟩
theorem bd_ask_yard : BindsAll "ask_yard" "ask_yard" s_ask_yard ["yard", "number", "given"] := fun _ _ _ _ _ _ us hl => by
  obtain ⟨_, _, _, rfl⟩ := ln3 us hl
  rfl
theorem sc_look_up : FnScope ["yard", "number", "given"] ["yard", "number", "given"] (defScope s_look_up) := ⟨rfl, rfl, rfl, by decide +kernel, rfl, by decide +kernel, by decide +kernel⟩
theorem bd_look_up : BindsAll "look_up" "look_up" s_look_up ["yard", "number", "given"] := fun _ _ _ _ _ _ us hl => by
  obtain ⟨_, _, _, rfl⟩ := ln3 us hl
  rfl
theorem sc_ask : FnScope ["line", "number", "given"] ["line", "number", "given"] (defScope s_ask) := ⟨rfl, rfl, rfl, by decide +kernel, rfl, by decide +kernel, by decide +kernel⟩
theorem bd_ask : BindsAll "ask" "ask" s_ask ["line", "number", "given"] := fun _ _ _ _ _ _ us hl => by
  obtain ⟨_, _, _, rfl⟩ := ln3 us hl
  rfl
theorem sc_end_of_call : FnScope ["calls", "start", "end"] ["calls", "start"] (defScope s_end_of_call) := ⟨rfl, rfl, rfl, by decide +kernel, rfl, by decide +kernel, by decide +kernel⟩
theorem bd_end_of_call : BindsAll "end_of_call" "end_of_call" s_end_of_call ["calls", "start"] := fun _ _ _ _ _ _ us hl => by
  obtain ⟨_, _, rfl⟩ := ln2 us hl
  rfl
theorem sc_answers : FnScope ["calls", "line", "answered", "start", "end", "numbers"] ["calls"] (defScope s_answers) := ⟨rfl, rfl, rfl, by decide +kernel, rfl, by decide +kernel, by decide +kernel⟩
theorem bd_answers : BindsAll "answers" "answers" s_answers ["calls"] := fun _ _ _ _ _ _ us hl => by
  obtain ⟨_, rfl⟩ := ln1 us hl
  rfl
end Wb

end
section
set_option Elab.async false
set_option linter.all false
set_option maxRecDepth 100000
set_option maxHeartbeats 4000000
/-! The objects of a yard in the heap, by the specification's own state. -/
namespace Wb
open PySem PySem.Spec PyProof.Rows L2
theorem bt_len : bootBuiltins "len" = some (.builtin "len") := by decide +kernel
theorem bt_sum : bootBuiltins "sum" = some (.builtin "sum") := by decide +kernel
theorem bt_max : bootBuiltins "max" = some (.builtin "max") := by decide +kernel
theorem bt_min : bootBuiltins "min" = some (.builtin "min") := by decide +kernel
theorem bt_abs : bootBuiltins "abs" = some (.builtin "abs") := by decide +kernel
theorem bt_list : bootBuiltins "list" = some (.type "list") := by decide +kernel
abbrev nI (n : Nat) : V := .int (n : Int)
abbrev iL (ns : List Int) : HO := .lst (ns.map V.int)
abbrev nL (l : List Nat) : HO := .lst ((l.map Int.ofNat).map V.int)
inductive Tag where
  | yard | plate | axl | kl | ll | tl | kind (i : Nat) | lorry (i : Nat) | tares (i : Nat) | ticket (i : Nat)
  deriving DecidableEq
def pfs (a : Kv319.Abs) (ax : Addr) : List (Str × V) := [("step", nI a.step), ("capacity", .int ((a.step : Int) * (a.steps : Int))), ("gain", .int a.gain), ("offset", .int a.offset), ("zero", .int a.zero), ("axles", .ref ax)]
def gfs (k : Kv319.Kind) : List (Str × V) := [("price", nI k.price), ("wet", nI k.wet), ("most", nI k.most), ("stock", nI k.stock)]
def lfs (l : Kv319.Lorry) (tx : Addr) : List (Str × V) := [("axle_most", nI l.axle), ("gross_most", nI l.gross), ("tares", .ref tx), ("tare_day", nI l.day)]
def tfs (t : Kv319.Ticket) : List (Str × V) := [("lorry", nI t.lorry), ("kind", nI t.kind), ("way", nI t.way), ("first", nI t.first), ("second", nI t.second), ("net", nI t.net), ("paid", nI t.paid), ("amount", nI t.amount), ("state", nI t.state)]
def yfs (a : Kv319.Abs) (L : Tag → Addr) : List (Str × V) := [("plate", .ref (L .plate)), ("room", nI a.yard), ("good", nI a.good), ("day", nI a.today), ("kinds", .ref (L .kl)), ("lorries", .ref (L .ll)), ("tickets", .ref (L .tl))]
def refs (L : Tag → Addr) (f : Nat → Tag) (n : Nat) : HO := .lst ((List.range n).map fun i => .ref (L (f i)))
/-- what stands at each place of a yard -/
def cont (cs : Cs) (a : Kv319.Abs) (L D : Tag → Addr) : Tag → Option HO
  | .yard => some (.ins cs.Yard (D .yard) (yfs a L))
  | .plate => some (.ins cs.Plate (D .plate) (pfs a (L .axl)))
  | .axl => some (nL a.load)
  | .kl => some (refs L .kind a.kinds.length)
  | .ll => some (refs L .lorry a.lorries.length)
  | .tl => some (refs L .ticket a.tickets.length)
  | .kind i => (a.kinds[i]?).map fun k => .ins cs.Goods (D (.kind i)) (gfs k)
  | .lorry i => (a.lorries[i]?).map fun l => .ins cs.Lorry (D (.lorry i)) (lfs l (L (.tares i)))
  | .tares i => (a.lorries[i]?).map fun l => nL l.tares.reverse
  | .ticket i => (a.tickets[i]?).map fun t => .ins cs.Ticket (D (.ticket i)) (tfs t)
/-- the yard a stands in H, its parts at the addresses L -/
structure Y (cs : Cs) (H : Hp) (L D : Tag → Addr) (a : Kv319.Abs) : Prop where
  inj : ∀ t u o o', cont cs a L D t = some o → cont cs a L D u = some o' → L t = L u → t = u
  at_ : ∀ t o, cont cs a L D t = some o → H (L t) = some o
section
variable {cs : Cs} {H H' : Hp} {L D : Tag → Addr} {a a' : Kv319.Abs}
theorem Y.same (y : Y cs H L D a) (s : Same H H') : Y cs H' L D a := ⟨y.inj, fun t o e => s _ _ (y.at_ t o e)⟩
theorem Y.yard (y : Y cs H L D a) : H (L .yard) = some (.ins cs.Yard (D .yard) (yfs a L)) := y.at_ .yard _ rfl
theorem Y.plate (y : Y cs H L D a) : H (L .plate) = some (.ins cs.Plate (D .plate) (pfs a (L .axl))) := y.at_ .plate _ rfl
theorem Y.axl (y : Y cs H L D a) : H (L .axl) = some (nL a.load) := y.at_ .axl _ rfl
theorem Y.kl (y : Y cs H L D a) : H (L .kl) = some (refs L .kind a.kinds.length) := y.at_ .kl _ rfl
theorem Y.ll (y : Y cs H L D a) : H (L .ll) = some (refs L .lorry a.lorries.length) := y.at_ .ll _ rfl
theorem Y.tl (y : Y cs H L D a) : H (L .tl) = some (refs L .ticket a.tickets.length) := y.at_ .tl _ rfl
theorem Y.kind (y : Y cs H L D a) {i : Nat} {k : Kv319.Kind} (e : a.kinds[i]? = some k) : H (L (.kind i)) = some (.ins cs.Goods (D (.kind i)) (gfs k)) := y.at_ (.kind i) _ (by show Option.map _ _ = _; rw [e]; rfl)
theorem Y.lorry (y : Y cs H L D a) {i : Nat} {l : Kv319.Lorry} (e : a.lorries[i]? = some l) : H (L (.lorry i)) = some (.ins cs.Lorry (D (.lorry i)) (lfs l (L (.tares i)))) := y.at_ (.lorry i) _ (by show Option.map _ _ = _; rw [e]; rfl)
theorem Y.tares (y : Y cs H L D a) {i : Nat} {l : Kv319.Lorry} (e : a.lorries[i]? = some l) : H (L (.tares i)) = some (nL l.tares.reverse) := y.at_ (.tares i) _ (by show Option.map _ _ = _; rw [e]; rfl)
theorem Y.ticket (y : Y cs H L D a) {i : Nat} {t : Kv319.Ticket} (e : a.tickets[i]? = some t) : H (L (.ticket i)) = some (.ins cs.Ticket (D (.ticket i)) (tfs t)) := y.at_ (.ticket i) _ (by show Option.map _ _ = _; rw [e]; rfl)
theorem refs_at {L : Tag → Addr} {f : Nat → Tag} {n i : Nat} (h : i < n) : ((List.range n).map fun i => V.ref (L (f i)))[i]? = some (.ref (L (f i))) := by
  rw [List.getElem?_map, List.getElem?_range h]; rfl
/-- one place is written anew, all else stays -/
theorem Y.put (y : Y cs H L D a) (τ : Tag) {o' : HO} (e' : cont cs a' L D τ = some o') (ex : (cont cs a L D τ).isSome = true) (stay : ∀ t, t ≠ τ → cont cs a' L D t = cont cs a L D t)
    (here : H' (L τ) = some o') (else_ : ∀ b u, H b = some u → b ≠ L τ → H' b = some u) : Y cs H' L D a' := by
  obtain ⟨o, e⟩ := Option.isSome_iff_exists.mp ex
  have old : ∀ t x, cont cs a' L D t = some x → ∃ z, cont cs a L D t = some z := fun t x q => by
    by_cases h : t = τ
    · subst h; exact ⟨o, e⟩
    · rw [stay t h] at q; exact ⟨x, q⟩
  refine ⟨fun t u x x' q q' h => ?_, fun t x q => ?_⟩
  · obtain ⟨z, hz⟩ := old t x q
    obtain ⟨z', hz'⟩ := old u x' q'
    exact y.inj t u z z' hz hz' h
  · by_cases h : t = τ
    · subst h
      rw [e'] at q
      cases q
      exact here
    · have q0 := q
      rw [stay t h] at q
      exact else_ _ _ (y.at_ t x q) fun z => h (y.inj t τ x o q e z)
end
/-- a plate stands at p -/
def PlateAt (cs : Cs) (H : Hp) (p : Addr) (a : Kv319.Abs) : Prop := ∃ dp ax, H p = some (.ins cs.Plate dp (pfs a ax)) ∧ H ax = some (nL a.load)
/-- what holds of the numbers of a plate -/
structure PlOk (a : Kv319.Abs) : Prop where
  s1 : 1 ≤ a.step
  s2 : a.step ≤ 100
  n2 : a.steps ≤ 5000
  g1 : -20 ≤ a.gain
  g2 : a.gain ≤ 20
def feelsI (a : Kv319.Abs) (w : Int) : Int := w * (1000 + a.gain) / 1000 + a.offset - a.zero
def showsI (a : Kv319.Abs) (w : Int) : Int := (2 * feelsI a w + (a.step : Int)) / (2 * (a.step : Int)) * (a.step : Int)
def allowedI (a : Kv319.Abs) (w : Int) : Int := if w ≤ 500 * (a.step : Int) then 1 else if w ≤ 2000 * (a.step : Int) then 2 else 3
theorem sum_nat : ∀ l : List Nat, (l.map Int.ofNat).sum = ((l.sum : Nat) : Int)
  | [] => rfl
  | x :: r => by rw [List.map_cons, List.sum_cons, List.sum_cons, sum_nat r, Int.natCast_add]; rfl
end Wb

end
section
set_option Elab.async false
set_option linter.all false
set_option maxRecDepth 100000
set_option maxHeartbeats 4000000
/-! The defs of the plate. -/
namespace Wb
open PySem PySem.Spec PyProof.Rows L2
theorem emp (l : List Nat) : decide ((V.int (((l.map Int.ofNat).map V.int).length : Nat) : V) = V.int 0) = l.isEmpty := by
  cases l with
  | nil => rfl
  | cons x r => exact decide_eq_false (by intro h; injection h with h; simp at h; omega)
def sp_Plate_is_empty (K : PySem.W.Frag) (cs : Cs) : Sp := fun vs H Q _ => ∃ p a, vs = [.ref p] ∧ PlateAt cs H p a ∧ Q (.bl a.load.isEmpty) H
theorem ok_Plate_is_empty {P : Program} {w : World} {K : PySem.W.Frag} {mg : Str → Option Value} {base : Heap} {cs : Cs} (T : Txt K mg cs) : MOk P w K mg base 1 cs.Plate "is_empty" ["self"] (sp_Plate_is_empty K cs) := by
  refine T.Plate.m_is_empty.ok sc_Plate_is_empty bd_Plate_is_empty (fun vs H Q E h => ?_) (fun f cdv A outer s H vs Q E hr h => ?_)
  · obtain ⟨p, a, rfl, _⟩ := h; rfl
  · obtain ⟨p, a, rfl, ⟨dp, ax, hp, hax⟩, q⟩ := h
    refine ⟨_, (pss_one (ps_ret (pe_cmpR op_eq (pb call_len_seq T.b_len bt_len (pa_cons (pe_fld (pv 0) rfl) pa_nil)) pe_int (nomark _)))), ?_⟩
    refine ⟨_, rfl, p, cs.Plate, dp, _, _, rfl, hp, T.Plate.cl, T.Plate.n_axles, rfl, _, _, rfl, .inl (SqL.of hax), rfl, ?_⟩
    rw [← emp] at q; exact q
def sp_Plate_load (K : PySem.W.Frag) (cs : Cs) : Sp := fun vs H Q _ => ∃ p a, vs = [.ref p] ∧ PlateAt cs H p a ∧ Q (nI a.load.sum) H
theorem ok_Plate_load {P : Program} {w : World} {K : PySem.W.Frag} {mg : Str → Option Value} {base : Heap} {cs : Cs} (T : Txt K mg cs) : MOk P w K mg base 1 cs.Plate "load" ["self"] (sp_Plate_load K cs) := by
  refine T.Plate.m_load.ok sc_Plate_load bd_Plate_load (fun vs H Q E h => ?_) (fun f cdv A outer s H vs Q E hr h => ?_)
  · obtain ⟨p, a, rfl, _⟩ := h; rfl
  · obtain ⟨p, a, rfl, ⟨dp, ax, hp, hax⟩, q⟩ := h
    refine ⟨_, (pss_one (ps_ret (pb (cr_sum rfl) T.b_sum bt_sum (pa_cons (pe_fld (pv 0) rfl) pa_nil)))), ?_⟩
    refine ⟨_, rfl, p, cs.Plate, dp, _, _, rfl, hp, T.Plate.cl, T.Plate.n_axles, rfl, _, _, rfl, SqL.of hax, ?_⟩
    have q : Q (.int (a.load.map Int.ofNat).sum) H := by rw [sum_nat]; exact q
    exact q
def sp_Plate_feels (K : PySem.W.Frag) (cs : Cs) : Sp := fun vs H Q _ => ∃ p a w, vs = [.ref p, .int w] ∧ PlateAt cs H p a ∧ PlOk a ∧ Q (.int (feelsI a w)) H
theorem ok_Plate_feels {P : Program} {w : World} {K : PySem.W.Frag} {mg : Str → Option Value} {base : Heap} {cs : Cs} (T : Txt K mg cs) : MOk P w K mg base 1 cs.Plate "feels" ["self", "weight"] (sp_Plate_feels K cs) := by
  refine T.Plate.m_feels.ok sc_Plate_feels bd_Plate_feels (fun vs H Q E h => ?_) (fun f cdv A outer s H vs Q E hr h => ?_)
  · obtain ⟨p, a, w, rfl, _⟩ := h; rfl
  · obtain ⟨p, a, w, rfl, ⟨dp, ax, hp, hax⟩, ok, q⟩ := h
    have := ok.g1; have := ok.g2
    refine ⟨_, (pss_one (ps_ret (pe_op op_sub (pe_op op_add (pe_op op_fdiv (pe_op op_mul (pv 1) (pe_op op_add pe_int (pe_fld (pv 0) rfl))) pe_int) (pe_fld (pv 0) rfl)) (pe_fld (pv 0) rfl)))), ?_⟩
    exact ⟨_, rfl, _, rfl, p, cs.Plate, dp, _, _, rfl, hp, T.Plate.cl, T.Plate.n_gain, rfl, _, _, rfl, rfl, _, _, rfl, rfl, (by unfold CMul; omega), _, _, rfl, rfl, (by unfold CDiv; omega), _, rfl, p, cs.Plate, dp, _, _, rfl, hp, T.Plate.cl, T.Plate.n_offset, rfl, _, _, rfl, rfl, _, rfl, p, cs.Plate, dp, _, _, rfl, hp, T.Plate.cl, T.Plate.n_zero, rfl, _, _, rfl, rfl, q⟩
def sp_Plate_shows (K : PySem.W.Frag) (cs : Cs) : Sp := fun vs H Q _ => ∃ p a w, vs = [.ref p, .int w] ∧ PlateAt cs H p a ∧ PlOk a ∧ Q (.int (showsI a w)) H
theorem ok_Plate_shows {P : Program} {w : World} {K : PySem.W.Frag} {mg : Str → Option Value} {base : Heap} {cs : Cs} (T : Txt K mg cs) : MOk P w K mg base 2 cs.Plate "shows" ["self", "weight"] (sp_Plate_shows K cs) := by
  refine T.Plate.m_shows.ok sc_Plate_shows bd_Plate_shows (fun vs H Q E h => ?_) (fun f cdv A outer s H vs Q E hr h => ?_)
  · obtain ⟨p, a, w, rfl, _⟩ := h; rfl
  · obtain ⟨p, a, w, rfl, hP, ok, q⟩ := h
    have hP' := hP
    obtain ⟨dp, ax, hp, hax⟩ := hP'
    have := ok.s1; have := ok.s2
    refine ⟨_, (pss_one (ps_ret (pe_op op_mul (pe_op op_fdiv (pe_op op_add (pe_op op_mul pe_int (pm (pv 0) T.Plate.cl (ok_Plate_feels T) (hr.mono (by decide)) (pa_cons (pv 1) pa_nil))) (pe_fld (pv 0) rfl)) (pe_op op_mul pe_int (pe_fld (pv 0) rfl))) (pe_fld (pv 0) rfl)))), ?_⟩
    exact ⟨_, rfl, p, dp, _, rfl, hp, rfl, _, rfl, _, a, _, rfl, hP, ok, _, _, rfl, rfl, (by unfold CMul; omega), _, rfl, p, cs.Plate, dp, _, _, rfl, hp, T.Plate.cl, T.Plate.n_step, rfl, _, _, rfl, rfl, _, rfl, p, cs.Plate, dp, _, _, rfl, hp, T.Plate.cl, T.Plate.n_step, rfl, _, _, rfl, rfl, (by unfold CMul; omega), _, _, rfl, rfl, (by unfold CDiv; omega), _, rfl, p, cs.Plate, dp, _, _, rfl, hp, T.Plate.cl, T.Plate.n_step, rfl, _, _, rfl, rfl, (by unfold CMul; omega), q⟩
def sp_Plate_reading (K : PySem.W.Frag) (cs : Cs) : Sp := fun vs H Q _ => ∃ p a, vs = [.ref p] ∧ PlateAt cs H p a ∧ PlOk a ∧ Q (.int a.now_) H
theorem ok_Plate_reading {P : Program} {w : World} {K : PySem.W.Frag} {mg : Str → Option Value} {base : Heap} {cs : Cs} (T : Txt K mg cs) : MOk P w K mg base 3 cs.Plate "reading" ["self"] (sp_Plate_reading K cs) := by
  refine T.Plate.m_reading.ok sc_Plate_reading bd_Plate_reading (fun vs H Q E h => ?_) (fun f cdv A outer s H vs Q E hr h => ?_)
  · obtain ⟨p, a, rfl, _⟩ := h; rfl
  · obtain ⟨p, a, rfl, hP, ok, q⟩ := h
    have hP' := hP
    obtain ⟨dp, ax, hp, hax⟩ := hP'
    refine ⟨_, (pss_one (ps_ret (pm (pv 0) T.Plate.cl (ok_Plate_shows T) (hr.mono (by decide)) (pa_cons (pm0 (pv 0) T.Plate.cl (ok_Plate_load T) (hr.mono (by decide))) pa_nil)))), ?_⟩
    exact ⟨_, rfl, p, dp, _, rfl, hp, rfl, _, rfl, p, dp, _, rfl, hp, rfl, _, a, rfl, hP, _, a, _, rfl, hP, ok, q⟩
def sp_Plate_wrong_with (K : PySem.W.Frag) (cs : Cs) : Sp := fun vs H Q _ => ∃ p a w, vs = [.ref p, .int w] ∧ PlateAt cs H p a ∧ PlOk a ∧ Q (.int (feelsI a w - w)) H
theorem ok_Plate_wrong_with {P : Program} {w : World} {K : PySem.W.Frag} {mg : Str → Option Value} {base : Heap} {cs : Cs} (T : Txt K mg cs) : MOk P w K mg base 2 cs.Plate "wrong_with" ["self", "weight"] (sp_Plate_wrong_with K cs) := by
  refine T.Plate.m_wrong_with.ok sc_Plate_wrong_with bd_Plate_wrong_with (fun vs H Q E h => ?_) (fun f cdv A outer s H vs Q E hr h => ?_)
  · obtain ⟨p, a, w, rfl, _⟩ := h; rfl
  · obtain ⟨p, a, w, rfl, hP, ok, q⟩ := h
    have hP' := hP
    obtain ⟨dp, ax, hp, hax⟩ := hP'
    refine ⟨_, (pss_one (ps_ret (pe_op op_sub (pm (pv 0) T.Plate.cl (ok_Plate_feels T) (hr.mono (by decide)) (pa_cons (pv 1) pa_nil)) (pv 1)))), ?_⟩
    exact ⟨_, rfl, p, dp, _, rfl, hp, rfl, _, rfl, _, a, _, rfl, hP, ok, _, rfl, _, _, rfl, rfl, q⟩
def sp_Plate_halves_allowed (K : PySem.W.Frag) (cs : Cs) : Sp := fun vs H Q _ => ∃ p a w, vs = [.ref p, .int w] ∧ PlateAt cs H p a ∧ PlOk a ∧ Q (.int (allowedI a w)) H
theorem ok_Plate_halves_allowed {P : Program} {w : World} {K : PySem.W.Frag} {mg : Str → Option Value} {base : Heap} {cs : Cs} (T : Txt K mg cs) : MOk P w K mg base 1 cs.Plate "halves_allowed" ["self", "weight"] (sp_Plate_halves_allowed K cs) := by
  refine T.Plate.m_halves_allowed.ok sc_Plate_halves_allowed bd_Plate_halves_allowed (fun vs H Q E h => ?_) (fun f cdv A outer s H vs Q E hr h => ?_)
  · obtain ⟨p, a, w, rfl, _⟩ := h; rfl
  · obtain ⟨p, a, w, rfl, ⟨dp, ax, hp, hax⟩, ok, q⟩ := h
    have := ok.s1; have := ok.s2
    refine ⟨_, (pss_cons (ps_if (pt_cmpR op_le (pv 1) (pe_op op_mul (pgi T.g_FINE_STEPS) (pe_fld (pv 0) rfl)) (nomark _)) (pss_one (ps_ret pe_int)) pss_nil) (pss_cons (ps_if (pt_cmpR op_le (pv 1) (pe_op op_mul (pgi T.g_MIDDLE_STEPS) (pe_fld (pv 0) rfl)) (nomark _)) (pss_one (ps_ret pe_int)) pss_nil) (pss_one (ps_ret pe_int)))), ?_⟩
    refine ⟨_, rfl, _, rfl, p, cs.Plate, dp, _, _, rfl, hp, T.Plate.cl, T.Plate.n_step, rfl, _, _, rfl, rfl, (by unfold CMul; omega), _, _, rfl, rfl, _, rfl, ite2 (fun c => ?_) (fun c => ?_)⟩
    · rw [allowedI, if_pos (of_decide_eq_true c)] at q; exact q
    · have c1 : ¬ w ≤ 500 * (a.step : Int) := fun z => c (decide_eq_true z)
      refine ⟨_, rfl, _, rfl, p, cs.Plate, dp, _, _, rfl, hp, T.Plate.cl, T.Plate.n_step, rfl, _, _, rfl, rfl, (by unfold CMul; omega), _, _, rfl, rfl, _, rfl, ite2 (fun c => ?_) (fun c => ?_)⟩
      · rw [allowedI, if_neg c1, if_pos (of_decide_eq_true c)] at q; exact q
      · have c2 : ¬ w ≤ 2000 * (a.step : Int) := fun z => c (decide_eq_true z)
        rw [allowedI, if_neg c1, if_neg c2] at q; exact q
def absI (i : Int) : Int := if i < 0 then -i else i
def mayI (a : Kv319.Abs) (w : Int) : Bool := decide (2 * absI (feelsI a w - w) ≤ allowedI a w * (a.step : Int))
def sp_Plate_may_be_wrong (K : PySem.W.Frag) (cs : Cs) : Sp := fun vs H Q _ => ∃ p a w, vs = [.ref p, .int w] ∧ PlateAt cs H p a ∧ PlOk a ∧ Q (.bl (mayI a w)) H
theorem ok_Plate_may_be_wrong {P : Program} {w : World} {K : PySem.W.Frag} {mg : Str → Option Value} {base : Heap} {cs : Cs} (T : Txt K mg cs) : MOk P w K mg base 3 cs.Plate "may_be_wrong" ["self", "weight"] (sp_Plate_may_be_wrong K cs) := by
  refine T.Plate.m_may_be_wrong.ok sc_Plate_may_be_wrong bd_Plate_may_be_wrong (fun vs H Q E h => ?_) (fun f cdv A outer s H vs Q E hr h => ?_)
  · obtain ⟨p, a, w, rfl, _⟩ := h; rfl
  · obtain ⟨p, a, w, rfl, hP, ok, q⟩ := h
    have hP' := hP
    obtain ⟨dp, ax, hp, hax⟩ := hP'
    have := ok.s1; have := ok.s2
    refine ⟨_, (pss_one (ps_ret (pe_cmpR op_le (pe_op op_mul pe_int (pb call_abs T.b_abs bt_abs (pa_cons (pm (pv 0) T.Plate.cl (ok_Plate_wrong_with T) (hr.mono (by decide)) (pa_cons (pv 1) pa_nil)) pa_nil))) (pe_op op_mul (pm (pv 0) T.Plate.cl (ok_Plate_halves_allowed T) (hr.mono (by decide)) (pa_cons (pv 1) pa_nil)) (pe_fld (pv 0) rfl)) (nomark _)))), ?_⟩
    exact ⟨_, rfl, p, dp, _, rfl, hp, rfl, _, rfl, _, a, _, rfl, hP, ok, _, rfl, _, _, rfl, rfl, (by unfold CMul; omega), _, rfl, p, dp, _, rfl, hp, rfl, _, rfl, _, a, _, rfl, hP, ok, _, rfl, p, cs.Plate, dp, _, _, rfl, hp, T.Plate.cl, T.Plate.n_step, rfl, _, _, rfl, rfl, (by unfold CMul; omega), _, _, rfl, rfl, q⟩
theorem over_eq (a : Kv319.Abs) : decide ((a.step : Int) * (a.steps : Int) + 9 * (a.step : Int) < a.now_) = a.over := by
  unfold Kv319.Abs.over Kv319.Abs.most
  rw [Int.natCast_mul]
def sp_Plate_shows_too_much (K : PySem.W.Frag) (cs : Cs) : Sp := fun vs H Q _ => ∃ p a, vs = [.ref p] ∧ PlateAt cs H p a ∧ PlOk a ∧ Q (.bl a.over) H
theorem ok_Plate_shows_too_much {P : Program} {w : World} {K : PySem.W.Frag} {mg : Str → Option Value} {base : Heap} {cs : Cs} (T : Txt K mg cs) : MOk P w K mg base 4 cs.Plate "shows_too_much" ["self"] (sp_Plate_shows_too_much K cs) := by
  refine T.Plate.m_shows_too_much.ok sc_Plate_shows_too_much bd_Plate_shows_too_much (fun vs H Q E h => ?_) (fun f cdv A outer s H vs Q E hr h => ?_)
  · obtain ⟨p, a, rfl, _⟩ := h; rfl
  · obtain ⟨p, a, rfl, hP, ok, q⟩ := h
    have hP' := hP
    obtain ⟨dp, ax, hp, hax⟩ := hP'
    have := ok.s1; have := ok.s2
    refine ⟨_, (pss_one (ps_ret (pe_cmpR op_gt (pm0 (pv 0) T.Plate.cl (ok_Plate_reading T) (hr.mono (by decide))) (pe_op op_add (pe_fld (pv 0) rfl) (pe_op op_mul (pgi T.g_STEPS_ABOVE) (pe_fld (pv 0) rfl))) (nomark _)))), ?_⟩
    refine ⟨_, rfl, p, dp, _, rfl, hp, rfl, _, a, rfl, hP, ok, _, rfl, p, cs.Plate, dp, _, _, rfl, hp, T.Plate.cl, T.Plate.n_capacity, rfl, _, rfl, p, cs.Plate, dp, _, _, rfl, hp, T.Plate.cl, T.Plate.n_step, rfl, _, _, rfl, rfl, (by unfold CMul; omega), _, _, rfl, rfl, _, _, rfl, rfl, ?_⟩
    rw [← over_eq] at q; exact q
def sp_Plate_weighing_refusal (K : PySem.W.Frag) (cs : Cs) : Sp := fun vs H Q _ => ∃ p a, vs = [.ref p] ∧ PlateAt cs H p a ∧ PlOk a ∧ Q (.int a.why) H
theorem ok_Plate_weighing_refusal {P : Program} {w : World} {K : PySem.W.Frag} {mg : Str → Option Value} {base : Heap} {cs : Cs} (T : Txt K mg cs) : MOk P w K mg base 5 cs.Plate "weighing_refusal" ["self"] (sp_Plate_weighing_refusal K cs) := by
  refine T.Plate.m_weighing_refusal.ok sc_Plate_weighing_refusal bd_Plate_weighing_refusal (fun vs H Q E h => ?_) (fun f cdv A outer s H vs Q E hr h => ?_)
  · obtain ⟨p, a, rfl, _⟩ := h; rfl
  · obtain ⟨p, a, rfl, hP, ok, q⟩ := h
    have hP' := hP
    obtain ⟨dp, ax, hp, hax⟩ := hP'
    refine ⟨_, (pss_cons (ps_if (pt_val (pm0 (pv 0) T.Plate.cl (ok_Plate_is_empty T) (hr.mono (by decide)))) (pss_one (ps_ret (pgi T.g_NOTHING_THERE))) pss_nil) (pss_cons (ps_if (pt_val (pm0 (pv 0) T.Plate.cl (ok_Plate_shows_too_much T) (hr.mono (by decide)))) (pss_one (ps_ret (pgi T.g_TOO_MUCH))) pss_nil) (pss_cons (ps_if (pt_cmpR op_le (pm0 (pv 0) T.Plate.cl (ok_Plate_reading T) (hr.mono (by decide))) pe_int (nomark _)) (pss_one (ps_ret (pgi T.g_SHOWS_NOTHING))) pss_nil) (pss_one (ps_ret (pgi T.g_FINE)))))), ?_⟩
    refine ⟨_, rfl, p, dp, _, rfl, hp, rfl, _, a, rfl, hP, _, rfl, ite2 (fun c => ?_) (fun c => ?_)⟩
    · rw [Kv319.Abs.why, if_pos (List.isEmpty_iff.mp c)] at q; exact q
    · have c1 : ¬ a.load = [] := fun z => c (List.isEmpty_iff.mpr z)
      refine ⟨_, rfl, p, dp, _, rfl, hp, rfl, _, a, rfl, hP, ok, _, rfl, ite2 (fun c => ?_) (fun c => ?_)⟩
      · rw [Kv319.Abs.why, if_neg c1, if_pos c] at q; exact q
      · rw [Kv319.Abs.why, if_neg c1, if_neg c] at q
        refine ⟨_, rfl, p, dp, _, rfl, hp, rfl, _, a, rfl, hP, ok, _, _, rfl, rfl, _, rfl, ite2 (fun c => ?_) (fun c => ?_)⟩
        · rw [if_pos (of_decide_eq_true c)] at q; exact q
        · rw [if_neg fun z => c (decide_eq_true z)] at q; exact q
end Wb

end
section
set_option Elab.async false
set_option linter.all false
set_option maxRecDepth 100000
set_option maxHeartbeats 4000000
/-! The defs of a ticket, of goods, of a lorry. -/
namespace Wb
open PySem PySem.Spec PyProof.Rows L2
theorem dV {i j : Int} : (decide ((V.int i : V) = V.int j) = true) ↔ i = j := by
  rw [decide_eq_true_eq]; exact ⟨fun h => by injection h, fun h => by rw [h]⟩
def sp_Ticket_net_with (K : PySem.W.Frag) (cs : Cs) : Sp := fun vs H Q _ => ∃ k dk t n, vs = [.ref k, nI n] ∧ H k = some (.ins cs.Ticket dk (tfs t)) ∧ Q (nI (Kv319.netOf t.way t.first n)) H
theorem ok_Ticket_net_with {P : Program} {w : World} {K : PySem.W.Frag} {mg : Str → Option Value} {base : Heap} {cs : Cs} (T : Txt K mg cs) : MOk P w K mg base 1 cs.Ticket "net_with" ["self", "second"] (sp_Ticket_net_with K cs) := by
  refine T.Ticket.m_net_with.ok sc_Ticket_net_with bd_Ticket_net_with (fun vs H Q E h => ?_) (fun f cdv A outer s H vs Q E hr h => ?_)
  · obtain ⟨k, dk, t, n, rfl, _⟩ := h; rfl
  · obtain ⟨k, dk, t, n, rfl, hk, q⟩ := h
    refine ⟨_, (pss_cons (ps_if (pt_cmpR op_eq (pe_fld (pv 0) rfl) (pgi T.g_BRINGS) (nomark _)) (pss_one (ps_ret (pb (call_max2 rfl) T.b_max bt_max (pa_cons (pe_op op_sub (pe_fld (pv 0) rfl) (pv 1)) (pa_cons pe_int pa_nil))))) pss_nil) (pss_one (ps_ret (pb (call_max2 rfl) T.b_max bt_max (pa_cons (pe_op op_sub (pv 1) (pe_fld (pv 0) rfl)) (pa_cons pe_int pa_nil)))))), ?_⟩
    refine ⟨_, rfl, k, cs.Ticket, dk, _, _, rfl, hk, T.Ticket.cl, T.Ticket.n_way, rfl, rfl, _, rfl, ite2 (fun c => ?_) (fun c => ?_)⟩
    · have c := dV.mp c
      refine ⟨_, rfl, k, cs.Ticket, dk, _, _, rfl, hk, T.Ticket.cl, T.Ticket.n_first, rfl, _, rfl, _, _, rfl, rfl, _, _, rfl, ?_⟩
      rw [Kv319.netOf, if_pos (by omega)] at q
      have q : Q (.int (if (0 : Int) > (t.first : Int) - (n : Int) then (0 : Int) else (t.first : Int) - (n : Int))) H := by rw [show (if (0 : Int) > (t.first : Int) - (n : Int) then (0 : Int) else (t.first : Int) - (n : Int)) = ((t.first - n : Nat) : Int) by split <;> omega]; exact q
      exact q
    · have c : ¬ (t.way : Int) = 0 := fun z => c (dV.mpr z)
      refine ⟨_, rfl, _, rfl, k, cs.Ticket, dk, _, _, rfl, hk, T.Ticket.cl, T.Ticket.n_first, rfl, _, _, rfl, rfl, _, _, rfl, ?_⟩
      rw [Kv319.netOf, if_neg (by omega)] at q
      have q : Q (.int (if (0 : Int) > (n : Int) - (t.first : Int) then (0 : Int) else (n : Int) - (t.first : Int))) H := by rw [show (if (0 : Int) > (n : Int) - (t.first : Int) then (0 : Int) else (n : Int) - (t.first : Int)) = ((n - t.first : Nat) : Int) by split <;> omega]; exact q
      exact q
theorem dry_eq {n m wet : Nat} (h : wet ≤ 50) (hm : m ≤ 100) : (n : Int) * (100 - (m : Int)) / (100 - (wet : Int)) = ((n * (100 - m) / (100 - wet) : Nat) : Int) := by
  rw [Int.natCast_ediv, Int.natCast_mul, Int.ofNat_sub hm, Int.ofNat_sub (by omega)]; rfl
def sp_Goods_paid_for (K : PySem.W.Frag) (cs : Cs) : Sp := fun vs H Q _ => ∃ g dg z n m, vs = [.ref g, nI n, nI m] ∧ H g = some (.ins cs.Goods dg (gfs z)) ∧ z.wet ≤ 50 ∧ m ≤ 100 ∧ Q (nI (Kv319.dry n m z.wet)) H
theorem ok_Goods_paid_for {P : Program} {w : World} {K : PySem.W.Frag} {mg : Str → Option Value} {base : Heap} {cs : Cs} (T : Txt K mg cs) : MOk P w K mg base 1 cs.Goods "paid_for" ["self", "net", "moist"] (sp_Goods_paid_for K cs) := by
  refine T.Goods.m_paid_for.ok sc_Goods_paid_for bd_Goods_paid_for (fun vs H Q E h => ?_) (fun f cdv A outer s H vs Q E hr h => ?_)
  · obtain ⟨g, dg, z, n, m, rfl, _⟩ := h; rfl
  · obtain ⟨g, dg, z, n, m, rfl, hg, hw, hm, q⟩ := h
    refine ⟨_, (pss_cons (ps_if (pt_cmpR op_le (pv 2) (pe_fld (pv 0) rfl) (nomark _)) (pss_one (ps_ret (pv 1))) pss_nil) (pss_one (ps_ret (pe_op op_fdiv (pe_op op_mul (pv 1) (pe_op op_sub pe_int (pv 2))) (pe_op op_sub pe_int (pe_fld (pv 0) rfl)))))), ?_⟩
    refine ⟨_, rfl, _, rfl, g, cs.Goods, dg, _, _, rfl, hg, T.Goods.cl, T.Goods.n_wet, rfl, _, _, rfl, rfl, _, rfl, ite2 (fun c => ?_) (fun c => ?_)⟩
    · have c := of_decide_eq_true c
      rw [Kv319.dry, if_pos (by omega)] at q
      exact ⟨_, rfl, q⟩
    · have c : ¬ (m : Int) ≤ (z.wet : Int) := fun h => c (decide_eq_true h)
      rw [Kv319.dry, if_neg (by omega)] at q
      refine ⟨_, rfl, _, rfl, _, _, rfl, rfl, _, _, rfl, rfl, (by unfold CMul; omega), _, rfl, g, cs.Goods, dg, _, _, rfl, hg, T.Goods.cl, T.Goods.n_wet, rfl, _, _, rfl, rfl, _, _, rfl, rfl, (by unfold CDiv; omega), ?_⟩
      have q : Q (.int ((n : Int) * (100 - (m : Int)) / (100 - (z.wet : Int)))) H := by rw [dry_eq hw hm]; exact q
      exact q
def sp_Goods_amount_for (K : PySem.W.Frag) (cs : Cs) : Sp := fun vs H Q _ => ∃ g dg z n, vs = [.ref g, nI n] ∧ H g = some (.ins cs.Goods dg (gfs z)) ∧ z.price ≤ 100000 ∧ Q (nI (Kv319.cost z.price n)) H
theorem ok_Goods_amount_for {P : Program} {w : World} {K : PySem.W.Frag} {mg : Str → Option Value} {base : Heap} {cs : Cs} (T : Txt K mg cs) : MOk P w K mg base 1 cs.Goods "amount_for" ["self", "paid"] (sp_Goods_amount_for K cs) := by
  refine T.Goods.m_amount_for.ok sc_Goods_amount_for bd_Goods_amount_for (fun vs H Q E h => ?_) (fun f cdv A outer s H vs Q E hr h => ?_)
  · obtain ⟨g, dg, z, n, rfl, _⟩ := h; rfl
  · obtain ⟨g, dg, z, n, rfl, hg, hp, q⟩ := h
    refine ⟨_, (pss_one (ps_ret (pe_op op_fdiv (pe_op op_add (pe_op op_mul (pv 1) (pe_fld (pv 0) rfl)) pe_int) pe_int))), ?_⟩
    refine ⟨_, rfl, _, rfl, g, cs.Goods, dg, _, _, rfl, hg, T.Goods.cl, T.Goods.n_price, rfl, _, _, rfl, rfl, (by unfold CMul; omega), _, _, rfl, rfl, _, _, rfl, rfl, (by unfold CDiv; omega), ?_⟩
    have e : ((n : Int) * (z.price : Int) + 500) / 1000 = ((Kv319.cost z.price n : Nat) : Int) := by
      rw [Kv319.cost, Int.natCast_ediv, Int.natCast_add, Int.natCast_mul]; rfl
    have q : Q (.int (((n : Int) * (z.price : Int) + 500) / 1000)) H := by rw [e]; exact q
    exact q
def sp_Goods_room_left (K : PySem.W.Frag) (cs : Cs) : Sp := fun vs H Q _ => ∃ g dg z, vs = [.ref g] ∧ H g = some (.ins cs.Goods dg (gfs z)) ∧ Q (.int ((z.most : Int) - (z.stock : Int))) H
theorem ok_Goods_room_left {P : Program} {w : World} {K : PySem.W.Frag} {mg : Str → Option Value} {base : Heap} {cs : Cs} (T : Txt K mg cs) : MOk P w K mg base 1 cs.Goods "room_left" ["self"] (sp_Goods_room_left K cs) := by
  refine T.Goods.m_room_left.ok sc_Goods_room_left bd_Goods_room_left (fun vs H Q E h => ?_) (fun f cdv A outer s H vs Q E hr h => ?_)
  · obtain ⟨g, dg, z, rfl, _⟩ := h; rfl
  · obtain ⟨g, dg, z, rfl, hg, q⟩ := h
    refine ⟨_, (pss_one (ps_ret (pe_op op_sub (pe_fld (pv 0) rfl) (pe_fld (pv 0) rfl)))), ?_⟩
    exact ⟨_, rfl, g, cs.Goods, dg, _, _, rfl, hg, T.Goods.cl, T.Goods.n_most, rfl, _, rfl, g, cs.Goods, dg, _, _, rfl, hg, T.Goods.cl, T.Goods.n_stock, rfl, _, _, rfl, rfl, q⟩
def stockI (z : Kv319.Kind) (way net : Nat) : Int := if way = 0 then (if z.most < z.stock + net then -75 else 0) else if z.stock < net then -33 else 0
def sp_Goods_stock_refusal (K : PySem.W.Frag) (cs : Cs) : Sp := fun vs H Q _ => ∃ g dg z way net, vs = [.ref g, nI way, nI net] ∧ H g = some (.ins cs.Goods dg (gfs z)) ∧ Q (.int (stockI z way net)) H
theorem ok_Goods_stock_refusal {P : Program} {w : World} {K : PySem.W.Frag} {mg : Str → Option Value} {base : Heap} {cs : Cs} (T : Txt K mg cs) : MOk P w K mg base 2 cs.Goods "stock_refusal" ["self", "way", "net"] (sp_Goods_stock_refusal K cs) := by
  refine T.Goods.m_stock_refusal.ok sc_Goods_stock_refusal bd_Goods_stock_refusal (fun vs H Q E h => ?_) (fun f cdv A outer s H vs Q E hr h => ?_)
  · obtain ⟨g, dg, z, way, net, rfl, _⟩ := h; rfl
  · obtain ⟨g, dg, z, way, net, rfl, hg, q⟩ := h
    refine ⟨_, (pss_cons (ps_if (pt_cmpR op_eq (pv 1) (pgi T.g_BRINGS) (nomark _)) (pss_one (ps_ret (pe_ifExp (pt_cmpR op_gt (pv 2) (pm0 (pv 0) T.Goods.cl (ok_Goods_room_left T) (hr.mono (by decide))) (nomark _)) (pgi T.g_NO_ROOM) (pgi T.g_FINE)))) pss_nil) (pss_one (ps_ret (pe_ifExp (pt_cmpR op_lt (pe_fld (pv 0) rfl) (pv 2) (nomark _)) (pgi T.g_NOT_SO_MUCH) (pgi T.g_FINE))))), ?_⟩
    refine ⟨_, rfl, rfl, _, rfl, ite2 (fun c => ?_) (fun c => ?_)⟩
    · have c := dV.mp c
      rw [stockI, if_pos (by omega)] at q
      refine ⟨_, rfl, _, rfl, g, dg, _, rfl, hg, rfl, _, _, z, rfl, hg, _, _, rfl, rfl, _, rfl, ite2 (fun d => ?_) (fun d => ?_)⟩
      · have d := of_decide_eq_true d
        rw [if_pos (by omega)] at q; exact q
      · have d : ¬ (z.most : Int) - (z.stock : Int) < (net : Int) := fun h => d (decide_eq_true h)
        rw [if_neg (by omega)] at q; exact q
    · have c : ¬ (way : Int) = 0 := fun z => c (dV.mpr z)
      rw [stockI, if_neg (by omega)] at q
      refine ⟨_, rfl, g, cs.Goods, dg, _, _, rfl, hg, T.Goods.cl, T.Goods.n_stock, rfl, _, rfl, _, _, rfl, rfl, _, rfl, ite2 (fun d => ?_) (fun d => ?_)⟩
      · have d := of_decide_eq_true d
        rw [if_pos (by omega)] at q; exact q
      · have d : ¬ (z.stock : Int) < (net : Int) := fun h => d (decide_eq_true h)
        rw [if_neg (by omega)] at q; exact q
def movedK (z : Kv319.Kind) (way net : Nat) : Kv319.Kind := { z with stock := if way = 0 then z.stock + net else z.stock - net }
def sp_Goods_move (K : PySem.W.Frag) (cs : Cs) : Sp := fun vs H Q _ => ∃ g dg z way net, vs = [.ref g, nI way, nI net] ∧ H g = some (.ins cs.Goods dg (gfs z)) ∧ (way = 0 ∨ net ≤ z.stock) ∧
  Q .non (upd H g (.ins cs.Goods dg (gfs (movedK z way net))))
theorem ok_Goods_move {P : Program} {w : World} {K : PySem.W.Frag} {mg : Str → Option Value} {base : Heap} {cs : Cs} (T : Txt K mg cs) : MOk P w K mg base 1 cs.Goods "move" ["self", "way", "net"] (sp_Goods_move K cs) := by
  refine T.Goods.m_move.ok sc_Goods_move bd_Goods_move (fun vs H Q E h => ?_) (fun f cdv A outer s H vs Q E hr h => ?_)
  · obtain ⟨g, dg, z, way, net, rfl, _⟩ := h; rfl
  · obtain ⟨g, dg, z, way, net, rfl, hg, hs, q⟩ := h
    refine ⟨_, (pss_one (ps_if (pt_cmpR op_eq (pv 1) (pgi T.g_BRINGS) (nomark _)) (pss_one (ps_fld (pv 0) (pe_op op_add (pe_fld (pv 0) rfl) (pv 2)) rfl)) (pss_one (ps_fld (pv 0) (pe_op op_sub (pe_fld (pv 0) rfl) (pv 2)) rfl)))), ?_⟩
    refine ⟨_, rfl, rfl, _, rfl, ite2 (fun c => ?_) (fun c => ?_)⟩
    · have c := dV.mp c
      refine ⟨_, rfl, g, cs.Goods, dg, _, _, rfl, hg, T.Goods.cl, T.Goods.n_stock, rfl, _, rfl, _, _, rfl, rfl, _, rfl, g, cs.Goods, dg, _, rfl, hg, T.Goods.cl, T.Goods.n_stock, (by show 4 < 1000; decide), ?_⟩
      rw [movedK, if_pos (by omega)] at q
      exact q
    · have c : ¬ (way : Int) = 0 := fun z => c (dV.mpr z)
      refine ⟨_, rfl, g, cs.Goods, dg, _, _, rfl, hg, T.Goods.cl, T.Goods.n_stock, rfl, _, rfl, _, _, rfl, rfl, _, rfl, g, cs.Goods, dg, _, rfl, hg, T.Goods.cl, T.Goods.n_stock, (by show 4 < 1000; decide), ?_⟩
      rw [movedK, if_neg (by omega)] at q
      have e : (z.stock : Int) - (net : Int) = ((z.stock - net : Nat) : Int) := by omega
      have e2 : putF "stock" (V.int ((z.stock : Int) - (net : Int))) (gfs z) = gfs { z with stock := z.stock - net } := by rw [e]; rfl
      show Q .non (upd H g (.ins cs.Goods dg (putF "stock" (V.int ((z.stock : Int) - (net : Int))) (gfs z))))
      rw [e2]; exact q
end Wb

end
section
set_option Elab.async false
set_option linter.all false
set_option maxRecDepth 100000
set_option maxHeartbeats 4000000
/-! The defs of a lorry. -/
namespace Wb
open PySem PySem.Spec PyProof.Rows L2
theorem at_last {xs : List V} {v : V} : atI (xs ++ [v]) (-1) = some v := by
  have h1 : ¬ (0 : Int) ≤ -1 := by omega
  have h2 : -(((xs ++ [v]).length : Nat) : Int) ≤ -1 := by rw [List.length_append]; simp; omega
  have h3 : (-1 + (((xs ++ [v]).length : Nat) : Int)).toNat = xs.length := by rw [List.length_append]; simp; omega
  unfold atI ixN
  rw [if_neg h1, if_pos h2, h3]
  simp
theorem same_new {H : Hp} {p : Addr} {o : HO} (h : H p = none) : Same H (upd H p o) := fun b u e => by rw [upd_ne (ne_of_none e h)]; exact e
def sp_Lorry_last_tare (K : PySem.W.Frag) (cs : Cs) : Sp := fun vs H Q _ => ∃ l dl z tx w r, vs = [.ref l] ∧ H l = some (.ins cs.Lorry dl (lfs z tx)) ∧ H tx = some (nL z.tares.reverse) ∧ z.tares = w :: r ∧ Q (nI w) H
theorem ok_Lorry_last_tare {P : Program} {w : World} {K : PySem.W.Frag} {mg : Str → Option Value} {base : Heap} {cs : Cs} (T : Txt K mg cs) : MOk P w K mg base 1 cs.Lorry "last_tare" ["self"] (sp_Lorry_last_tare K cs) := by
  refine T.Lorry.m_last_tare.ok sc_Lorry_last_tare bd_Lorry_last_tare (fun vs H Q E h => ?_) (fun f cdv A outer s H vs Q E hr h => ?_)
  · obtain ⟨l, dl, z, tx, w, r, rfl, _⟩ := h; rfl
  · obtain ⟨l, dl, z, tx, w, r, rfl, hl, ht, e, q⟩ := h
    refine ⟨_, (pss_one (ps_ret (pe_ix ix_list (pe_fld (pv 0) rfl) (pe_un un_neg pe_int) (fun _ _ => rfl)))), ?_⟩
    refine ⟨_, rfl, l, cs.Lorry, dl, _, _, rfl, hl, T.Lorry.cl, T.Lorry.n_tares, rfl, _, rfl, _, _, _, _, rfl, rfl, SqL.of ht, ?_, q⟩
    rw [e, List.reverse_cons, List.map_append, List.map_append]
    exact at_last
def goodI (z : Kv319.Lorry) (day good : Nat) : Bool := !z.tares.isEmpty && decide (day ≤ z.day + good)
theorem len_pos (l : List Nat) : decide ((0 : Int) < (((l.reverse.map Int.ofNat).map V.int).length : Nat)) = !l.isEmpty := by
  cases l with
  | nil => rfl
  | cons x r => exact decide_eq_true (by simp)
def sp_Lorry_has_tare (K : PySem.W.Frag) (cs : Cs) : Sp := fun vs H Q _ => ∃ l dl z tx, vs = [.ref l] ∧ H l = some (.ins cs.Lorry dl (lfs z tx)) ∧ H tx = some (nL z.tares.reverse) ∧ Q (.bl (!z.tares.isEmpty)) H
theorem ok_Lorry_has_tare {P : Program} {w : World} {K : PySem.W.Frag} {mg : Str → Option Value} {base : Heap} {cs : Cs} (T : Txt K mg cs) : MOk P w K mg base 1 cs.Lorry "has_tare" ["self"] (sp_Lorry_has_tare K cs) := by
  refine T.Lorry.m_has_tare.ok sc_Lorry_has_tare bd_Lorry_has_tare (fun vs H Q E h => ?_) (fun f cdv A outer s H vs Q E hr h => ?_)
  · obtain ⟨l, dl, z, tx, rfl, _⟩ := h; rfl
  · obtain ⟨l, dl, z, tx, rfl, hl, ht, q⟩ := h
    refine ⟨_, (pss_one (ps_ret (pe_cmpR op_gt (pb call_len_seq T.b_len bt_len (pa_cons (pe_fld (pv 0) rfl) pa_nil)) pe_int (nomark _)))), ?_⟩
    refine ⟨_, rfl, l, cs.Lorry, dl, _, _, rfl, hl, T.Lorry.cl, T.Lorry.n_tares, rfl, _, _, rfl, .inl (SqL.of ht), _, _, rfl, rfl, ?_⟩
    rw [← len_pos] at q
    exact q
def sp_Lorry_tare_age (K : PySem.W.Frag) (cs : Cs) : Sp := fun vs H Q _ => ∃ l dl z tx d, vs = [.ref l, nI d] ∧ H l = some (.ins cs.Lorry dl (lfs z tx)) ∧ Q (.int ((d : Int) - (z.day : Int))) H
theorem ok_Lorry_tare_age {P : Program} {w : World} {K : PySem.W.Frag} {mg : Str → Option Value} {base : Heap} {cs : Cs} (T : Txt K mg cs) : MOk P w K mg base 1 cs.Lorry "tare_age" ["self", "day"] (sp_Lorry_tare_age K cs) := by
  refine T.Lorry.m_tare_age.ok sc_Lorry_tare_age bd_Lorry_tare_age (fun vs H Q E h => ?_) (fun f cdv A outer s H vs Q E hr h => ?_)
  · obtain ⟨l, dl, z, tx, d, rfl, _⟩ := h; rfl
  · obtain ⟨l, dl, z, tx, d, rfl, hl, q⟩ := h
    refine ⟨_, (pss_one (ps_ret (pe_op op_sub (pv 1) (pe_fld (pv 0) rfl)))), ?_⟩
    exact ⟨_, rfl, _, rfl, l, cs.Lorry, dl, _, _, rfl, hl, T.Lorry.cl, T.Lorry.n_tare_day, rfl, _, _, rfl, rfl, q⟩
def sp_Lorry_has_good_tare (K : PySem.W.Frag) (cs : Cs) : Sp := fun vs H Q _ => ∃ l dl z tx d g, vs = [.ref l, nI d, nI g] ∧ H l = some (.ins cs.Lorry dl (lfs z tx)) ∧ H tx = some (nL z.tares.reverse) ∧ Q (.bl (goodI z d g)) H
theorem ok_Lorry_has_good_tare {P : Program} {w : World} {K : PySem.W.Frag} {mg : Str → Option Value} {base : Heap} {cs : Cs} (T : Txt K mg cs) : MOk P w K mg base 2 cs.Lorry "has_good_tare" ["self", "day", "good"] (sp_Lorry_has_good_tare K cs) := by
  refine T.Lorry.m_has_good_tare.ok sc_Lorry_has_good_tare bd_Lorry_has_good_tare (fun vs H Q E h => ?_) (fun f cdv A outer s H vs Q E hr h => ?_)
  · obtain ⟨l, dl, z, tx, d, g, rfl, _⟩ := h; rfl
  · obtain ⟨l, dl, z, tx, d, g, rfl, hl, ht, q⟩ := h
    refine ⟨_, (pss_one (ps_ret (pe_and (pm0 (pv 0) T.Lorry.cl (ok_Lorry_has_tare T) (hr.mono (by decide))) (pe_one (pe_cmpR op_le (pm (pv 0) T.Lorry.cl (ok_Lorry_tare_age T) (hr.mono (by decide)) (pa_cons (pv 1) pa_nil)) (pv 2) (nomark _)))))), ?_⟩
    refine ⟨_, rfl, l, dl, _, rfl, hl, rfl, l, dl, z, tx, rfl, hl, ht, _, rfl, ite2 (fun c => ?_) (fun c => ?_)⟩
    · refine ⟨_, rfl, l, dl, _, rfl, hl, rfl, _, rfl, l, dl, z, tx, d, rfl, hl, _, rfl, _, _, rfl, rfl, ?_⟩
      have e : decide ((d : Int) - (z.day : Int) ≤ (g : Int)) = decide (d ≤ z.day + g) := decide_eq_decide.mpr (by omega)
      rw [goodI, c, Bool.true_and, ← e] at q
      exact q
    · have c : (!z.tares.isEmpty) = false := Bool.eq_false_iff.mpr c
      rw [goodI, c, Bool.false_and] at q
      exact q
def sp_Lorry_has_two_tares (K : PySem.W.Frag) (cs : Cs) : Sp := fun vs H Q _ => ∃ l dl z tx, vs = [.ref l] ∧ H l = some (.ins cs.Lorry dl (lfs z tx)) ∧ H tx = some (nL z.tares.reverse) ∧ Q (.bl (decide (z.tares.length = 2))) H
theorem ok_Lorry_has_two_tares {P : Program} {w : World} {K : PySem.W.Frag} {mg : Str → Option Value} {base : Heap} {cs : Cs} (T : Txt K mg cs) : MOk P w K mg base 1 cs.Lorry "has_two_tares" ["self"] (sp_Lorry_has_two_tares K cs) := by
  refine T.Lorry.m_has_two_tares.ok sc_Lorry_has_two_tares bd_Lorry_has_two_tares (fun vs H Q E h => ?_) (fun f cdv A outer s H vs Q E hr h => ?_)
  · obtain ⟨l, dl, z, tx, rfl, _⟩ := h; rfl
  · obtain ⟨l, dl, z, tx, rfl, hl, ht, q⟩ := h
    refine ⟨_, (pss_one (ps_ret (pe_cmpR op_eq (pb call_len_seq T.b_len bt_len (pa_cons (pe_fld (pv 0) rfl) pa_nil)) (pgi T.g_TARES_KEPT) (nomark _)))), ?_⟩
    refine ⟨_, rfl, l, cs.Lorry, dl, _, _, rfl, hl, T.Lorry.cl, T.Lorry.n_tares, rfl, _, _, rfl, .inl (SqL.of ht), rfl, ?_⟩
    have e : decide ((V.int ((((z.tares.reverse.map Int.ofNat).map V.int).length : Nat) : Int) : V) = V.int 2) = decide (z.tares.length = 2) := by
      rw [Bool.eq_iff_iff, dV, decide_eq_true_eq, List.length_map, List.length_map, List.length_reverse]; omega
    rw [← e] at q
    exact q
def sp_Lorry_tare_change (K : PySem.W.Frag) (cs : Cs) : Sp := fun vs H Q _ => ∃ l dl z tx v w, vs = [.ref l] ∧ H l = some (.ins cs.Lorry dl (lfs z tx)) ∧ H tx = some (nL z.tares.reverse) ∧ z.tares = [v, w] ∧ Q (.int ((v : Int) - (w : Int))) H
theorem ok_Lorry_tare_change {P : Program} {w : World} {K : PySem.W.Frag} {mg : Str → Option Value} {base : Heap} {cs : Cs} (T : Txt K mg cs) : MOk P w K mg base 1 cs.Lorry "tare_change" ["self"] (sp_Lorry_tare_change K cs) := by
  refine T.Lorry.m_tare_change.ok sc_Lorry_tare_change bd_Lorry_tare_change (fun vs H Q E h => ?_) (fun f cdv A outer s H vs Q E hr h => ?_)
  · obtain ⟨l, dl, z, tx, v, w, rfl, _⟩ := h; rfl
  · obtain ⟨l, dl, z, tx, v, w, rfl, hl, ht, e, q⟩ := h
    refine ⟨_, (pss_one (ps_ret (pe_op op_sub (pe_ix ix_list (pe_fld (pv 0) rfl) pe_int (fun _ _ => rfl)) (pe_ix ix_list (pe_fld (pv 0) rfl) pe_int (fun _ _ => rfl))))), ?_⟩
    exact ⟨_, rfl, l, cs.Lorry, dl, _, _, rfl, hl, T.Lorry.cl, T.Lorry.n_tares, rfl, _, _, _, _, rfl, rfl, SqL.of ht, (by rw [e]; exact atI_nat (j := 1) rfl), _, rfl, l, cs.Lorry, dl, _, _, rfl, hl, T.Lorry.cl, T.Lorry.n_tares, rfl, _, _, _, _, rfl, rfl, SqL.of ht, (by rw [e]; exact atI_nat (j := 0) rfl), _, _, rfl, rfl, q⟩
def oddI (v w : Nat) : Bool := decide (2 * w < 100 * (max v w - min v w))
def sp_Lorry_has_odd_tare (K : PySem.W.Frag) (cs : Cs) : Sp := fun vs H Q _ => ∃ l dl z tx v w, vs = [.ref l] ∧ H l = some (.ins cs.Lorry dl (lfs z tx)) ∧ H tx = some (nL z.tares.reverse) ∧ z.tares = [v, w] ∧ Q (.bl (oddI v w)) H
theorem ok_Lorry_has_odd_tare {P : Program} {w : World} {K : PySem.W.Frag} {mg : Str → Option Value} {base : Heap} {cs : Cs} (T : Txt K mg cs) : MOk P w K mg base 2 cs.Lorry "has_odd_tare" ["self"] (sp_Lorry_has_odd_tare K cs) := by
  refine T.Lorry.m_has_odd_tare.ok sc_Lorry_has_odd_tare bd_Lorry_has_odd_tare (fun vs H Q E h => ?_) (fun f cdv A outer s H vs Q E hr h => ?_)
  · obtain ⟨l, dl, z, tx, v, w, rfl, _⟩ := h; rfl
  · obtain ⟨l, dl, z, tx, v, w, rfl, hl, ht, e, q⟩ := h
    refine ⟨_, (pss_one (ps_ret (pe_cmpR op_gt (pe_op op_mul (pb call_abs T.b_abs bt_abs (pa_cons (pm0 (pv 0) T.Lorry.cl (ok_Lorry_tare_change T) (hr.mono (by decide))) pa_nil)) pe_int) (pe_op op_mul (pgi T.g_ALIKE_HUNDREDTHS) (pe_ix ix_list (pe_fld (pv 0) rfl) pe_int (fun _ _ => rfl))) (nomark _)))), ?_⟩
    refine ⟨_, rfl, l, dl, _, rfl, hl, rfl, l, dl, z, tx, v, w, rfl, hl, ht, e, _, rfl, _, _, rfl, rfl, (.inr ⟨by decide, by decide⟩), _, rfl, l, cs.Lorry, dl, _, _, rfl, hl, T.Lorry.cl, T.Lorry.n_tares, rfl, _, _, _, _, rfl, rfl, SqL.of ht, (by rw [e]; exact atI_nat (j := 0) rfl), _, _, rfl, rfl, (.inl ⟨by decide, by decide⟩), _, _, rfl, rfl, ?_⟩
    have e2 : decide (2 * (w : Int) < (if (v : Int) - (w : Int) < 0 then -((v : Int) - (w : Int)) else (v : Int) - (w : Int)) * 100) = oddI v w := by
      unfold oddI
      refine decide_eq_decide.mpr ?_
      by_cases c : (v : Int) - (w : Int) < 0
      · rw [if_pos c, Nat.max_eq_right (by omega), Nat.min_eq_left (by omega)]; omega
      · rw [if_neg c, Nat.max_eq_left (by omega), Nat.min_eq_right (by omega)]; omega
    rw [← e2] at q
    exact q
theorem foldl_max_ge : ∀ (l : List Nat) (x : Nat), x ≤ l.foldl max x
  | [], x => Nat.le_refl x
  | y :: r, x => Nat.le_trans (Nat.le_max_left x y) (foldl_max_ge r (max x y))
theorem foldl_max_mem_le : ∀ (l : List Nat) (x y : Nat), y ∈ l → y ≤ l.foldl max x
  | z :: r, x, y, h => by
    rcases List.mem_cons.mp h with rfl | h
    · exact Nat.le_trans (Nat.le_max_right x y) (foldl_max_ge r (max x y))
    · exact foldl_max_mem_le r (max x z) y h
theorem foldl_max_in : ∀ (l : List Nat) (x : Nat), l.foldl max x = x ∨ l.foldl max x ∈ l
  | [], x => .inl rfl
  | y :: r, x => by
    rcases foldl_max_in r (max x y) with h | h
    · rw [List.foldl_cons, h]
      by_cases c : x ≤ y
      · rw [Nat.max_eq_right c]; exact .inr List.mem_cons_self
      · rw [Nat.max_eq_left (by omega)]; exact .inl rfl
    · exact .inr (List.mem_cons_of_mem _ h)
theorem max_is {l : List Nat} {m : Int} (h1 : m ∈ l.map Int.ofNat) (h2 : ∀ y, y ∈ l.map Int.ofNat → y ≤ m) : m = ((l.foldl max 0 : Nat) : Int) := by
  obtain ⟨k, hk, rfl⟩ := List.mem_map.mp h1
  have a1 := foldl_max_mem_le l 0 k hk
  have a2 : l.foldl max 0 ≤ k := by
    rcases foldl_max_in l 0 with h | h
    · rw [h]; exact Nat.zero_le _
    · have := h2 (Int.ofNat (l.foldl max 0)) (List.mem_map.mpr ⟨_, h, rfl⟩)
      exact Int.ofNat_le.mp this
  exact congrArg Int.ofNat (Nat.le_antisymm a1 a2)
theorem clip {i j : Nat} : (if (0 : Int) > (i : Int) - (j : Int) then (0 : Int) else (i : Int) - (j : Int)) = ((i - j : Nat) : Int) := by split <;> omega
def sp_Lorry_gross_above (K : PySem.W.Frag) (cs : Cs) : Sp := fun vs H Q _ => ∃ l dl z tx w, vs = [.ref l, nI w] ∧ H l = some (.ins cs.Lorry dl (lfs z tx)) ∧ Q (nI (w - z.gross)) H
theorem ok_Lorry_gross_above {P : Program} {w : World} {K : PySem.W.Frag} {mg : Str → Option Value} {base : Heap} {cs : Cs} (T : Txt K mg cs) : MOk P w K mg base 1 cs.Lorry "gross_above" ["self", "weight"] (sp_Lorry_gross_above K cs) := by
  refine T.Lorry.m_gross_above.ok sc_Lorry_gross_above bd_Lorry_gross_above (fun vs H Q E h => ?_) (fun f cdv A outer s H vs Q E hr h => ?_)
  · obtain ⟨l, dl, z, tx, w, rfl, _⟩ := h; rfl
  · obtain ⟨l, dl, z, tx, w, rfl, hl, q⟩ := h
    refine ⟨_, (pss_one (ps_ret (pb (call_max2 rfl) T.b_max bt_max (pa_cons (pe_op op_sub (pv 1) (pe_fld (pv 0) rfl)) (pa_cons pe_int pa_nil))))), ?_⟩
    refine ⟨_, rfl, _, rfl, l, cs.Lorry, dl, _, _, rfl, hl, T.Lorry.cl, T.Lorry.n_gross_most, rfl, _, _, rfl, rfl, _, _, rfl, ?_⟩
    have q : Q (.int (if (0 : Int) > (w : Int) - (z.gross : Int) then (0 : Int) else (w : Int) - (z.gross : Int))) H := by rw [clip]; exact q
    exact q
def sp_Lorry_gross_left (K : PySem.W.Frag) (cs : Cs) : Sp := fun vs H Q _ => ∃ l dl z tx w, vs = [.ref l, nI w] ∧ H l = some (.ins cs.Lorry dl (lfs z tx)) ∧ Q (nI (z.gross - w)) H
theorem ok_Lorry_gross_left {P : Program} {w : World} {K : PySem.W.Frag} {mg : Str → Option Value} {base : Heap} {cs : Cs} (T : Txt K mg cs) : MOk P w K mg base 1 cs.Lorry "gross_left" ["self", "weight"] (sp_Lorry_gross_left K cs) := by
  refine T.Lorry.m_gross_left.ok sc_Lorry_gross_left bd_Lorry_gross_left (fun vs H Q E h => ?_) (fun f cdv A outer s H vs Q E hr h => ?_)
  · obtain ⟨l, dl, z, tx, w, rfl, _⟩ := h; rfl
  · obtain ⟨l, dl, z, tx, w, rfl, hl, q⟩ := h
    refine ⟨_, (pss_one (ps_ret (pb (call_max2 rfl) T.b_max bt_max (pa_cons (pe_op op_sub (pe_fld (pv 0) rfl) (pv 1)) (pa_cons pe_int pa_nil))))), ?_⟩
    refine ⟨_, rfl, l, cs.Lorry, dl, _, _, rfl, hl, T.Lorry.cl, T.Lorry.n_gross_most, rfl, _, rfl, _, _, rfl, rfl, _, _, rfl, ?_⟩
    have q : Q (.int (if (0 : Int) > (z.gross : Int) - (w : Int) then (0 : Int) else (z.gross : Int) - (w : Int))) H := by rw [clip]; exact q
    exact q
def sp_Lorry_axle_above (K : PySem.W.Frag) (cs : Cs) : Sp := fun vs H Q _ => ∃ l dl z tx ax load, vs = [.ref l, .ref ax] ∧ H l = some (.ins cs.Lorry dl (lfs z tx)) ∧ H ax = some (nL load) ∧ load ≠ [] ∧ Q (nI (load.foldl max 0 - z.axle)) H
theorem ok_Lorry_axle_above {P : Program} {w : World} {K : PySem.W.Frag} {mg : Str → Option Value} {base : Heap} {cs : Cs} (T : Txt K mg cs) : MOk P w K mg base 1 cs.Lorry "axle_above" ["self", "axles"] (sp_Lorry_axle_above K cs) := by
  refine T.Lorry.m_axle_above.ok sc_Lorry_axle_above bd_Lorry_axle_above (fun vs H Q E h => ?_) (fun f cdv A outer s H vs Q E hr h => ?_)
  · obtain ⟨l, dl, z, tx, ax, load, rfl, _⟩ := h; rfl
  · obtain ⟨l, dl, z, tx, ax, load, rfl, hl, ha, ne, q⟩ := h
    refine ⟨_, (pss_one (ps_ret (pb (call_max2 rfl) T.b_max bt_max (pa_cons (pe_op op_sub (pb (cr_max rfl) T.b_max bt_max (pa_cons (pv 1) pa_nil)) (pe_fld (pv 0) rfl)) (pa_cons pe_int pa_nil))))), ?_⟩
    refine ⟨_, rfl, _, _, rfl, SqL.of ha, (by rw [List.length_map]; exact List.length_pos_iff.mpr ne), fun m h1 h2 => ?_⟩
    have e := max_is h1 h2
    subst e
    refine ⟨_, rfl, l, cs.Lorry, dl, _, _, rfl, hl, T.Lorry.cl, T.Lorry.n_axle_most, rfl, _, _, rfl, rfl, _, _, rfl, ?_⟩
    have q : Q (.int (if (0 : Int) > ((load.foldl max 0 : Nat) : Int) - (z.axle : Int) then (0 : Int) else ((load.foldl max 0 : Nat) : Int) - (z.axle : Int))) H := by rw [clip]; exact q
    exact q
def heavyI (z : Kv319.Lorry) (w : Nat) (load : List Nat) : Bool := decide (z.gross < w) || decide (z.axle < load.foldl max 0)
def sp_Lorry_is_too_heavy (K : PySem.W.Frag) (cs : Cs) : Sp := fun vs H Q _ => ∃ l dl z tx w ax load, vs = [.ref l, nI w, .ref ax] ∧ H l = some (.ins cs.Lorry dl (lfs z tx)) ∧ H ax = some (nL load) ∧ load ≠ [] ∧ Q (.bl (heavyI z w load)) H
theorem ok_Lorry_is_too_heavy {P : Program} {w : World} {K : PySem.W.Frag} {mg : Str → Option Value} {base : Heap} {cs : Cs} (T : Txt K mg cs) : MOk P w K mg base 2 cs.Lorry "is_too_heavy" ["self", "weight", "axles"] (sp_Lorry_is_too_heavy K cs) := by
  refine T.Lorry.m_is_too_heavy.ok sc_Lorry_is_too_heavy bd_Lorry_is_too_heavy (fun vs H Q E h => ?_) (fun f cdv A outer s H vs Q E hr h => ?_)
  · obtain ⟨l, dl, z, tx, w, ax, load, rfl, _⟩ := h; rfl
  · obtain ⟨l, dl, z, tx, w, ax, load, rfl, hl, ha, ne, q⟩ := h
    refine ⟨_, (pss_one (ps_ret (pe_or (pe_cmpR op_gt (pm (pv 0) T.Lorry.cl (ok_Lorry_gross_above T) (hr.mono (by decide)) (pa_cons (pv 1) pa_nil)) pe_int (nomark _)) (pe_one (pe_cmpR op_gt (pm (pv 0) T.Lorry.cl (ok_Lorry_axle_above T) (hr.mono (by decide)) (pa_cons (pv 2) pa_nil)) pe_int (nomark _)))))), ?_⟩
    refine ⟨_, rfl, l, dl, _, rfl, hl, rfl, _, rfl, l, dl, z, tx, w, rfl, hl, _, _, rfl, rfl, _, rfl, ite2 (fun c => ?_) (fun c => ?_)⟩
    · have c := of_decide_eq_true c
      rw [heavyI, decide_eq_true (show z.gross < w by omega), Bool.true_or] at q
      exact q
    · have c : ¬ (0 : Int) < ((w - z.gross : Nat) : Int) := fun h => c (decide_eq_true h)
      rw [heavyI, decide_eq_false (show ¬ z.gross < w by omega), Bool.false_or] at q
      refine ⟨_, rfl, l, dl, _, rfl, hl, rfl, _, rfl, l, dl, z, tx, ax, load, rfl, hl, ha, ne, _, _, rfl, rfl, ?_⟩
      have e : decide ((0 : Int) < ((load.foldl max 0 - z.axle : Nat) : Int)) = decide (z.axle < load.foldl max 0) := decide_eq_decide.mpr (by omega)
      rw [← e] at q
      exact q
theorem cut2 : ∀ {ts : List Nat} (w : Nat), ts.length ≤ 2 → cutV (((ts.reverse.map Int.ofNat).map V.int) ++ [nI w]) (some (-2)) none = (((w :: ts).take 2).reverse.map Int.ofNat).map V.int
  | [], w, _ => rfl
  | [a], w, _ => rfl
  | [a, b], w, _ => rfl
def taredL (z : Kv319.Lorry) (w d : Nat) : Kv319.Lorry := { z with tares := (w :: z.tares).take 2, day := d }
def sp_Lorry_take_tare (K : PySem.W.Frag) (cs : Cs) : Sp := fun vs H Q _ => ∃ l dl z tx w d, vs = [.ref l, nI w, nI d] ∧ H l = some (.ins cs.Lorry dl (lfs z tx)) ∧ H tx = some (nL z.tares.reverse) ∧ z.tares.length ≤ 2 ∧
  ∀ (H' : Hp) (tx' : Addr), H tx' = none → H' l = some (.ins cs.Lorry dl (lfs (taredL z w d) tx')) → H' tx' = some (nL (taredL z w d).tares.reverse) → (∀ b o, H b = some o → b ≠ l → H' b = some o) → Q .non H'
theorem ok_Lorry_take_tare {P : Program} {w : World} {K : PySem.W.Frag} {mg : Str → Option Value} {base : Heap} {cs : Cs} (T : Txt K mg cs) : MOk P w K mg base 1 cs.Lorry "take_tare" ["self", "weight", "day"] (sp_Lorry_take_tare K cs) := by
  refine T.Lorry.m_take_tare.ok sc_Lorry_take_tare bd_Lorry_take_tare (fun vs H Q E h => ?_) (fun f cdv A outer s H vs Q E hr h => ?_)
  · obtain ⟨l, dl, z, tx, w, d, rfl, _⟩ := h; rfl
  · obtain ⟨l, dl, z, tx, w, d, rfl, hl, ht, h2, q⟩ := h
    refine ⟨_, (pss_cons (ps_set (i := 3) sc_Lorry_take_tare.nd rfl (Or.inl rfl) (pe_op op_cat (pe_fld (pv 0) rfl) (pe_lst (pa_cons (pv 1) pa_nil)))) (pss_cons (ps_fld (pv 0) (pe_slice sl_list (pv 3) (po_some (pe_un un_neg (pgi T.g_TARES_KEPT))) po_none) rfl) (pss_one (ps_fld (pv 0) (pv 2) rfl)))), ?_⟩
    refine ⟨_, rfl, l, cs.Lorry, dl, _, _, rfl, hl, T.Lorry.cl, T.Lorry.n_tares, rfl, _, rfl, (by show 1 ≤ sizeLine; decide), fun p1 n1 => ?_⟩
    have s1 : Same H (upd H p1 (.lst [nI w])) := same_new n1
    refine ⟨_, _, _, _, rfl, rfl, s1 _ _ ht, upd_same, ?_, fun p2 n2 => ?_⟩
    · simp only [List.length_map, List.length_reverse, List.length_cons, List.length_nil]
      exact Nat.le_trans (show _ ≤ 3 by omega) (by decide)
    have s2 := s1.trans (same_new (o := .lst (((z.tares.reverse.map Int.ofNat).map V.int) ++ [nI w])) n2)
    refine ⟨_, rfl, _, rfl, _, rfl, _, _, rfl, SqL.of upd_same, fun p3 n3 => ?_⟩
    have s3 := s2.trans (same_new (o := .lst (cutV (((z.tares.reverse.map Int.ofNat).map V.int) ++ [nI w]) (some (-2)) none)) n3)
    have n3' : H p3 = none := s2.free n3
    refine ⟨_, rfl, l, cs.Lorry, dl, _, rfl, s3 _ _ hl, T.Lorry.cl, T.Lorry.n_tares, (by show 4 < 1000; decide), ?_⟩
    refine ⟨_, rfl, _, rfl, l, cs.Lorry, dl, _, rfl, upd_same, T.Lorry.cl, T.Lorry.n_tare_day, (by show 4 < 1000; decide), ?_⟩
    have nl : p3 ≠ l := fun e => by rw [e, hl] at n3'; cases n3'
    refine q _ p3 n3' upd_same ?_ fun b o e nb => ?_
    · rw [upd_ne nl, upd_ne nl]
      show upd _ p3 _ p3 = _
      rw [upd_same]
      show some (HO.lst (cutV (((z.tares.reverse.map Int.ofNat).map V.int) ++ [nI w]) (some (-2)) none)) = _
      rw [cut2 w h2]
      rfl
    · rw [upd_ne nb, upd_ne nb]
      exact s3 _ _ e
end Wb

end
section
set_option Elab.async false
set_option linter.all false
set_option maxRecDepth 100000
set_option maxHeartbeats 4000000
/-! New objects. -/
namespace Wb
open PySem PySem.Spec PyProof.Rows L2
def sp_Goods_init (K : PySem.W.Frag) (cs : Cs) : Sp := fun vs H Q _ => ∃ g dg p w m, vs = [.ref g, nI p, nI w, nI m] ∧ H g = some (.ins cs.Goods dg []) ∧ Q .non (upd H g (.ins cs.Goods dg (gfs ⟨p, w, m, 0⟩)))
theorem ok_Goods_init {P : Program} {w : World} {K : PySem.W.Frag} {mg : Str → Option Value} {base : Heap} {cs : Cs} (T : Txt K mg cs) : IOk P w K mg base 1 cs.Goods ["self", "price", "wet", "most"] (sp_Goods_init K cs) := by
  refine T.Goods.init.ok sc_Goods_init bd_Goods_init (fun vs H Q E h => ?_) (fun f cdv A outer s H vs Q E hr h => ?_)
  · obtain ⟨g, dg, p, w, m, rfl, _⟩ := h; rfl
  · obtain ⟨g, dg, p, w, m, rfl, hg, q⟩ := h
    refine ⟨_, (pss_cons (ps_fld (pv 0) (pv 1) rfl) (pss_cons (ps_fld (pv 0) (pv 2) rfl) (pss_cons (ps_fld (pv 0) (pv 3) rfl) (pss_one (ps_fld (pv 0) pe_int rfl))))), ?_⟩
    refine ⟨_, rfl, _, rfl, g, cs.Goods, dg, _, rfl, hg, T.Goods.cl, T.Goods.n_price, (by show 0 < 1000; decide), _, rfl, _, rfl, g, cs.Goods, dg, _, rfl, upd_same, T.Goods.cl, T.Goods.n_wet, (by show 1 < 1000; decide), _, rfl, _, rfl, g, cs.Goods, dg, _, rfl, upd_same, T.Goods.cl, T.Goods.n_most, (by show 2 < 1000; decide), _, rfl, g, cs.Goods, dg, _, rfl, upd_same, T.Goods.cl, T.Goods.n_stock, (by show 3 < 1000; decide), ?_⟩
    show Q .non (upd (upd (upd (upd H g _) g _) g _) g _)
    rw [upd_upd, upd_upd, upd_upd]
    exact q
def sp_Ticket_init (K : PySem.W.Frag) (cs : Cs) : Sp := fun vs H Q _ => ∃ k dk l z w f, vs = [.ref k, nI l, nI z, nI w, nI f] ∧ H k = some (.ins cs.Ticket dk []) ∧ Q .non (upd H k (.ins cs.Ticket dk (tfs ⟨l, z, w, f, 0, 0, 0, 0, 0⟩)))
theorem ok_Ticket_init {P : Program} {w : World} {K : PySem.W.Frag} {mg : Str → Option Value} {base : Heap} {cs : Cs} (T : Txt K mg cs) : IOk P w K mg base 1 cs.Ticket ["self", "lorry", "kind", "way", "first"] (sp_Ticket_init K cs) := by
  refine T.Ticket.init.ok sc_Ticket_init bd_Ticket_init (fun vs H Q E h => ?_) (fun f cdv A outer s H vs Q E hr h => ?_)
  · obtain ⟨k, dk, l, z, w, f, rfl, _⟩ := h; rfl
  · obtain ⟨k, dk, l, z, w, f, rfl, hk, q⟩ := h
    refine ⟨_, (pss_cons (ps_fld (pv 0) (pv 1) rfl) (pss_cons (ps_fld (pv 0) (pv 2) rfl) (pss_cons (ps_fld (pv 0) (pv 3) rfl) (pss_cons (ps_fld (pv 0) (pv 4) rfl) (pss_cons (ps_fld (pv 0) pe_int rfl) (pss_cons (ps_fld (pv 0) pe_int rfl) (pss_cons (ps_fld (pv 0) pe_int rfl) (pss_cons (ps_fld (pv 0) pe_int rfl) (pss_one (ps_fld (pv 0) (pgi T.g_ON_YARD) rfl)))))))))), ?_⟩
    refine ⟨_, rfl, _, rfl, k, cs.Ticket, dk, _, rfl, hk, T.Ticket.cl, T.Ticket.n_lorry, (by show 0 < 1000; decide), _, rfl, _, rfl, k, cs.Ticket, dk, _, rfl, upd_same, T.Ticket.cl, T.Ticket.n_kind, (by show 1 < 1000; decide), _, rfl, _, rfl, k, cs.Ticket, dk, _, rfl, upd_same, T.Ticket.cl, T.Ticket.n_way, (by show 2 < 1000; decide), _, rfl, _, rfl, k, cs.Ticket, dk, _, rfl, upd_same, T.Ticket.cl, T.Ticket.n_first, (by show 3 < 1000; decide), _, rfl, k, cs.Ticket, dk, _, rfl, upd_same, T.Ticket.cl, T.Ticket.n_second, (by show 4 < 1000; decide), _, rfl, k, cs.Ticket, dk, _, rfl, upd_same, T.Ticket.cl, T.Ticket.n_net, (by show 5 < 1000; decide), _, rfl, k, cs.Ticket, dk, _, rfl, upd_same, T.Ticket.cl, T.Ticket.n_paid, (by show 6 < 1000; decide), _, rfl, k, cs.Ticket, dk, _, rfl, upd_same, T.Ticket.cl, T.Ticket.n_amount, (by show 7 < 1000; decide), _, rfl, k, cs.Ticket, dk, _, rfl, upd_same, T.Ticket.cl, T.Ticket.n_state, (by show 8 < 1000; decide), ?_⟩
    show Q .non (upd (upd (upd (upd (upd (upd (upd (upd (upd H k _) k _) k _) k _) k _) k _) k _) k _) k _)
    rw [upd_upd, upd_upd, upd_upd, upd_upd, upd_upd, upd_upd, upd_upd, upd_upd]
    exact q
def sp_Lorry_init (K : PySem.W.Frag) (cs : Cs) : Sp := fun vs H Q _ => ∃ l dl x g, vs = [.ref l, nI x, nI g] ∧ H l = some (.ins cs.Lorry dl []) ∧
  ∀ tx, H tx = none → Q .non (upd (upd H tx (.lst [])) l (.ins cs.Lorry dl (lfs ⟨x, g, [], 0⟩ tx)))
theorem upd_comm {H : Hp} {a b : Addr} {o u : HO} (h : a ≠ b) : upd (upd H a o) b u = upd (upd H b u) a o := by
  funext c
  by_cases h1 : c = a
  · subst h1; rw [upd_ne h, upd_same, upd_same]
  · by_cases h2 : c = b
    · subst h2; rw [upd_same, upd_ne h1, upd_same]
    · rw [upd_ne h2, upd_ne h1, upd_ne h1, upd_ne h2]
theorem ok_Lorry_init {P : Program} {w : World} {K : PySem.W.Frag} {mg : Str → Option Value} {base : Heap} {cs : Cs} (T : Txt K mg cs) : IOk P w K mg base 1 cs.Lorry ["self", "axle_most", "gross_most"] (sp_Lorry_init K cs) := by
  refine T.Lorry.init.ok sc_Lorry_init bd_Lorry_init (fun vs H Q E h => ?_) (fun f cdv A outer s H vs Q E hr h => ?_)
  · obtain ⟨l, dl, x, g, rfl, _⟩ := h; rfl
  · obtain ⟨l, dl, x, g, rfl, hl, q⟩ := h
    refine ⟨_, (pss_cons (ps_fld (pv 0) (pv 1) rfl) (pss_cons (ps_fld (pv 0) (pv 2) rfl) (pss_cons (ps_fld (pv 0) (pe_lst pa_nil) rfl) (pss_one (ps_fld (pv 0) pe_int rfl))))), ?_⟩
    refine ⟨_, rfl, _, rfl, l, cs.Lorry, dl, _, rfl, hl, T.Lorry.cl, T.Lorry.n_axle_most, (by show 0 < 1000; decide), _, rfl, _, rfl, l, cs.Lorry, dl, _, rfl, upd_same, T.Lorry.cl, T.Lorry.n_gross_most, (by show 1 < 1000; decide), Nat.zero_le _, fun tx nt => ?_⟩
    have nl : tx ≠ l := fun e => by rw [e, upd_same] at nt; cases nt
    have nt' : H tx = none := by rw [upd_ne nl, upd_ne nl] at nt; exact nt
    refine ⟨_, rfl, l, cs.Lorry, dl, _, rfl, (by rw [upd_ne nl.symm]; exact upd_same), T.Lorry.cl, T.Lorry.n_tares, (by show 2 < 1000; decide), _, rfl, l, cs.Lorry, dl, _, rfl, upd_same, T.Lorry.cl, T.Lorry.n_tare_day, (by show 3 < 1000; decide), ?_⟩
    show Q .non (upd (upd (upd (upd (upd H l _) l _) tx _) l _) l _)
    rw [upd_upd, upd_upd, upd_comm nl.symm, upd_upd]
    exact q tx nt'
def sp_Plate_init (K : PySem.W.Frag) (cs : Cs) : Sp := fun vs H Q _ => ∃ p dp d n y g, vs = [.ref p, nI d, nI n] ∧ H p = some (.ins cs.Plate dp []) ∧ d ≤ 100 ∧
  ∀ ax, H ax = none → Q .non (upd (upd H ax (.lst [])) p (.ins cs.Plate dp (pfs (Kv319.begun d n y g) ax)))
theorem ok_Plate_init {P : Program} {w : World} {K : PySem.W.Frag} {mg : Str → Option Value} {base : Heap} {cs : Cs} (T : Txt K mg cs) : IOk P w K mg base 1 cs.Plate ["self", "step", "steps"] (sp_Plate_init K cs) := by
  refine T.Plate.init.ok sc_Plate_init bd_Plate_init (fun vs H Q E h => ?_) (fun f cdv A outer s H vs Q E hr h => ?_)
  · obtain ⟨p, dp, d, n, y, g, rfl, _⟩ := h; rfl
  · obtain ⟨p, dp, d, n, y, g, rfl, hp, hd, q⟩ := h
    refine ⟨_, (pss_cons (ps_fld (pv 0) (pv 1) rfl) (pss_cons (ps_fld (pv 0) (pe_op op_mul (pv 1) (pv 2)) rfl) (pss_cons (ps_fld (pv 0) pe_int rfl) (pss_cons (ps_fld (pv 0) pe_int rfl) (pss_cons (ps_fld (pv 0) pe_int rfl) (pss_one (ps_fld (pv 0) (pe_lst pa_nil) rfl))))))), ?_⟩
    refine ⟨_, rfl, _, rfl, p, cs.Plate, dp, _, rfl, hp, T.Plate.cl, T.Plate.n_step, (by show 0 < 1000; decide), _, rfl, _, rfl, _, _, rfl, rfl, (by unfold CMul; omega), _, rfl, p, cs.Plate, dp, _, rfl, upd_same, T.Plate.cl, T.Plate.n_capacity, (by show 1 < 1000; decide), _, rfl, p, cs.Plate, dp, _, rfl, upd_same, T.Plate.cl, T.Plate.n_gain, (by show 2 < 1000; decide), _, rfl, p, cs.Plate, dp, _, rfl, upd_same, T.Plate.cl, T.Plate.n_offset, (by show 3 < 1000; decide), _, rfl, p, cs.Plate, dp, _, rfl, upd_same, T.Plate.cl, T.Plate.n_zero, (by show 4 < 1000; decide), Nat.zero_le _, fun ax nt => ?_⟩
    have nl : ax ≠ p := fun e => by rw [e, upd_same] at nt; cases nt
    have nt' : H ax = none := by rw [upd_ne nl, upd_ne nl, upd_ne nl, upd_ne nl, upd_ne nl] at nt; exact nt
    refine ⟨_, rfl, p, cs.Plate, dp, _, rfl, (by rw [upd_ne nl.symm]; exact upd_same), T.Plate.cl, T.Plate.n_axles, (by show 5 < 1000; decide), ?_⟩
    show Q .non (upd (upd (upd (upd (upd (upd (upd H p _) p _) p _) p _) p _) ax _) p _)
    rw [upd_upd, upd_upd, upd_upd, upd_upd, upd_comm nl.symm, upd_upd]
    exact q ax nt'
def sp_Line_init (K : PySem.W.Frag) (cs : Cs) : Sp := fun vs H Q _ => ∃ n dn, vs = [.ref n] ∧ H n = some (.ins cs.Line dn []) ∧ Q .non (upd H n (.ins cs.Line dn [("yard", .non)]))
theorem ok_Line_init {P : Program} {w : World} {K : PySem.W.Frag} {mg : Str → Option Value} {base : Heap} {cs : Cs} (T : Txt K mg cs) : IOk P w K mg base 1 cs.Line ["self"] (sp_Line_init K cs) := by
  refine T.Line.init.ok sc_Line_init bd_Line_init (fun vs H Q E h => ?_) (fun f cdv A outer s H vs Q E hr h => ?_)
  · obtain ⟨n, dn, rfl, _⟩ := h; rfl
  · obtain ⟨n, dn, rfl, hn, q⟩ := h
    refine ⟨_, (pss_one (ps_fld (pv 0) pe_non rfl)), ?_⟩
    exact ⟨_, rfl, n, cs.Line, dn, _, rfl, hn, T.Line.cl, T.Line.n_yard, (by show 0 < 1000; decide), q⟩
def sp_Yard_init (K : PySem.W.Frag) (cs : Cs) : Sp := fun vs H Q _ => ∃ y dy p r g, vs = [.ref y, .ref p, nI r, nI g] ∧ H y = some (.ins cs.Yard dy []) ∧
  ∀ kl ll tl, H kl = none → H ll = none → H tl = none → kl ≠ ll → kl ≠ tl → ll ≠ tl →
    Q .non (upd (upd (upd (upd H kl (.lst [])) ll (.lst [])) tl (.lst [])) y (.ins cs.Yard dy [("plate", .ref p), ("room", nI r), ("good", nI g), ("day", .int 0), ("kinds", .ref kl), ("lorries", .ref ll), ("tickets", .ref tl)]))
theorem ok_Yard_init {P : Program} {w : World} {K : PySem.W.Frag} {mg : Str → Option Value} {base : Heap} {cs : Cs} (T : Txt K mg cs) : IOk P w K mg base 1 cs.Yard ["self", "plate", "room", "good"] (sp_Yard_init K cs) := by
  refine T.Yard.init.ok sc_Yard_init bd_Yard_init (fun vs H Q E h => ?_) (fun f cdv A outer s H vs Q E hr h => ?_)
  · obtain ⟨y, dy, p, r, g, rfl, _⟩ := h; rfl
  · obtain ⟨y, dy, p, r, g, rfl, hy, q⟩ := h
    refine ⟨_, (pss_cons (ps_fld (pv 0) (pv 1) rfl) (pss_cons (ps_fld (pv 0) (pv 2) rfl) (pss_cons (ps_fld (pv 0) (pv 3) rfl) (pss_cons (ps_fld (pv 0) pe_int rfl) (pss_cons (ps_fld (pv 0) (pe_lst pa_nil) rfl) (pss_cons (ps_fld (pv 0) (pe_lst pa_nil) rfl) (pss_one (ps_fld (pv 0) (pe_lst pa_nil) rfl)))))))), ?_⟩
    refine ⟨_, rfl, _, rfl, y, cs.Yard, dy, _, rfl, hy, T.Yard.cl, T.Yard.n_plate, (by show 0 < 1000; decide), _, rfl, _, rfl, y, cs.Yard, dy, _, rfl, upd_same, T.Yard.cl, T.Yard.n_room, (by show 1 < 1000; decide),
      _, rfl, _, rfl, y, cs.Yard, dy, _, rfl, upd_same, T.Yard.cl, T.Yard.n_good, (by show 2 < 1000; decide), _, rfl, y, cs.Yard, dy, _, rfl, upd_same, T.Yard.cl, T.Yard.n_day, (by show 3 < 1000; decide), Nat.zero_le _, fun kl n1 => ?_⟩
    have a1 : kl ≠ y := fun e => by rw [e, upd_same] at n1; cases n1
    refine ⟨_, rfl, y, cs.Yard, dy, _, rfl, (by rw [upd_ne a1.symm]; exact upd_same), T.Yard.cl, T.Yard.n_kinds, (by show 4 < 1000; decide), Nat.zero_le _, fun ll n2 => ?_⟩
    have a2 : ll ≠ y := fun e => by rw [e, upd_same] at n2; cases n2
    have b2 : kl ≠ ll := fun e => by rw [← e, upd_ne a1, upd_same] at n2; cases n2
    refine ⟨_, rfl, y, cs.Yard, dy, _, rfl, (by rw [upd_ne a2.symm]; exact upd_same), T.Yard.cl, T.Yard.n_lorries, (by show 5 < 1000; decide), Nat.zero_le _, fun tl n3 => ?_⟩
    have a3 : tl ≠ y := fun e => by rw [e, upd_same] at n3; cases n3
    have b3 : ll ≠ tl := fun e => by rw [← e, upd_ne a2, upd_same] at n3; cases n3
    have c3 : kl ≠ tl := fun e => by rw [← e, upd_ne a1, upd_ne b2, upd_ne a1, upd_same] at n3; cases n3
    refine ⟨_, rfl, y, cs.Yard, dy, _, rfl, (by rw [upd_ne a3.symm]; exact upd_same), T.Yard.cl, T.Yard.n_tickets, (by show 6 < 1000; decide), ?_⟩
    show Q .non (upd (upd (upd (upd (upd (upd (upd (upd (upd (upd H y _) y _) y _) y _) kl _) y _) ll _) y _) tl _) y _)
    rw [upd_comm a3, upd_upd, upd_comm a2, upd_upd, upd_comm a1, upd_upd, upd_upd, upd_upd, upd_upd]
    rw [upd_comm a1.symm, upd_comm a2.symm, upd_comm a3.symm]
    rw [upd_ne a1, upd_ne a1, upd_ne a1, upd_ne a1] at n1
    rw [upd_ne a2, upd_ne b2.symm, upd_ne a2, upd_ne a2, upd_ne a2, upd_ne a2] at n2
    rw [upd_ne a3, upd_ne b3.symm, upd_ne a3, upd_ne c3.symm, upd_ne a3, upd_ne a3, upd_ne a3, upd_ne a3] at n3
    exact q kl ll tl n1 n2 n3 b2 c3 b3
end Wb

end
section
set_option Elab.async false
set_option linter.all false
set_option maxRecDepth 100000
set_option maxHeartbeats 4000000
/-! A yard that changes; the defs of the yard that only look. -/
namespace Wb
open PySem PySem.Spec PyProof.Rows L2
/-- from a yard to the next: what is not its own stays, what is its own now was its own or is new -/
structure Step (cs : Cs) (H : Hp) (L D : Tag → Addr) (a : Kv319.Abs) (H' : Hp) (L' D' : Tag → Addr) (a' : Kv319.Abs) : Prop where
  keep : ∀ b o, H b = some o → (∀ t x, cont cs a L D t = some x → b ≠ L t) → H' b = some o
  own : ∀ t x, cont cs a' L' D' t = some x → (∃ t0 x0, cont cs a L D t0 = some x0 ∧ L' t = L t0) ∨ H (L' t) = none
  live : ∀ b o, H b = some o → ∃ o', H' b = some o'
  home : L' .yard = L .yard
theorem Step.free {cs : Cs} {H : Hp} {L D : Tag → Addr} {a : Kv319.Abs} {H' : Hp} {L' D' : Tag → Addr} {a' : Kv319.Abs} (s : Step cs H L D a H' L' D' a') {q : Addr} (h : H' q = none) : H q = none := by
  cases e : H q with
  | none => rfl
  | some o =>
    obtain ⟨o', e'⟩ := s.live q o e
    rw [e'] at h; cases h
section
variable {cs : Cs} {H H' : Hp} {L D L' D' : Tag → Addr} {a a' : Kv319.Abs}
theorem Step.same (s : Same H H') : Step cs H L D a H' L D a := ⟨fun b o e _ => s b o e, fun t x e => .inl ⟨t, x, e, rfl⟩, fun b o e => ⟨o, s b o e⟩, rfl⟩
/-- N: new places; M: places that are written anew -/
theorem Y.grow (y : Y cs H L D a) (N M : Tag → Prop) (fresh : ∀ t, N t → H (L' t) = none) (ninj : ∀ t u, N t → N u → L' t = L' u → t = u) (old : ∀ t, ¬ N t → L' t = L t)
    (mval : ∀ t, M t → ∃ o, cont cs a L D t = some o) (stay : ∀ t, ¬ N t → ¬ M t → cont cs a' L' D' t = cont cs a L D t)
    (keep : ∀ b o, H b = some o → (∀ t, M t → b ≠ L t) → H' b = some o) (live : ∀ t, M t → ∃ o, H' (L t) = some o) (here : ∀ t o, N t ∨ M t → cont cs a' L' D' t = some o → H' (L' t) = some o)
    (home : ¬ N .yard := by first | (intro h; exact h) | (intro h; cases h; done) | (rintro (h | h) <;> cases h)) : Y cs H' L' D' a' ∧ Step cs H L D a H' L' D' a' := by
  have val : ∀ t x, ¬ N t → cont cs a' L' D' t = some x → ∃ z, cont cs a L D t = some z := fun t x n q => by
    by_cases m : M t
    · exact mval t m
    · rw [stay t n m] at q; exact ⟨x, q⟩
  refine ⟨⟨fun t u x x' q q' h => ?_, fun t x q => ?_⟩, ⟨fun b o e h => keep b o e fun t m => ?_, fun t x q => ?_, fun b o e => ?_, old _ home⟩⟩
  · by_cases n : N t
    · by_cases n' : N u
      · exact ninj t u n n' h
      · obtain ⟨z, hz⟩ := val u x' n' q'
        have e := y.at_ u z hz
        rw [← old u n', ← h, fresh t n] at e
        cases e
    · obtain ⟨z, hz⟩ := val t x n q
      by_cases n' : N u
      · have e := y.at_ t z hz
        rw [← old t n, h, fresh u n'] at e
        cases e
      · obtain ⟨z', hz'⟩ := val u x' n' q'
        rw [old t n, old u n'] at h
        exact y.inj t u z z' hz hz' h
  · by_cases c : N t ∨ M t
    · exact here t x c q
    · have n : ¬ N t := fun z => c (.inl z)
      have m : ¬ M t := fun z => c (.inr z)
      rw [stay t n m] at q
      rw [old t n]
      refine keep _ _ (y.at_ t x q) fun u mu e => ?_
      obtain ⟨o, ho⟩ := mval u mu
      have := y.inj t u x o q ho e
      subst this
      exact m mu
  · obtain ⟨o', ho⟩ := mval t m
    exact h t o' ho
  · by_cases n : N t
    · exact .inr (fresh t n)
    · obtain ⟨z, hz⟩ := val t x n q
      exact .inl ⟨t, z, hz, old t n⟩
  · by_cases c : ∃ t, M t ∧ b = L t
    · obtain ⟨t, m, e2⟩ := c
      rw [e2]; exact live t m
    · exact ⟨o, keep b o e fun t m e2 => c ⟨t, m, e2⟩⟩
theorem Y.plateAt (y : Y cs H L D a) : PlateAt cs H (L .plate) a := ⟨_, _, y.plate, y.axl⟩
end
/-- what a call of the yard promises: the specification's state, its answer in a new list -/
def Did (cs : Cs) (H : Hp) (L D : Tag → Addr) (a : Kv319.Abs) (r : Kv319.Abs × Kv319.Ans) (Q : VK) : Prop :=
  ∀ (H' : Hp) (L' D' : Tag → Addr) (q : Addr), Y cs H' L' D' r.1 → Step cs H L D a H' L' D' r.1 → H q = none → H' q = some (iL (r.2.ret :: r.2.nums)) → Q (.ref q) H'
theorem Did.same {cs : Cs} {H H1 : Hp} {L D : Tag → Addr} {a : Kv319.Abs} {r : Kv319.Abs × Kv319.Ans} {Q : VK} {v : Kv319.Ans} (d : Did cs H L D a r Q) (y : Y cs H L D a) (s : Same H H1) (e : r = (a, v)) {q : Addr} (n : H1 q = none) :
    Q (.ref q) (upd H1 q (iL (v.ret :: v.nums))) := by
  subst e
  have s2 : Same H (upd H1 q (iL (v.ret :: v.nums))) := s.trans (same_new n)
  exact d _ L D q (y.same s2) (Step.same s2) (s.free n) upd_same
def sp_Yard_has_kind (K : PySem.W.Frag) (cs : Cs) : Sp := fun vs H Q _ => ∃ L D a n, vs = [.ref (L .yard), nI n] ∧ Y cs H L D a ∧ Q (.bl (a.hasK n)) H
theorem ok_Yard_has_kind {P : Program} {w : World} {K : PySem.W.Frag} {mg : Str → Option Value} {base : Heap} {cs : Cs} (T : Txt K mg cs) : MOk P w K mg base 1 cs.Yard "has_kind" ["self", "number"] (sp_Yard_has_kind K cs) := by
  refine T.Yard.m_has_kind.ok sc_Yard_has_kind bd_Yard_has_kind (fun vs H Q E h => ?_) (fun f cdv A outer s H vs Q E hr h => ?_)
  · obtain ⟨L, D, a, n, rfl, _⟩ := h; rfl
  · obtain ⟨L, D, a, n, rfl, hY, q⟩ := h
    refine ⟨_, (pss_one (ps_ret (pe_cmpR op_lt (pv 1) (pb call_len_seq T.b_len bt_len (pa_cons (pe_fld (pv 0) rfl) pa_nil)) (nomark _)))), ?_⟩
    refine ⟨_, rfl, _, rfl, (L .yard), cs.Yard, (D .yard), _, _, rfl, hY.yard, T.Yard.cl, T.Yard.n_kinds, rfl, _, _, rfl, .inl (SqL.of hY.kl), _, _, rfl, rfl, ?_⟩
    rw [Kv319.Abs.hasK, ← show decide ((n : Int) < ((((List.range a.kinds.length).map fun i => V.ref (L (.kind i))).length : Nat) : Int)) = decide (n < a.kinds.length) from decide_eq_decide.mpr (by simp)] at q
    exact q
def sp_Yard_has_lorry (K : PySem.W.Frag) (cs : Cs) : Sp := fun vs H Q _ => ∃ L D a n, vs = [.ref (L .yard), nI n] ∧ Y cs H L D a ∧ Q (.bl (a.has n)) H
theorem ok_Yard_has_lorry {P : Program} {w : World} {K : PySem.W.Frag} {mg : Str → Option Value} {base : Heap} {cs : Cs} (T : Txt K mg cs) : MOk P w K mg base 1 cs.Yard "has_lorry" ["self", "number"] (sp_Yard_has_lorry K cs) := by
  refine T.Yard.m_has_lorry.ok sc_Yard_has_lorry bd_Yard_has_lorry (fun vs H Q E h => ?_) (fun f cdv A outer s H vs Q E hr h => ?_)
  · obtain ⟨L, D, a, n, rfl, _⟩ := h; rfl
  · obtain ⟨L, D, a, n, rfl, hY, q⟩ := h
    refine ⟨_, (pss_one (ps_ret (pe_cmpR op_lt (pv 1) (pb call_len_seq T.b_len bt_len (pa_cons (pe_fld (pv 0) rfl) pa_nil)) (nomark _)))), ?_⟩
    refine ⟨_, rfl, _, rfl, (L .yard), cs.Yard, (D .yard), _, _, rfl, hY.yard, T.Yard.cl, T.Yard.n_lorries, rfl, _, _, rfl, .inl (SqL.of hY.ll), _, _, rfl, rfl, ?_⟩
    rw [Kv319.Abs.has, ← show decide ((n : Int) < ((((List.range a.lorries.length).map fun i => V.ref (L (.lorry i))).length : Nat) : Int)) = decide (n < a.lorries.length) from decide_eq_decide.mpr (by simp)] at q
    exact q
def sp_Yard_has_ticket (K : PySem.W.Frag) (cs : Cs) : Sp := fun vs H Q _ => ∃ L D a n, vs = [.ref (L .yard), nI n] ∧ Y cs H L D a ∧ Q (.bl (decide (n < a.tickets.length))) H
theorem ok_Yard_has_ticket {P : Program} {w : World} {K : PySem.W.Frag} {mg : Str → Option Value} {base : Heap} {cs : Cs} (T : Txt K mg cs) : MOk P w K mg base 1 cs.Yard "has_ticket" ["self", "number"] (sp_Yard_has_ticket K cs) := by
  refine T.Yard.m_has_ticket.ok sc_Yard_has_ticket bd_Yard_has_ticket (fun vs H Q E h => ?_) (fun f cdv A outer s H vs Q E hr h => ?_)
  · obtain ⟨L, D, a, n, rfl, _⟩ := h; rfl
  · obtain ⟨L, D, a, n, rfl, hY, q⟩ := h
    refine ⟨_, (pss_one (ps_ret (pe_cmpR op_lt (pv 1) (pb call_len_seq T.b_len bt_len (pa_cons (pe_fld (pv 0) rfl) pa_nil)) (nomark _)))), ?_⟩
    refine ⟨_, rfl, _, rfl, (L .yard), cs.Yard, (D .yard), _, _, rfl, hY.yard, T.Yard.cl, T.Yard.n_tickets, rfl, _, _, rfl, .inl (SqL.of hY.tl), _, _, rfl, rfl, ?_⟩
    rw [← show decide ((n : Int) < ((((List.range a.tickets.length).map fun i => V.ref (L (.ticket i))).length : Nat) : Int)) = decide (n < a.tickets.length) from decide_eq_decide.mpr (by simp)] at q
    exact q
def sp_Yard_is_out_of_tickets (K : PySem.W.Frag) (cs : Cs) : Sp := fun vs H Q _ => ∃ L D a, vs = [.ref (L .yard)] ∧ Y cs H L D a ∧ Q (.bl (decide (60 ≤ a.tickets.length))) H
theorem ok_Yard_is_out_of_tickets {P : Program} {w : World} {K : PySem.W.Frag} {mg : Str → Option Value} {base : Heap} {cs : Cs} (T : Txt K mg cs) : MOk P w K mg base 1 cs.Yard "is_out_of_tickets" ["self"] (sp_Yard_is_out_of_tickets K cs) := by
  refine T.Yard.m_is_out_of_tickets.ok sc_Yard_is_out_of_tickets bd_Yard_is_out_of_tickets (fun vs H Q E h => ?_) (fun f cdv A outer s H vs Q E hr h => ?_)
  · obtain ⟨L, D, a, rfl, _⟩ := h; rfl
  · obtain ⟨L, D, a, rfl, hY, q⟩ := h
    refine ⟨_, (pss_one (ps_ret (pe_cmpR op_ge (pb call_len_seq T.b_len bt_len (pa_cons (pe_fld (pv 0) rfl) pa_nil)) (pgi T.g_MOST_TICKETS) (nomark _)))), ?_⟩
    refine ⟨_, rfl, (L .yard), cs.Yard, (D .yard), _, _, rfl, hY.yard, T.Yard.cl, T.Yard.n_tickets, rfl, _, _, rfl, .inl (SqL.of hY.tl), _, _, rfl, rfl, ?_⟩
    rw [← show decide ((60 : Int) ≤ ((((List.range a.tickets.length).map fun i => V.ref (L (.ticket i))).length : Nat) : Int)) = decide (60 ≤ a.tickets.length) from decide_eq_decide.mpr (by simp; omega)] at q
    exact q
/-- a comprehension over a list, by the item's place -/
theorem lc_fm {K : PySem.W.Frag} {a : Addr} {xs : List V} {g : TG} {tt : TT} {te : TE} {vs : List Nat} {σ : L2.St} {H1 : Hp} {D : Addr} {Qd : Hp → Prop} (F : Nat → Option V) (hD : H1 D = none) (hS : SqL K H1 a xs) (hz : xs.length < sizeLine)
    (hs : ∀ i x acc (Nx : Hp → Prop), xs[i]? = some x → acc.length < sizeLine → (∀ y, F i = some y → Nx (upd H1 D (.lst (acc ++ [y])))) → (F i = none → Nx (upd H1 D (.lst acc))) →
      g x (wipe σ vs) (upd H1 D (.lst acc)) fun σ2 H2 => wipe σ2 vs = wipe σ vs ∧ tt σ2 H2 fun b H3 => if b = true then te σ2 H3 fun y H4 => ∃ acc, H4 D = some (.lst acc) ∧ acc.length < sizeLine ∧ Nx (upd H4 D (.lst (acc ++ [y]))) else Nx H3)
    (hd : Qd (upd H1 D (.lst ((List.range xs.length).filterMap F)))) :
    ∃ W : Nat → Nat → Hp → Prop, (∃ m, W 0 m (upd H1 D (.lst []))) ∧ ∀ i m H, W i m H →
      ((Itl K a).stop i H ∧ Qd H) ∨ ((Itl K a).go i H ∧ ∃ Nx : Hp → Prop, (∀ H', Nx H' → ∃ m', m' < m ∧ W (i + 1) m' H') ∧ ∀ x H', (Itl K a).yld i H x H' → g x (wipe σ vs) H' fun σ2 H2 => wipe σ2 vs = wipe σ vs ∧ tt σ2 H2 fun b H3 =>
        if b = true then te σ2 H3 fun y H4 => ∃ acc, H4 D = some (.lst acc) ∧ acc.length < sizeLine ∧ Nx (upd H4 D (.lst (acc ++ [y]))) else Nx H3) := by
  refine lc_list (K := K) (xs := xs) (fun i H => H = upd H1 D (.lst ((List.range i).filterMap F))) rfl (fun i H _ e => ?_) (fun i x H hx e => ?_) (fun H e => ?_)
  · subst e; exact (same_new hD).seq hS
  · subst e
    have hi : i < xs.length := (List.getElem?_eq_some_iff.mp hx).1
    refine hs i x _ _ hx ?_ (fun y hy => ?_) (fun hy => ?_)
    · refine Nat.lt_of_le_of_lt (List.length_filterMap_le _ _) ?_
      rw [List.length_range]; omega
    · rw [List.range_succ, List.filterMap_append, List.filterMap_cons, hy]; rfl
    · rw [List.range_succ, List.filterMap_append, List.filterMap_cons, hy, List.filterMap_nil, List.append_nil]
  · subst e; exact hd
theorem fm_map {α β : Type} (p : α → Bool) (f : α → β) : ∀ l : List α, (l.filterMap fun i => if p i = true then some (f i) else none) = (l.filter p).map f
  | [] => rfl
  | x :: r => by
    rw [List.filterMap_cons, List.filter_cons, fm_map p f r]
    cases h : p x <;> simp
/-- a comprehension over a list, by the items -/
theorem lc_of {α : Type} {K : PySem.W.Frag} {a : Addr} {ys : List α} {r : α → V} {g : TG} {tt : TT} {te : TE} {vs : List Nat} {σ : L2.St} {H1 : Hp} {D : Addr} {Qd : Hp → Prop} (G : α → Option V) (hD : H1 D = none) (hS : SqL K H1 a (ys.map r)) (hz : ys.length < sizeLine)
    (hs : ∀ y acc (Nx : Hp → Prop), y ∈ ys → acc.length < sizeLine → (∀ z, G y = some z → Nx (upd H1 D (.lst (acc ++ [z])))) → (G y = none → Nx (upd H1 D (.lst acc))) →
      g (r y) (wipe σ vs) (upd H1 D (.lst acc)) fun σ2 H2 => wipe σ2 vs = wipe σ vs ∧ tt σ2 H2 fun b H3 => if b = true then te σ2 H3 fun y H4 => ∃ acc, H4 D = some (.lst acc) ∧ acc.length < sizeLine ∧ Nx (upd H4 D (.lst (acc ++ [y]))) else Nx H3)
    (hd : Qd (upd H1 D (.lst (ys.filterMap G)))) :
    ∃ W : Nat → Nat → Hp → Prop, (∃ m, W 0 m (upd H1 D (.lst []))) ∧ ∀ i m H, W i m H →
      ((Itl K a).stop i H ∧ Qd H) ∨ ((Itl K a).go i H ∧ ∃ Nx : Hp → Prop, (∀ H', Nx H' → ∃ m', m' < m ∧ W (i + 1) m' H') ∧ ∀ x H', (Itl K a).yld i H x H' → g x (wipe σ vs) H' fun σ2 H2 => wipe σ2 vs = wipe σ vs ∧ tt σ2 H2 fun b H3 =>
        if b = true then te σ2 H3 fun y H4 => ∃ acc, H4 D = some (.lst acc) ∧ acc.length < sizeLine ∧ Nx (upd H4 D (.lst (acc ++ [y]))) else Nx H3) := by
  refine lc_list (K := K) (xs := ys.map r) (fun i H => H = upd H1 D (.lst ((ys.take i).filterMap G))) rfl (fun i H _ e => ?_) (fun i x H hx e => ?_) (fun H e => ?_)
  · subst e; exact (same_new hD).seq hS
  · subst e
    rw [List.getElem?_map] at hx
    obtain ⟨y, hy, rfl⟩ := Option.map_eq_some_iff.mp hx
    refine hs y _ _ (List.mem_of_getElem? hy) ?_ (fun z hz => ?_) (fun hz => ?_)
    · refine Nat.lt_of_le_of_lt (List.length_filterMap_le _ _) ?_
      rw [List.length_take]; omega
    · rw [List.take_add_one, hy, List.filterMap_append]
      show _ = upd H1 D (.lst (_ ++ [y].filterMap G))
      rw [List.filterMap_cons, hz]; rfl
    · rw [List.take_add_one, hy, List.filterMap_append]
      show _ = upd H1 D (.lst (_ ++ [y].filterMap G))
      rw [List.filterMap_cons, hz, List.filterMap_nil, List.append_nil]
  · subst e
    rw [List.length_map, List.take_length]; exact hd
/-- a comprehension over enumerate(list) -/
theorem lc_en {K : PySem.W.Frag} {a : Addr} {xs : List V} {g : TG} {tt : TT} {te : TE} {vs : List Nat} {σ : L2.St} {H1 : Hp} {D : Addr} {Qd : Hp → Prop} (F : Nat → Option V) (hD : H1 D = none) (hS : SqL K H1 a xs) (hz : xs.length < sizeLine)
    (hs : ∀ i x T acc H (Nx : Hp → Prop), xs[i]? = some x → acc.length < sizeLine → Same H1 H → H D = some (.lst acc) → H T = some (.tup [.int (i : Nat), x]) → (∀ y, F i = some y → Nx (upd H D (.lst (acc ++ [y])))) → (F i = none → Nx H) →
      g (.ref T) (wipe σ vs) H fun σ2 H2 => wipe σ2 vs = wipe σ vs ∧ tt σ2 H2 fun b H3 => if b = true then te σ2 H3 fun y H4 => ∃ acc, H4 D = some (.lst acc) ∧ acc.length < sizeLine ∧ Nx (upd H4 D (.lst (acc ++ [y]))) else Nx H3)
    (hd : ∀ H, Same H1 H → H D = some (.lst ((List.range xs.length).filterMap F)) → Qd H) :
    ∃ W : Nat → Nat → Hp → Prop, (∃ m, W 0 m (upd H1 D (.lst []))) ∧ ∀ i m H, W i m H →
      ((Ite K a).stop i H ∧ Qd H) ∨ ((Ite K a).go i H ∧ ∃ Nx : Hp → Prop, (∀ H', Nx H' → ∃ m', m' < m ∧ W (i + 1) m' H') ∧ ∀ x H', (Ite K a).yld i H x H' → g x (wipe σ vs) H' fun σ2 H2 => wipe σ2 vs = wipe σ vs ∧ tt σ2 H2 fun b H3 =>
        if b = true then te σ2 H3 fun y H4 => ∃ acc, H4 D = some (.lst acc) ∧ acc.length < sizeLine ∧ Nx (upd H4 D (.lst (acc ++ [y]))) else Nx H3) := by
  refine ⟨fun i m H => m = xs.length - i ∧ i ≤ xs.length ∧ Same H1 H ∧ H D = some (.lst ((List.range i).filterMap F)), ⟨xs.length, by simp, Nat.zero_le _, same_new hD, upd_same⟩, ?_⟩
  rintro i m H ⟨rfl, hi, s, hl⟩
  have q := s.seq hS
  by_cases hlt : i < xs.length
  · refine .inr ⟨⟨xs, xs[i], q, by simp [hlt]⟩, fun H' => Same H1 H' ∧ H' D = some (.lst ((List.range (i + 1)).filterMap F)), fun H' p' => ⟨xs.length - (i + 1), by omega, rfl, hlt, p'⟩, fun x H' y => ?_⟩
    obtain ⟨T, z, rfl, nT, rfl, y⟩ := y
    have hz' := y xs q
    have DT : D ≠ T := ne_of_none hl nT
    have s2 : Same H1 (upd H T (.tup [.int (i : Nat), z])) := s.trans (same_new nT)
    refine hs i z T _ _ _ hz' ?_ s2 (by rw [upd_ne DT]; exact hl) upd_same (fun y hy => ⟨fun b o e => ?_, ?_⟩) (fun hy => ⟨s2, ?_⟩)
    · refine Nat.lt_of_le_of_lt (List.length_filterMap_le _ _) ?_
      rw [List.length_range]; omega
    · rw [upd_ne (ne_of_none e hD)]; exact s2 b o e
    · rw [upd_same, List.range_succ, List.filterMap_append, List.filterMap_cons, hy]; rfl
    · rw [upd_ne DT, hl, List.range_succ, List.filterMap_append, List.filterMap_cons, hy, List.filterMap_nil, List.append_nil]
  · have e : i = xs.length := by omega
    subst e
    exact .inl ⟨⟨xs, q, Nat.le_refl _⟩, hd H s hl⟩
theorem ticket_get {a : Kv319.Abs} {i : Nat} {t : Kv319.Ticket} (h : a.tickets[i]? = some t) : a.ticket i = t := by
  unfold Kv319.Abs.ticket
  rw [List.getD_eq_getElem?_getD, h]; rfl
theorem ticket_some {a : Kv319.Abs} {i : Nat} (h : i < a.tickets.length) : a.tickets[i]? = some (a.ticket i) := by
  obtain ⟨t, ht⟩ : ∃ t, a.tickets[i]? = some t := ⟨_, List.getElem?_eq_getElem h⟩
  rw [ticket_get ht]; exact ht
/-- the numbers of the tickets in such a state -/
def inI (a : Kv319.Abs) (s : Nat) : List Nat := (List.range a.tickets.length).filter fun t => (a.ticket t).state == s
theorem inI_len (a : Kv319.Abs) (s : Nat) : (inI a s).length ≤ a.tickets.length := by
  refine Nat.le_trans (List.length_filter_le _ _) ?_
  rw [List.length_range]; exact Nat.le_refl _
theorem inI_lt {a : Kv319.Abs} {s t : Nat} (h : t ∈ inI a s) : t < a.tickets.length := List.mem_range.mp (List.mem_filter.mp h).1
def sp_Yard_tickets_in (K : PySem.W.Frag) (cs : Cs) : Sp := fun vs H Q _ => ∃ L D a s, vs = [.ref (L .yard), nI s] ∧ Y cs H L D a ∧ a.tickets.length ≤ 60 ∧ ∀ H' p, Same H H' → H p = none → H' p = some (nL (inI a s)) → Q (.ref p) H'
theorem ok_Yard_tickets_in {P : Program} {w : World} {K : PySem.W.Frag} {mg : Str → Option Value} {base : Heap} {cs : Cs} (T : Txt K mg cs) : MOk P w K mg base 1 cs.Yard "tickets_in" ["self", "state"] (sp_Yard_tickets_in K cs) := by
  refine T.Yard.m_tickets_in.ok sc_Yard_tickets_in bd_Yard_tickets_in (fun vs H Q E h => ?_) (fun f cdv A outer s H vs Q E hr h => ?_)
  · obtain ⟨L, D, a, s, rfl, _⟩ := h; rfl
  · obtain ⟨L, D, a, s0, rfl, hY, hz, q⟩ := h
    refine ⟨_, (pss_one (ps_ret (pe_lc (own := [("number", 2), ("ticket", 3)]) (tt := (tTest (tOp rEq (tFld K (tVar 3) "state") (tVar 1)))) (te := (tVar 2)) (g := (gTup K 2 (gCons (gName 2) (gCons (gName 3) gNil)))) rfl sc_Yard_tickets_in.nd (pi_enum rfl T.b_enumerate (pa_cons (pe_fld (pv 0) rfl) pa_nil)) (blkOk_by (by show blkC ["self", "state", "number", "ticket"] (defScope s_Yard_tickets_in) _ [("number", 2), ("ticket", 3)] = true; decide +kernel)) (fun _ _ _ _ _ => (pg_tup rfl (pgs_cons (pg_name (i := 2) sc_Yard_tickets_in.nd rfl (Or.inl rfl)) (pgs_cons (pg_name (i := 3) sc_Yard_tickets_in.nd rfl (Or.inl rfl)) pgs_nil)))) (fun _ _ _ _ _ => (pts_one (pt_cmpR op_eq (pe_fld (pv 3) rfl) (pv 1) (nomark _)))) (fun _ _ _ _ _ => (pv 2))))), ?_⟩
    refine ⟨_, rfl, (L .yard), cs.Yard, (D .yard), _, _, rfl, hY.yard, T.Yard.cl, T.Yard.n_tickets, rfl, _, _, rfl, SqL.of hY.tl, fun Dl hD => ?_⟩
    refine lc_en (F := fun i => if ((a.ticket i).state == s0) = true then some (nI i) else none) hD (SqL.of hY.tl) ?_ ?_ ?_
    · rw [List.length_map, List.length_range]; exact Nat.lt_of_le_of_lt hz (by decide)
    · intro i x T0 acc H2 Nx hx ha s2 hl hT h1 h2
      have hi : i < a.tickets.length := by
        have := (List.getElem?_eq_some_iff.mp hx).1
        simpa using this
      have ex : x = .ref (L (.ticket i)) := Option.some.inj (hx.symm.trans (refs_at hi))
      subst ex
      have hk := s2 _ _ (hY.ticket (ticket_some hi))
      refine ⟨T0, _, rfl, SqT.of hT, rfl, _, _, rfl, _, _, rfl, rfl, rfl, _, rfl, _, cs.Ticket, _, _, _, rfl, hk, T.Ticket.cl, T.Ticket.n_state, rfl, _, rfl, rfl, _, rfl, ite2 (fun c => ?_) (fun c => ?_)⟩
      · have c := dV.mp c
        refine ⟨_, rfl, acc, hl, ha, ?_⟩
        exact h1 _ (if_pos (by rw [beq_iff_eq]; omega))
      · have c : ¬ ((a.ticket i).state : Int) = (s0 : Int) := fun z => c (dV.mpr z)
        exact h2 (if_neg (by rw [beq_iff_eq]; omega))
    · intro H2 s2 hl
      refine q H2 Dl s2 hD ?_
      rw [hl, List.length_map, List.length_range, fm_map]
      show some (HO.lst ((inI a s0).map fun i => nI i)) = _
      rw [nL, List.map_map]; rfl
def thereI (a : Kv319.Abs) : List Int := a.onYard.map fun t => ((a.ticket t).lorry : Int)
def sp_Yard_lorries_there (K : PySem.W.Frag) (cs : Cs) : Sp := fun vs H Q _ => ∃ L D a, vs = [.ref (L .yard)] ∧ Y cs H L D a ∧ a.tickets.length ≤ 60 ∧ ∀ H' p, Same H H' → H p = none → H' p = some (iL (thereI a)) → Q (.ref p) H'
theorem items_nat {K : PySem.W.Frag} {H : Hp} {p : Addr} {l : List Nat} (h : H p = some (nL l)) : SqL K H p (l.map nI) := by
  have e : l.map nI = (l.map Int.ofNat).map V.int := by rw [List.map_map]; rfl
  rw [e]; exact SqL.of h
theorem ok_Yard_lorries_there {P : Program} {w : World} {K : PySem.W.Frag} {mg : Str → Option Value} {base : Heap} {cs : Cs} (T : Txt K mg cs) : MOk P w K mg base 2 cs.Yard "lorries_there" ["self"] (sp_Yard_lorries_there K cs) := by
  refine T.Yard.m_lorries_there.ok sc_Yard_lorries_there bd_Yard_lorries_there (fun vs H Q E h => ?_) (fun f cdv A outer s H vs Q E hr h => ?_)
  · obtain ⟨L, D, a, rfl, _⟩ := h; rfl
  · obtain ⟨L, D, a, rfl, hY, hz, q⟩ := h
    refine ⟨_, (pss_one (ps_ret (pe_lc (own := [("number", 1)]) (tt := tYes) (te := (tFld K (tOp (rIxL K) (tFld K (tVar 0) "tickets") (tVar 1)) "lorry")) (g := (gName 1)) rfl sc_Yard_lorries_there.nd (pi_list (pm (pv 0) T.Yard.cl (ok_Yard_tickets_in T) (hr.mono (by decide)) (pa_cons (pgi T.g_ON_YARD) pa_nil))) (blkOk_by (by show blkC ["self", "number"] (defScope s_Yard_lorries_there) _ [("number", 1)] = true; decide +kernel)) (fun _ _ _ _ _ => (pg_name (i := 1) sc_Yard_lorries_there.nd rfl (Or.inl rfl))) (fun _ _ _ _ _ => pts_nil) (fun _ _ _ _ _ => (pe_fld (pe_ix ix_list (pe_fld (pv 0) rfl) (pv 1) (fun _ _ => rfl)) rfl))))), ?_⟩
    refine ⟨_, rfl, (L .yard), (D .yard), _, rfl, hY.yard, rfl, L, D, a, 0, rfl, hY, hz, fun H1 p s1 hp hp1 => ?_⟩
    have hY1 := hY.same s1
    refine ⟨_, rfl, ⟨_, SqL.of hp1⟩, fun Dl hD => ?_⟩
    refine lc_of (ys := inI a 0) (r := nI) (G := fun t => some (V.int ((a.ticket t).lorry : Int))) hD (items_nat hp1) ?_ ?_ ?_
    · exact Nat.lt_of_le_of_lt (Nat.le_trans (inI_len a 0) hz) (by decide)
    · intro t acc Nx ht ha h1 h2
      have hi := inI_lt ht
      have hY2 := hY1.same (same_new (o := .lst acc) hD)
      refine ⟨rfl, _, rfl, (L .yard), cs.Yard, (D .yard), _, _, rfl, hY2.yard, T.Yard.cl, T.Yard.n_tickets, rfl, _, rfl, _, _, _, _, rfl, rfl, SqL.of hY2.tl, atI_nat (refs_at hi), _, cs.Ticket, _, _, _, rfl, hY2.ticket (ticket_some hi), T.Ticket.cl, T.Ticket.n_lorry, rfl, acc, upd_same, ha, ?_⟩
      rw [upd_upd]
      exact h1 _ rfl
    · have s2 := same_new (o := .lst ((inI a 0).filterMap fun t => some (V.int ((a.ticket t).lorry : Int)))) hD
      refine q _ Dl (s1.trans s2) (s1.free hD) ?_
      rw [upd_same]
      show _ = some (HO.lst (((inI a 0).map fun t => ((a.ticket t).lorry : Int)).map V.int))
      rw [List.map_map, ← List.filterMap_eq_map]; rfl
def sp_Yard_is_full (K : PySem.W.Frag) (cs : Cs) : Sp := fun vs H Q _ => ∃ L D a, vs = [.ref (L .yard)] ∧ Y cs H L D a ∧ a.tickets.length ≤ 60 ∧ ∀ H', Same H H' → Q (.bl (decide (a.yard ≤ a.onYard.length))) H'
theorem ok_Yard_is_full {P : Program} {w : World} {K : PySem.W.Frag} {mg : Str → Option Value} {base : Heap} {cs : Cs} (T : Txt K mg cs) : MOk P w K mg base 3 cs.Yard "is_full" ["self"] (sp_Yard_is_full K cs) := by
  refine T.Yard.m_is_full.ok sc_Yard_is_full bd_Yard_is_full (fun vs H Q E h => ?_) (fun f cdv A outer s H vs Q E hr h => ?_)
  · obtain ⟨L, D, a, rfl, _⟩ := h; rfl
  · obtain ⟨L, D, a, rfl, hY, hz, q⟩ := h
    refine ⟨_, (pss_one (ps_ret (pe_cmpR op_ge (pb call_len_seq T.b_len bt_len (pa_cons (pm0 (pv 0) T.Yard.cl (ok_Yard_lorries_there T) (hr.mono (by decide))) pa_nil)) (pe_fld (pv 0) rfl) (nomark _)))), ?_⟩
    refine ⟨_, rfl, (L .yard), (D .yard), _, rfl, hY.yard, rfl, L, D, a, rfl, hY, hz, fun H1 p s1 hp hp1 => ?_⟩
    refine ⟨_, _, rfl, .inl (SqL.of hp1), _, rfl, (L .yard), cs.Yard, (D .yard), _, _, rfl, s1 _ _ hY.yard, T.Yard.cl, T.Yard.n_room, rfl, _, _, rfl, rfl, ?_⟩
    have q := q _ s1
    rw [← show decide ((a.yard : Int) ≤ ((((thereI a).map V.int).length : Nat) : Int)) = decide (a.yard ≤ a.onYard.length) from decide_eq_decide.mpr (by rw [List.length_map, thereI, List.length_map]; omega)] at q
    exact q
end Wb

end
section
set_option Elab.async false
set_option linter.all false
set_option maxRecDepth 100000
set_option maxHeartbeats 4000000
/-! Lorries that come and go: why not. -/
namespace Wb
open PySem PySem.Spec PyProof.Rows L2
theorem flat_ints : ∀ l : List Int, (l.map V.int).all flatV = true
  | [] => rfl
  | _ :: r => by rw [List.map_cons, List.all_cons, flat_ints r]; rfl
theorem inV_there (a : Kv319.Abs) (l : Nat) : inV (nI l) ((thereI a).map V.int) = a.hasLorry l := by
  unfold inV thereI Kv319.Abs.hasLorry
  rw [List.map_map, List.any_map]
  congr 1
  funext t
  show ((((a.ticket t).lorry : Int)) == (l : Int)) = ((a.ticket t).lorry == l)
  rw [Bool.eq_iff_iff, beq_iff_eq, beq_iff_eq]
  omega
/-- what holds of a yard, always -/
structure Ok (a : Kv319.Abs) : Prop where
  pl : PlOk a
  kl : a.kinds.length ≤ 6
  ll : a.lorries.length ≤ 12
  tl : a.tickets.length ≤ 60
  kk : ∀ k ∈ a.kinds, k.price ≤ 100000 ∧ k.wet ≤ 50 ∧ k.stock ≤ k.most
  lt : ∀ l ∈ a.lorries, l.tares.length ≤ 2 ∧ l.day ≤ a.today
  tk : ∀ t ∈ a.tickets, t.lorry < a.lorries.length ∧ t.kind < a.kinds.length ∧ t.way ≤ 1 ∧ (t.state ≠ 1 → t.amount = 0)
def comingI (a : Kv319.Abs) (l k w m : Nat) : Int := if (!a.has l) = true then -2 else if (!a.hasK k) = true then -2 else if 1 < w then -22 else if 100 < m then -22 else if a.hasLorry l = true then -17 else a.why
def sp_coming_refusal (K : PySem.W.Frag) (cs : Cs) : Sp := fun vs H Q _ => ∃ L D a l k w m, vs = [.ref (L .yard), nI l, nI k, nI w, nI m] ∧ Y cs H L D a ∧ Ok a ∧ ∀ H', Same H H' → Q (.int (comingI a l k w m)) H'
theorem ok_coming_refusal {P : Program} {w : World} {K : PySem.W.Frag} {mg : Str → Option Value} {base : Heap} {cs : Cs} (T : Txt K mg cs) : FOk P w K mg base 6 "coming_refusal" ["yard", "lorry", "kind", "way", "moist"] (sp_coming_refusal K cs) := by
  refine T.f_coming_refusal.ok sc_coming_refusal bd_coming_refusal (fun vs H Q E h => ?_) (fun f cdv A outer s H vs Q E hr h => ?_)
  · obtain ⟨L, D, a, l, k, w, m, rfl, _⟩ := h; rfl
  · obtain ⟨L, D, a, l, k, w, m, rfl, hY, ok, q⟩ := h
    refine ⟨_, (pss_cons (ps_if ((pw_or (pt_not (pt_val (pm (pv 0) T.Yard.cl (ok_Yard_has_lorry T) (hr.mono (by decide)) (pa_cons (pv 1) pa_nil)))) (pw_or1 (pt_not (pt_val (pm (pv 0) T.Yard.cl (ok_Yard_has_kind T) (hr.mono (by decide)) (pa_cons (pv 2) pa_nil))))))).pt (pss_one (ps_ret (pgi T.g_NONE_SUCH))) pss_nil) (pss_cons (ps_if ((pw_or (pt_cmpR op_gt (pv 3) (pgi T.g_FETCHES) (nomark _)) (pw_or1 (pt_cmpR op_gt (pv 4) (pgi T.g_MOST_MOIST) (nomark _))))).pt (pss_one (ps_ret (pgi T.g_OUT_OF_RANGE))) pss_nil) (pss_cons (ps_if (pt_cmpR op_in_seq (pv 1) (pm0 (pv 0) T.Yard.cl (ok_Yard_lorries_there T) (hr.mono (by decide))) (by with_unfolding_all rfl)) (pss_one (ps_ret (pgi T.g_ALREADY))) pss_nil) (pss_one (ps_ret (pm0 (pe_fld (pv 0) rfl) T.Plate.cl (ok_Plate_weighing_refusal T) (hr.mono (by decide)))))))), ?_⟩
    have q0 := q _ (Same.refl H)
    unfold comingI at q0 q
    refine ⟨_, rfl, (L .yard), (D .yard), _, rfl, hY.yard, rfl, _, rfl, L, D, a, _, rfl, hY, _, rfl, ite2 (fun c => iteT ?_) (fun c => ?_)⟩
    · rw [if_pos c] at q0; exact q0
    rw [if_neg c] at q0 q
    refine ⟨_, rfl, (L .yard), (D .yard), _, rfl, hY.yard, rfl, _, rfl, L, D, a, _, rfl, hY, _, rfl, ite2 (fun c => ?_) (fun c => ?_)⟩
    · rw [if_pos c] at q0; exact q0
    rw [if_neg c] at q0 q
    refine ⟨_, rfl, _, _, rfl, rfl, _, rfl, ite2 (fun c => iteT ?_) (fun c => ?_)⟩
    · have c := of_decide_eq_true c
      rw [if_pos (by omega)] at q0; exact q0
    have c : ¬ (1 : Int) < (w : Int) := fun h => c (decide_eq_true h)
    rw [if_neg (by omega)] at q0 q
    refine ⟨_, rfl, _, _, rfl, rfl, _, rfl, ite2 (fun c => ?_) (fun c => ?_)⟩
    · have c := of_decide_eq_true c
      rw [if_pos (by omega)] at q0; exact q0
    have c : ¬ (100 : Int) < (m : Int) := fun h => c (decide_eq_true h)
    rw [if_neg (by omega)] at q0 q
    refine ⟨_, rfl, _, rfl, (L .yard), (D .yard), _, rfl, hY.yard, rfl, L, D, a, rfl, hY, ok.tl, fun H1 p s1 hp hp1 => ?_⟩
    have q1 := q _ s1
    have hY1 := hY.same s1
    refine ⟨_, _, rfl, .inl (SqL.of hp1), rfl, flat_ints _, _, rfl, ite2 (fun c => ?_) (fun c => ?_)⟩
    · have c : a.hasLorry l = true := by rw [← inV_there]; exact c
      rw [if_pos c] at q1; exact q1
    have c : ¬ a.hasLorry l = true := by rw [← inV_there]; exact c
    rw [if_neg c] at q1
    exact ⟨_, rfl, (L .yard), cs.Yard, (D .yard), _, _, rfl, hY1.yard, T.Yard.cl, T.Yard.n_plate, rfl, (L .plate), (D .plate), _, rfl, hY1.plate, rfl, _, a, rfl, hY1.plateAt, ok.pl, q1⟩
def arriveI (a : Kv319.Abs) (l k w : Nat) : Int := if comingI a l k w 0 ≠ 0 then comingI a l k w 0 else if a.yard ≤ a.onYard.length then -13 else if 60 ≤ a.tickets.length then -13 else 0
theorem nV {i j : Int} : ((!decide ((V.int i : V) = V.int j)) = true) ↔ i ≠ j := by
  rw [Bool.not_eq_true', decide_eq_false_iff_not]; exact ⟨fun h e => h (by rw [e]), fun h e => h (by injection e)⟩
def sp_arrive_refusal (K : PySem.W.Frag) (cs : Cs) : Sp := fun vs H Q _ => ∃ L D a l k w, vs = [.ref (L .yard), nI l, nI k, nI w] ∧ Y cs H L D a ∧ Ok a ∧ ∀ H', Same H H' → Q (.int (arriveI a l k w)) H'
theorem ok_arrive_refusal {P : Program} {w : World} {K : PySem.W.Frag} {mg : Str → Option Value} {base : Heap} {cs : Cs} (T : Txt K mg cs) : FOk P w K mg base 7 "arrive_refusal" ["yard", "lorry", "kind", "way"] (sp_arrive_refusal K cs) := by
  refine T.f_arrive_refusal.ok sc_arrive_refusal bd_arrive_refusal (fun vs H Q E h => ?_) (fun f cdv A outer s H vs Q E hr h => ?_)
  · obtain ⟨L, D, a, l, k, w, rfl, _⟩ := h; rfl
  · obtain ⟨L, D, a, l, k, w, rfl, hY, ok, q⟩ := h
    refine ⟨_, (pss_cons (ps_set (i := 4) sc_arrive_refusal.nd rfl (Or.inl rfl) (pf (ok_coming_refusal T) (hr.mono (by decide)) (pa_cons (pv 0) (pa_cons (pv 1) (pa_cons (pv 2) (pa_cons (pv 3) (pa_cons pe_int pa_nil))))))) (pss_cons (ps_if (pt_cmpR op_ne (pv 4) (pgi T.g_FINE) (nomark _)) (pss_one (ps_ret (pv 4))) pss_nil) (pss_cons (ps_if ((pw_or (pt_val (pm0 (pv 0) T.Yard.cl (ok_Yard_is_full T) (hr.mono (by decide)))) (pw_or1 (pt_val (pm0 (pv 0) T.Yard.cl (ok_Yard_is_out_of_tickets T) (hr.mono (by decide))))))).pt (pss_one (ps_ret (pgi T.g_FULL))) pss_nil) (pss_one (ps_ret (pgi T.g_FINE)))))), ?_⟩
    unfold arriveI at q
    refine ⟨_, rfl, _, rfl, _, rfl, _, rfl, L, D, a, _, _, _, 0, rfl, hY, ok, fun H1 s1 => ?_⟩
    have hY1 := hY.same s1
    have q1 := q _ s1
    refine ⟨_, rfl, rfl, _, rfl, ite2 (fun c => ?_) (fun c => ?_)⟩
    · rw [if_pos (nV.mp c)] at q1; exact ⟨_, rfl, q1⟩
    rw [if_neg (fun z => c (nV.mpr z))] at q q1
    refine ⟨_, rfl, (L .yard), (D .yard), _, rfl, hY1.yard, rfl, L, D, a, rfl, hY1, ok.tl, fun H2 s2 => ?_⟩
    have q2 := q _ (s1.trans s2)
    have hY2 := hY1.same s2
    refine ⟨_, rfl, ite2 (fun c => iteT ?_) (fun c => ?_)⟩
    · rw [if_pos (of_decide_eq_true c)] at q2; exact q2
    rw [if_neg (fun z => c (decide_eq_true z))] at q2
    refine ⟨_, rfl, (L .yard), (D .yard), _, rfl, hY2.yard, rfl, L, D, a, rfl, hY2, _, rfl, ite2 (fun c => ?_) (fun c => ?_)⟩
    · rw [if_pos (of_decide_eq_true c)] at q2; exact q2
    · rw [if_neg (fun z => c (decide_eq_true z))] at q2; exact q2
theorem weight_eq {a : Kv319.Abs} (h : 0 < a.now_) : a.now_ = ((a.weight : Nat) : Int) := (Int.toNat_of_nonneg (by omega)).symm
def sp_is_too_heavy_now (K : PySem.W.Frag) (cs : Cs) : Sp := fun vs H Q _ => ∃ L D a l z, vs = [.ref (L .yard), nI l] ∧ Y cs H L D a ∧ PlOk a ∧ a.lorries[l]? = some z ∧ a.load ≠ [] ∧ 0 < a.now_ ∧ Q (.bl (heavyI z a.weight a.load)) H
theorem ok_is_too_heavy_now {P : Program} {w : World} {K : PySem.W.Frag} {mg : Str → Option Value} {base : Heap} {cs : Cs} (T : Txt K mg cs) : FOk P w K mg base 4 "is_too_heavy_now" ["yard", "lorry"] (sp_is_too_heavy_now K cs) := by
  refine T.f_is_too_heavy_now.ok sc_is_too_heavy_now bd_is_too_heavy_now (fun vs H Q E h => ?_) (fun f cdv A outer s H vs Q E hr h => ?_)
  · obtain ⟨L, D, a, l, z, rfl, _⟩ := h; rfl
  · obtain ⟨L, D, a, l, z, rfl, hY, pl, hl, ne, hw, q⟩ := h
    have hlt : l < a.lorries.length := (List.getElem?_eq_some_iff.mp hl).1
    refine ⟨_, (pss_one (ps_ret (pm (pe_ix ix_list (pe_fld (pv 0) rfl) (pv 1) (fun _ _ => rfl)) T.Lorry.cl (ok_Lorry_is_too_heavy T) (hr.mono (by decide)) (pa_cons (pm0 (pe_fld (pv 0) rfl) T.Plate.cl (ok_Plate_reading T) (hr.mono (by decide))) (pa_cons (pe_fld (pe_fld (pv 0) rfl) rfl) pa_nil))))), ?_⟩
    exact ⟨_, rfl, (L .yard), cs.Yard, (D .yard), _, _, rfl, hY.yard, T.Yard.cl, T.Yard.n_lorries, rfl, _, rfl, _, _, _, _, rfl, rfl, SqL.of hY.ll, atI_nat (refs_at hlt), _, _, _, rfl, hY.lorry hl, rfl, _, rfl, (L .yard), cs.Yard, (D .yard), _, _, rfl, hY.yard, T.Yard.cl, T.Yard.n_plate, rfl, (L .plate), (D .plate), _, rfl, hY.plate, rfl, _, a, rfl, hY.plateAt, pl, _, rfl, (L .yard), cs.Yard, (D .yard), _, _, rfl, hY.yard, T.Yard.cl, T.Yard.n_plate, rfl, (L .plate), cs.Plate, (D .plate), _, _, rfl, hY.plate, T.Plate.cl, T.Plate.n_axles, rfl,
      _, _, z, _, a.weight, _, a.load, congrArg (fun x => [V.ref (L (.lorry l)), V.int x, V.ref (L .axl)]) (weight_eq hw), hY.lorry hl, hY.axl, ne, q⟩
def settI (z : Kv319.Kind) (way net : Nat) : Int := if net = 0 then -44 else stockI z way net
def sp_settling_refusal (K : PySem.W.Frag) (cs : Cs) : Sp := fun vs H Q _ => ∃ L D a k z way net, vs = [.ref (L .yard), nI k, nI way, nI net] ∧ Y cs H L D a ∧ a.kinds[k]? = some z ∧ Q (.int (settI z way net)) H
theorem ok_settling_refusal {P : Program} {w : World} {K : PySem.W.Frag} {mg : Str → Option Value} {base : Heap} {cs : Cs} (T : Txt K mg cs) : FOk P w K mg base 3 "settling_refusal" ["yard", "kind", "way", "net"] (sp_settling_refusal K cs) := by
  refine T.f_settling_refusal.ok sc_settling_refusal bd_settling_refusal (fun vs H Q E h => ?_) (fun f cdv A outer s H vs Q E hr h => ?_)
  · obtain ⟨L, D, a, k, z, way, net, rfl, _⟩ := h; rfl
  · obtain ⟨L, D, a, k, z, way, net, rfl, hY, hk, q⟩ := h
    have hlt : k < a.kinds.length := (List.getElem?_eq_some_iff.mp hk).1
    refine ⟨_, (pss_cons (ps_if (pt_cmpR op_eq (pv 3) pe_int (nomark _)) (pss_one (ps_ret (pgi T.g_NOTHING_NET))) pss_nil) (pss_one (ps_ret (pm (pe_ix ix_list (pe_fld (pv 0) rfl) (pv 1) (fun _ _ => rfl)) T.Goods.cl (ok_Goods_stock_refusal T) (hr.mono (by decide)) (pa_cons (pv 2) (pa_cons (pv 3) pa_nil)))))), ?_⟩
    unfold settI at q
    refine ⟨_, rfl, rfl, _, rfl, ite2 (fun c => ?_) (fun c => ?_)⟩
    · have c := dV.mp c
      rw [if_pos (by omega)] at q; exact q
    · have c : ¬ (net : Int) = 0 := fun z => c (dV.mpr z)
      rw [if_neg (by omega)] at q
      exact ⟨_, rfl, (L .yard), cs.Yard, (D .yard), _, _, rfl, hY.yard, T.Yard.cl, T.Yard.n_kinds, rfl, _, rfl, _, _, _, _, rfl, rfl, SqL.of hY.kl, atI_nat (refs_at hlt), _, _, _, rfl, hY.kind hk, rfl, _, rfl, _, rfl, _, _, z, way, net, rfl, hY.kind hk, q⟩
def standI (a : Kv319.Abs) (n : Nat) : Int := if (!decide (n < a.tickets.length)) = true then -2 else if (a.ticket n).state ≠ 0 then -17 else 0
def sp_standing_refusal (K : PySem.W.Frag) (cs : Cs) : Sp := fun vs H Q _ => ∃ L D a n, vs = [.ref (L .yard), nI n] ∧ Y cs H L D a ∧ Q (.int (standI a n)) H
theorem ok_standing_refusal {P : Program} {w : World} {K : PySem.W.Frag} {mg : Str → Option Value} {base : Heap} {cs : Cs} (T : Txt K mg cs) : FOk P w K mg base 2 "standing_refusal" ["yard", "number"] (sp_standing_refusal K cs) := by
  refine T.f_standing_refusal.ok sc_standing_refusal bd_standing_refusal (fun vs H Q E h => ?_) (fun f cdv A outer s H vs Q E hr h => ?_)
  · obtain ⟨L, D, a, n, rfl, _⟩ := h; rfl
  · obtain ⟨L, D, a, n, rfl, hY, q⟩ := h
    refine ⟨_, (pss_cons (ps_if (pt_not (pt_val (pm (pv 0) T.Yard.cl (ok_Yard_has_ticket T) (hr.mono (by decide)) (pa_cons (pv 1) pa_nil)))) (pss_one (ps_ret (pgi T.g_NONE_SUCH))) pss_nil) (pss_cons (ps_if (pt_cmpR op_ne (pe_fld (pe_ix ix_list (pe_fld (pv 0) rfl) (pv 1) (fun _ _ => rfl)) rfl) (pgi T.g_ON_YARD) (nomark _)) (pss_one (ps_ret (pgi T.g_ALREADY))) pss_nil) (pss_one (ps_ret (pgi T.g_FINE))))), ?_⟩
    unfold standI at q
    refine ⟨_, rfl, (L .yard), (D .yard), _, rfl, hY.yard, rfl, _, rfl, L, D, a, _, rfl, hY, _, rfl, ite2 (fun c => ?_) (fun c => ?_)⟩
    · rw [if_pos c] at q; exact q
    rw [if_neg c] at q
    have hlt : n < a.tickets.length := by
      rw [Bool.not_eq_true', decide_eq_false_iff_not] at c
      exact Decidable.not_not.mp c
    have ht := ticket_some hlt
    refine ⟨_, rfl, (L .yard), cs.Yard, (D .yard), _, _, rfl, hY.yard, T.Yard.cl, T.Yard.n_tickets, rfl, _, rfl, _, _, _, _, rfl, rfl, SqL.of hY.tl, atI_nat (refs_at hlt), _, cs.Ticket, _, _, _, rfl, hY.ticket ht, T.Ticket.cl, T.Ticket.n_state, rfl, rfl, _, rfl, ite2 (fun c => ?_) (fun c => ?_)⟩
    · have c := nV.mp c
      rw [if_pos (by omega)] at q; exact q
    · have c : ¬ ((a.ticket n).state : Int) ≠ 0 := fun z => c (nV.mpr z)
      rw [if_neg (by omega)] at q; exact q
end Wb

end
section
set_option Elab.async false
set_option linter.all false
set_option maxRecDepth 100000
set_option maxHeartbeats 4000000
/-! How a yard's parts change: one more, one changed. -/
namespace Wb
open PySem PySem.Spec PyProof.Rows L2
section
variable {cs : Cs} {H H' H1 H2 : Hp} {L D L' D' L1 D1 L2 D2 : Tag → Addr} {a a' a1 a2 : Kv319.Abs}
theorem Step.trans (s1 : Step cs H L D a H1 L1 D1 a1) (s2 : Step cs H1 L1 D1 a1 H2 L2 D2 a2) : Step cs H L D a H2 L2 D2 a2 := by
  refine ⟨fun b o e h => s2.keep b o (s1.keep b o e h) fun t x q z => ?_, fun t x q => ?_, fun b o e => ?_, s2.home.trans s1.home⟩
  · rcases s1.own t x q with ⟨t0, x0, q0, e0⟩ | n
    · exact h t0 x0 q0 (z.trans e0)
    · rw [← z, e] at n; cases n
  · rcases s2.own t x q with ⟨t1, x1, q1, e1⟩ | n
    · rcases s1.own t1 x1 q1 with ⟨t0, x0, q0, e0⟩ | n
      · exact .inl ⟨t0, x0, q0, e1.trans e0⟩
      · exact .inr (by rw [e1]; exact n)
    · by_cases c : ∃ t0 x0, cont cs a L D t0 = some x0 ∧ L2 t = L t0
      · exact .inl c
      · refine .inr ?_
        cases e : H (L2 t) with
        | none => rfl
        | some o =>
          have := s1.keep _ o e fun t0 x0 q0 z => c ⟨t0, x0, q0, z⟩
          rw [n] at this; cases this
  · obtain ⟨o1, e1⟩ := s1.live b o e
    exact s2.live b o1 e1
def ext (L : Tag → Addr) (τ : Tag) (x : Addr) : Tag → Addr := fun u => if u = τ then x else L u
theorem ext_at {τ : Tag} {x : Addr} : ext L τ x τ = x := if_pos rfl
theorem ext_ne {τ u : Tag} {x : Addr} (h : u ≠ τ) : ext L τ x u = L u := if_neg h
theorem refs_ext {f : Nat → Tag} {τ : Tag} {x : Addr} {n : Nat} (h : ∀ i, i < n → f i ≠ τ) : refs (ext L τ x) f n = refs L f n := by
  unfold refs
  congr 1
  refine List.map_congr_left fun i hi => ?_
  rw [ext_ne (h i (List.mem_range.mp hi))]
theorem refs_snoc {f : Nat → Tag} {n : Nat} {xs : List V} (h : refs L f n = .lst xs) {x : Addr} (hf : ∀ i j, f i = f j → i = j) : refs (ext L (f n) x) f (n + 1) = .lst (xs ++ [.ref x]) := by
  unfold refs at h ⊢
  injection h with h
  rw [List.range_succ, List.map_append, ← h]
  congr 2
  · refine List.map_congr_left fun i hi => ?_
    rw [ext_ne fun e => by have := hf _ _ e; have := List.mem_range.mp hi; omega]
  · show [V.ref (ext L (f n) x (f n))] = _
    rw [ext_at]
theorem snoc_at {α : Type} (l : List α) (x : α) : (l ++ [x])[l.length]? = some x := by simp
theorem snoc_ne {α : Type} (l : List α) (x : α) {i : Nat} (h : i ≠ l.length) : (l ++ [x])[i]? = l[i]? := by
  by_cases c : i < l.length
  · rw [List.getElem?_append_left c]
  · rw [List.getElem?_eq_none (by simp; omega), List.getElem?_eq_none (by omega)]
/-- one more ticket -/
theorem Y.addTicket (y : Y cs H L D a) {x dx : Addr} {t : Kv319.Ticket} {xs : List V} (nx : H x = none) (ex : refs L .ticket a.tickets.length = .lst xs) (hx : H' x = some (.ins cs.Ticket dx (tfs t)))
    (hl : H' (L .tl) = some (.lst (xs ++ [.ref x]))) (keep : ∀ b o, H b = some o → b ≠ L .tl → H' b = some o) :
    Y cs H' (ext L (.ticket a.tickets.length) x) (ext D (.ticket a.tickets.length) dx) { a with tickets := a.tickets ++ [t] } ∧ Step cs H L D a H' (ext L (.ticket a.tickets.length) x) (ext D (.ticket a.tickets.length) dx) { a with tickets := a.tickets ++ [t] } := by
  refine y.grow (fun u => u = .ticket a.tickets.length) (fun u => u = .tl) (fun u e => by rw [e, ext_at]; exact nx) (fun u v e e' _ => e.trans e'.symm) (fun u n => ext_ne n) (fun u e => by rw [e]; exact ⟨_, rfl⟩) ?_
    (fun b o e h => keep b o e (h _ rfl)) (fun u e => by rw [e]; exact ⟨_, hl⟩) ?_
  · intro u n m
    cases u with
    | yard => rfl
    | plate => rfl
    | axl => rfl
    | kl => exact congrArg some (refs_ext fun i _ e => nomatch e)
    | ll => exact congrArg some (refs_ext fun i _ e => nomatch e)
    | tl => exact absurd rfl m
    | kind i => rfl
    | lorry i => rfl
    | tares i => rfl
    | ticket i =>
      have h : i ≠ a.tickets.length := fun e => n (by rw [e])
      show Option.map _ ((a.tickets ++ [t])[i]?) = Option.map _ (a.tickets[i]?)
      rw [snoc_ne _ _ h, ext_ne n]
  · rintro u o (e | e) q
    · subst e
      have q : Option.map _ ((a.tickets ++ [t])[a.tickets.length]?) = some o := q
      rw [snoc_at, ext_at] at q
      rw [ext_at, hx, ← q]; rfl
    · subst e
      have q : some (refs (ext L (.ticket a.tickets.length) x) .ticket (a.tickets ++ [t]).length) = some o := q
      rw [List.length_append] at q
      have e2 := refs_snoc (x := x) ex fun i j e => by injection e
      rw [show a.tickets.length + [t].length = a.tickets.length + 1 from rfl, e2] at q
      rw [← q, ← hl]; rfl
/-- one more kind -/
theorem Y.addKind (y : Y cs H L D a) {x dx : Addr} {k : Kv319.Kind} {xs : List V} (nx : H x = none) (ex : refs L .kind a.kinds.length = .lst xs) (hx : H' x = some (.ins cs.Goods dx (gfs k)))
    (hl : H' (L .kl) = some (.lst (xs ++ [.ref x]))) (keep : ∀ b o, H b = some o → b ≠ L .kl → H' b = some o) :
    Y cs H' (ext L (.kind a.kinds.length) x) (ext D (.kind a.kinds.length) dx) { a with kinds := a.kinds ++ [k] } ∧ Step cs H L D a H' (ext L (.kind a.kinds.length) x) (ext D (.kind a.kinds.length) dx) { a with kinds := a.kinds ++ [k] } := by
  refine y.grow (fun u => u = .kind a.kinds.length) (fun u => u = .kl) (fun u e => by rw [e, ext_at]; exact nx) (fun u v e e' _ => e.trans e'.symm) (fun u n => ext_ne n) (fun u e => by rw [e]; exact ⟨_, rfl⟩) ?_
    (fun b o e h => keep b o e (h _ rfl)) (fun u e => by rw [e]; exact ⟨_, hl⟩) ?_
  · intro u n m
    cases u with
    | yard => rfl
    | plate => rfl
    | axl => rfl
    | tl => exact congrArg some (refs_ext fun i _ e => nomatch e)
    | ll => exact congrArg some (refs_ext fun i _ e => nomatch e)
    | kl => exact absurd rfl m
    | ticket i => rfl
    | lorry i => rfl
    | tares i => rfl
    | kind i =>
      have h : i ≠ a.kinds.length := fun e => n (by rw [e])
      show Option.map _ ((a.kinds ++ [k])[i]?) = Option.map _ (a.kinds[i]?)
      rw [snoc_ne _ _ h, ext_ne n]
  · rintro u o (e | e) q
    · subst e
      have q : Option.map _ ((a.kinds ++ [k])[a.kinds.length]?) = some o := q
      rw [snoc_at, ext_at] at q
      rw [ext_at, hx, ← q]; rfl
    · subst e
      have q : some (refs (ext L (.kind a.kinds.length) x) .kind (a.kinds ++ [k]).length) = some o := q
      rw [List.length_append] at q
      have e2 := refs_snoc (x := x) ex fun i j e => by injection e
      rw [show a.kinds.length + [k].length = a.kinds.length + 1 from rfl, e2] at q
      rw [← q, ← hl]; rfl
/-- one more lorry -/
theorem Y.addLorry (y : Y cs H L D a) {x dx tx : Addr} {l : Kv319.Lorry} {xs : List V} (nx : H x = none) (nt : H tx = none) (ne : x ≠ tx) (ex : refs L .lorry a.lorries.length = .lst xs) (hx : H' x = some (.ins cs.Lorry dx (lfs l tx))) (ht : H' tx = some (nL l.tares.reverse))
    (hl : H' (L .ll) = some (.lst (xs ++ [.ref x]))) (keep : ∀ b o, H b = some o → b ≠ L .ll → H' b = some o) :
    Y cs H' (ext (ext L (.tares a.lorries.length) tx) (.lorry a.lorries.length) x) (ext D (.lorry a.lorries.length) dx) { a with lorries := a.lorries ++ [l] } ∧
      Step cs H L D a H' (ext (ext L (.tares a.lorries.length) tx) (.lorry a.lorries.length) x) (ext D (.lorry a.lorries.length) dx) { a with lorries := a.lorries ++ [l] } := by
  have eL : ext (ext L (.tares a.lorries.length) tx) (.lorry a.lorries.length) x (.tares a.lorries.length) = tx := by rw [ext_ne (by intro e; cases e), ext_at]
  refine y.grow (fun u => u = .lorry a.lorries.length ∨ u = .tares a.lorries.length) (fun u => u = .ll) ?_ ?_ (fun u n => ?_) (fun u e => by rw [e]; exact ⟨_, rfl⟩) ?_ (fun b o e h => keep b o e (h _ rfl)) (fun u e => by rw [e]; exact ⟨_, hl⟩) ?_
  · rintro u (e | e)
    · rw [e, ext_at]; exact nx
    · rw [e, eL]; exact nt
  · rintro u v (e | e) (e' | e') q
    · exact e.trans e'.symm
    · rw [e, e', ext_at, eL] at q; exact absurd q ne
    · rw [e, e', ext_at, eL] at q; exact absurd q.symm ne
    · exact e.trans e'.symm
  · rw [ext_ne fun e => n (.inl e), ext_ne fun e => n (.inr e)]
  · intro u n m
    cases u with
    | yard => rfl
    | plate => rfl
    | axl => rfl
    | tl => exact congrArg some ((refs_ext (f := .ticket) (τ := .lorry a.lorries.length) (fun i _ e => nomatch e)).trans (refs_ext (f := .ticket) (τ := .tares a.lorries.length) (fun i _ e => nomatch e)))
    | kl => exact congrArg some ((refs_ext (f := .kind) (τ := .lorry a.lorries.length) (fun i _ e => nomatch e)).trans (refs_ext (f := .kind) (τ := .tares a.lorries.length) (fun i _ e => nomatch e)))
    | ll => exact absurd rfl m
    | ticket i => rfl
    | kind i => rfl
    | lorry i =>
      have h : i ≠ a.lorries.length := fun e => n (.inl (by rw [e]))
      show Option.map _ ((a.lorries ++ [l])[i]?) = Option.map _ (a.lorries[i]?)
      rw [snoc_ne _ _ h, ext_ne fun e => n (.inl e), ext_ne (u := .tares i) (by intro e; cases e), ext_ne (u := .tares i) (fun e => h (by injection e))]
    | tares i =>
      have h : i ≠ a.lorries.length := fun e => n (.inr (by rw [e]))
      show Option.map _ ((a.lorries ++ [l])[i]?) = Option.map _ (a.lorries[i]?)
      rw [snoc_ne _ _ h]
  · rintro u o ((e | e) | e) q
    · subst e
      have q : Option.map _ ((a.lorries ++ [l])[a.lorries.length]?) = some o := q
      rw [snoc_at, ext_at, eL] at q
      rw [ext_at, hx, ← q]; rfl
    · subst e
      have q : Option.map _ ((a.lorries ++ [l])[a.lorries.length]?) = some o := q
      rw [snoc_at] at q
      rw [eL, ht, ← q]; rfl
    · subst e
      have q : some (refs (ext (ext L (.tares a.lorries.length) tx) (.lorry a.lorries.length) x) .lorry (a.lorries ++ [l]).length) = some o := q
      rw [List.length_append] at q
      have ex2 : refs (ext L (.tares a.lorries.length) tx) .lorry a.lorries.length = .lst xs := by rw [refs_ext (f := .lorry) (τ := .tares a.lorries.length) (fun i _ e => nomatch e)]; exact ex
      have e2 := refs_snoc (x := x) ex2 fun i j e => by injection e
      rw [show a.lorries.length + [l].length = a.lorries.length + 1 from rfl, e2] at q
      rw [← q, ← hl]; rfl
end
end Wb

end
section
set_option Elab.async false
set_option linter.all false
set_option maxRecDepth 100000
set_option maxHeartbeats 4000000
/-! Lorries that come and go: arrive, cancel, settle. -/
namespace Wb
open PySem PySem.Spec PyProof.Rows L2
theorem mod_self {α : Type} (l : List α) (k : Nat) (f : α → α) : (l.modify k f)[k]? = l[k]?.map f := by simp [List.getElem?_modify]
theorem mod_ne {α : Type} (l : List α) {k i : Nat} (f : α → α) (h : i ≠ k) : (l.modify k f)[i]? = l[i]? := by
  rw [List.getElem?_modify]
  cases l[i]? with
  | none => rfl
  | some x => show some (if k = i then f x else x) = some x; rw [if_neg fun e => h e.symm]
theorem why0 {a : Kv319.Abs} (h : a.why = 0) : a.load ≠ [] ∧ 0 < a.now_ := by
  unfold Kv319.Abs.why at h
  by_cases c : a.load = []
  · rw [if_pos c] at h; omega
  · rw [if_neg c] at h
    by_cases c2 : a.over = true
    · rw [if_pos c2] at h; omega
    · rw [if_neg c2] at h
      by_cases c3 : a.now_ ≤ 0
      · rw [if_pos c3] at h; omega
      · exact ⟨c, by omega⟩
theorem coming0 {a : Kv319.Abs} {l k w m : Nat} (h : comingI a l k w m = 0) : a.has l = true ∧ a.hasK k = true ∧ w ≤ 1 ∧ m ≤ 100 ∧ ¬ a.hasLorry l = true ∧ a.why = 0 := by
  unfold comingI at h
  by_cases c1 : (!a.has l) = true
  · rw [if_pos c1] at h; omega
  rw [if_neg c1] at h
  by_cases c2 : (!a.hasK k) = true
  · rw [if_pos c2] at h; omega
  rw [if_neg c2] at h
  by_cases c3 : 1 < w
  · rw [if_pos c3] at h; omega
  rw [if_neg c3] at h
  by_cases c4 : 100 < m
  · rw [if_pos c4] at h; omega
  rw [if_neg c4] at h
  by_cases c5 : a.hasLorry l = true
  · rw [if_pos c5] at h; omega
  rw [if_neg c5] at h
  exact ⟨by simpa using c1, by simpa using c2, by omega, by omega, c5, h⟩
theorem arrive_no {a : Kv319.Abs} {l k w : Nat} (h : arriveI a l k w ≠ 0) : a.does (.arrive l k w) = (a, Kv319.say (arriveI a l k w)) := by
  unfold arriveI comingI at h ⊢
  simp only [Kv319.Abs.does]
  by_cases c1 : a.has l = true
  case neg => simp [c1]
  by_cases c2 : a.hasK k = true
  case neg => simp [c1, c2]
  by_cases c3 : 1 < w
  case pos => simp [c1, c2, c3]
  by_cases c5 : a.hasLorry l = true
  case pos => simp [c1, c2, c3, c5]
  by_cases c6 : a.why = 0
  case neg => simp [c1, c2, c3, c5, c6]
  by_cases c7 : a.yard ≤ a.onYard.length
  case pos => simp [c1, c2, c3, c5, c6, c7]
  by_cases c8 : 60 ≤ a.tickets.length
  case pos => simp [c1, c2, c3, c5, c6, c7, c8]
  exact absurd (by simp [c1, c2, c3, c5, c6, c7, c8]) h
theorem arrive_yes {a : Kv319.Abs} {l k w : Nat} (h : arriveI a l k w = 0) : a.does (.arrive l k w) = ({ a with tickets := a.tickets ++ [⟨l, k, w, a.weight, 0, 0, 0, 0, 0⟩] }, ⟨(a.tickets.length : Nat), [(a.weight : Nat)]⟩) := by
  unfold arriveI at h
  by_cases c : comingI a l k w 0 ≠ 0
  · rw [if_pos c] at h; exact absurd h c
  rw [if_neg c] at h
  obtain ⟨h1, h2, h3, h4, h5, h6⟩ := coming0 (Decidable.not_not.mp c)
  by_cases c7 : a.yard ≤ a.onYard.length
  · rw [if_pos c7] at h; omega
  rw [if_neg c7] at h
  by_cases c8 : 60 ≤ a.tickets.length
  · rw [if_pos c8] at h; omega
  simp only [Kv319.Abs.does]
  simp [h1, h2, h5, h6, c7, c8, show ¬ 1 < w by omega]
def sp_arrive (K : PySem.W.Frag) (cs : Cs) : Sp := fun vs H Q _ => ∃ L D a l k w, vs = [.ref (L .yard), nI l, nI k, nI w] ∧ Y cs H L D a ∧ Ok a ∧ Did cs H L D a (a.does (.arrive l k w)) Q
theorem ok_arrive {P : Program} {w : World} {K : PySem.W.Frag} {mg : Str → Option Value} {base : Heap} {cs : Cs} (T : Txt K mg cs) : FOk P w K mg base 8 "arrive" ["yard", "lorry", "kind", "way"] (sp_arrive K cs) := by
  refine T.f_arrive.ok sc_arrive bd_arrive (fun vs H Q E h => ?_) (fun f cdv A outer s H vs Q E hr h => ?_)
  · obtain ⟨L, D, a, l, k, w, rfl, _⟩ := h; rfl
  · obtain ⟨L, D, a, l, k, w, rfl, hY, ok, d⟩ := h
    refine ⟨_, (pss_cons (ps_set (i := 4) sc_arrive.nd rfl (Or.inl rfl) (pf (ok_arrive_refusal T) (hr.mono (by decide)) (pa_cons (pv 0) (pa_cons (pv 1) (pa_cons (pv 2) (pa_cons (pv 3) pa_nil)))))) (pss_cons (ps_if (pt_cmpR op_ne (pv 4) (pgi T.g_FINE) (nomark _)) (pss_one (ps_ret (pe_lst (pa_cons (pv 4) pa_nil)))) pss_nil) (pss_cons (ps_set (i := 5) sc_arrive.nd rfl (Or.inl rfl) (pm0 (pe_fld (pv 0) rfl) T.Plate.cl (ok_Plate_reading T) (hr.mono (by decide)))) (pss_cons (ps_expr (pe_bm PySem.F.plainAttrs_list PySem.F.slot_list_append PySem.F.type_list_append mt_append (pe_fld (pv 0) rfl) (pa_cons (pk (ok_Ticket_init T) (hr.mono (by decide)) T.Ticket.mgC (pa_cons (pv 1) (pa_cons (pv 2) (pa_cons (pv 3) (pa_cons (pv 5) pa_nil))))) pa_nil))) (pss_one (ps_ret (pe_lst (pa_cons (pe_op op_sub (pb call_len_seq T.b_len bt_len (pa_cons (pe_fld (pv 0) rfl) pa_nil)) pe_int) (pa_cons (pv 5) pa_nil))))))))), ?_⟩
    refine ⟨_, rfl, _, rfl, _, rfl, _, rfl, L, D, a, l, k, w, rfl, hY, ok, fun H1 s1 => ?_⟩
    have hY1 := hY.same s1
    refine ⟨_, rfl, rfl, _, rfl, ite2 (fun c => ?_) (fun c => ?_)⟩
    · refine ⟨_, rfl, (by show 1 ≤ sizeLine; decide), fun q hq => ?_⟩
      exact d.same hY s1 (arrive_no (nV.mp c)) hq
    have e0 : arriveI a l k w = 0 := Decidable.not_not.mp fun z => c (nV.mpr z)
    rw [arrive_yes e0] at d
    have hw : 0 < a.now_ := by
      refine (why0 (coming0 (m := 0) (l := l) (k := k) (w := w) ?_).2.2.2.2.2).2
      unfold arriveI at e0
      by_cases c : comingI a l k w 0 ≠ 0
      · rw [if_pos c] at e0; exact absurd e0 c
      · exact Decidable.not_not.mp c
    refine ⟨_, rfl, (L .yard), cs.Yard, (D .yard), _, _, rfl, hY1.yard, T.Yard.cl, T.Yard.n_plate, rfl, (L .plate), (D .plate), _, rfl, hY1.plate, rfl, _, a, rfl, hY1.plateAt, ok.pl, ?_⟩
    refine ⟨_, rfl, (L .yard), cs.Yard, (D .yard), _, _, rfl, hY1.yard, T.Yard.cl, T.Yard.n_tickets, rfl, .inl ⟨rfl, _, SqL.of hY1.tl⟩, _, rfl, _, rfl, _, rfl, _, rfl, fun x dx nx nd ndx => ?_⟩
    refine ⟨x, dx, l, k, w, a.weight, congrArg (fun z => [V.ref x, nI l, nI k, nI w, V.int z]) (weight_eq hw), upd_same, rfl, ?_⟩
    have a1 : L .tl ≠ x := ne_of_none hY1.tl nx
    have a2 : L .tl ≠ dx := ne_of_none hY1.tl nd
    refine ⟨_, _, _, rfl, rfl, (by rw [upd_ne a1, upd_ne a1, upd_ne a2]; exact hY1.tl), (by rw [List.length_map, List.length_range]; exact Nat.lt_of_le_of_lt ok.tl (by decide)), ?_⟩
    obtain ⟨hY2, st2⟩ := hY1.addTicket (x := x) (dx := dx) (t := ⟨l, k, w, a.weight, 0, 0, 0, 0, 0⟩) (H' := upd (upd (upd (upd H1 dx (.own x)) x (.ins cs.Ticket dx [])) x (.ins cs.Ticket dx (tfs ⟨l, k, w, a.weight, 0, 0, 0, 0, 0⟩))) (L .tl) (.lst (((List.range a.tickets.length).map fun i => .ref (L (.ticket i))) ++ [.ref x])))
      nx rfl (by rw [upd_ne a1.symm, upd_same]) upd_same (fun b o e nb => by rw [upd_ne nb, upd_ne (ne_of_none e nx), upd_ne (ne_of_none e nx), upd_ne (ne_of_none e nd)]; exact e)
    refine ⟨_, rfl, _, cs.Yard, _, _, _, rfl, hY2.yard, T.Yard.cl, T.Yard.n_tickets, rfl, _, _, rfl, .inl (SqL.of hY2.tl), _, _, rfl, rfl, _, rfl, (by show 2 ≤ sizeLine; decide), fun q hq => ?_⟩
    have s3 := same_new (o := .lst [.int ((a.tickets.length : Nat) : Int), .int ((a.weight : Nat) : Int)]) hq
    have st := (Step.same (cs := cs) (L := L) (D := D) (a := a) s1).trans st2
    have fin := d _ _ _ q (hY2.same s3) (st.trans (Step.same s3)) (st.free hq) upd_same
    have e1 : ((((List.range (a.tickets ++ [(⟨l, k, w, a.weight, 0, 0, 0, 0, 0⟩ : Kv319.Ticket)]).length).map fun i => V.ref (ext L (.ticket a.tickets.length) x (.ticket i))).length : Nat) : Int) - 1 = ((a.tickets.length : Nat) : Int) := by
      rw [List.length_map, List.length_range, List.length_append]; simp
    have e2 := weight_eq hw
    show Q (.ref q) (upd _ q (.lst [.int (((((List.range (a.tickets ++ [(⟨l, k, w, a.weight, 0, 0, 0, 0, 0⟩ : Kv319.Ticket)]).length).map fun i => V.ref (ext L (.ticket a.tickets.length) x (.ticket i))).length : Nat) : Int) - 1), .int a.now_]))
    rw [e1, e2]
    exact fin
def sp_cancel (K : PySem.W.Frag) (cs : Cs) : Sp := fun vs H Q _ => ∃ L D a n, vs = [.ref (L .yard), nI n] ∧ Y cs H L D a ∧ Ok a ∧ Did cs H L D a (a.does (.cancel n)) Q
theorem stand0 {a : Kv319.Abs} {n : Nat} (h : standI a n = 0) : n < a.tickets.length ∧ (a.ticket n).state = 0 := by
  unfold standI at h
  by_cases c : (!decide (n < a.tickets.length)) = true
  · rw [if_pos c] at h; omega
  rw [if_neg c] at h
  by_cases c2 : (a.ticket n).state ≠ 0
  · rw [if_pos c2] at h; omega
  exact ⟨by simpa using c, Decidable.not_not.mp c2⟩
theorem cancel_no {a : Kv319.Abs} {n : Nat} (h : standI a n ≠ 0) : a.does (.cancel n) = (a, Kv319.say (standI a n)) := by
  unfold standI at h ⊢
  simp only [Kv319.Abs.does]
  by_cases c1 : n < a.tickets.length
  case neg => simp [c1, show a.tickets.length ≤ n by omega]
  by_cases c2 : (a.ticket n).state = 0
  case neg => simp [c1, c2, show ¬ a.tickets.length ≤ n by omega]
  exact absurd (by simp [c1, c2]) h
theorem cancel_yes {a : Kv319.Abs} {n : Nat} (h : standI a n = 0) : a.does (.cancel n) = ({ a with tickets := a.tickets.modify n fun x => { x with state := 2 } }, Kv319.say ((a.ticket n).first : Nat)) := by
  obtain ⟨h1, h2⟩ := stand0 h
  simp only [Kv319.Abs.does]
  simp [h2, show ¬ a.tickets.length ≤ n by omega]
section
variable {cs : Cs} {H H' : Hp} {L D : Tag → Addr} {a : Kv319.Abs}
/-- one ticket is another -/
theorem Y.setTicket (y : Y cs H L D a) {i : Nat} {t : Kv319.Ticket} {f : Kv319.Ticket → Kv319.Ticket} (ht : a.tickets[i]? = some t) (here : H' (L (.ticket i)) = some (.ins cs.Ticket (D (.ticket i)) (tfs (f t))))
    (keep : ∀ b o, H b = some o → b ≠ L (.ticket i) → H' b = some o) : Y cs H' L D { a with tickets := a.tickets.modify i f } ∧ Step cs H L D a H' L D { a with tickets := a.tickets.modify i f } := by
  refine y.grow (fun _ => False) (fun u => u = .ticket i) (fun _ h => h.elim) (fun _ _ h => h.elim) (fun _ _ => rfl) (fun u e => by rw [e]; exact ⟨_, by show Option.map _ _ = _; rw [ht]; rfl⟩) ?_ (fun b o e h => keep b o e (h _ rfl)) (fun u e => by rw [e]; exact ⟨_, here⟩) ?_
  · intro u _ m
    cases u with
    | tl => show some (refs L .ticket (a.tickets.modify i f).length) = _; rw [List.length_modify]; rfl
    | ticket j =>
      show Option.map _ ((a.tickets.modify i f)[j]?) = Option.map _ (a.tickets[j]?)
      rw [mod_ne _ _ fun e => m (by rw [e])]
    | _ => rfl
  · rintro u o (e | e) q
    · exact e.elim
    · subst e
      have q : Option.map _ ((a.tickets.modify i f)[i]?) = some o := q
      rw [mod_self, ht] at q
      rw [here, ← q]; rfl
end
theorem ok_cancel {P : Program} {w : World} {K : PySem.W.Frag} {mg : Str → Option Value} {base : Heap} {cs : Cs} (T : Txt K mg cs) : FOk P w K mg base 3 "cancel" ["yard", "number"] (sp_cancel K cs) := by
  refine T.f_cancel.ok sc_cancel bd_cancel (fun vs H Q E h => ?_) (fun f cdv A outer s H vs Q E hr h => ?_)
  · obtain ⟨L, D, a, n, rfl, _⟩ := h; rfl
  · obtain ⟨L, D, a, n, rfl, hY, ok, d⟩ := h
    refine ⟨_, (pss_cons (ps_set (i := 2) sc_cancel.nd rfl (Or.inl rfl) (pf (ok_standing_refusal T) (hr.mono (by decide)) (pa_cons (pv 0) (pa_cons (pv 1) pa_nil)))) (pss_cons (ps_if (pt_cmpR op_ne (pv 2) (pgi T.g_FINE) (nomark _)) (pss_one (ps_ret (pe_lst (pa_cons (pv 2) pa_nil)))) pss_nil) (pss_cons (ps_set (i := 3) sc_cancel.nd rfl (Or.inl rfl) (pe_ix ix_list (pe_fld (pv 0) rfl) (pv 1) (fun _ _ => rfl))) (pss_cons (ps_fld (pv 3) (pgi T.g_CALLED_OFF) rfl) (pss_one (ps_ret (pe_lst (pa_cons (pe_fld (pv 3) rfl) pa_nil)))))))), ?_⟩
    refine ⟨_, rfl, _, rfl, L, D, a, n, rfl, hY, ?_⟩
    refine ⟨_, rfl, rfl, _, rfl, ite2 (fun c => ?_) (fun c => ?_)⟩
    · refine ⟨_, rfl, (by show 1 ≤ sizeLine; decide), fun q hq => ?_⟩
      exact d.same hY (Same.refl H) (cancel_no (nV.mp c)) hq
    have e0 : standI a n = 0 := Decidable.not_not.mp fun z => c (nV.mpr z)
    rw [cancel_yes e0] at d
    obtain ⟨h1, h2⟩ := stand0 e0
    have ht := ticket_some h1
    have hk := hY.ticket ht
    refine ⟨_, rfl, (L .yard), cs.Yard, (D .yard), _, _, rfl, hY.yard, T.Yard.cl, T.Yard.n_tickets, rfl, _, rfl, _, _, _, _, rfl, rfl, SqL.of hY.tl, atI_nat (refs_at h1), ?_⟩
    refine ⟨_, rfl, _, cs.Ticket, _, _, rfl, hk, T.Ticket.cl, T.Ticket.n_state, (by show 9 < 1000; decide), _, rfl, _, cs.Ticket, _, _, _, rfl, upd_same, T.Ticket.cl, T.Ticket.n_first, rfl, (by show 1 ≤ sizeLine; decide), fun q hq => ?_⟩
    obtain ⟨hY2, st2⟩ := hY.setTicket (f := fun x => { x with state := 2 }) (H' := upd H (L (.ticket n)) (.ins cs.Ticket (D (.ticket n)) (tfs { a.ticket n with state := 2 }))) ht upd_same (fun b o e nb => by rw [upd_ne nb]; exact e)
    have hq : (upd H (L (.ticket n)) (.ins cs.Ticket (D (.ticket n)) (tfs { a.ticket n with state := 2 }))) q = none := hq
    have s3 := same_new (o := .lst [nI (a.ticket n).first]) hq
    exact d _ _ _ q (hY2.same s3) (st2.trans (Step.same s3)) (st2.free hq) upd_same
theorem tg_ne {t : Kv319.Ticket} {z : Kv319.Kind} {C C' dx dx' : Addr} : HO.ins C dx (gfs z) ≠ HO.ins C' dx' (tfs t) := by
  intro e
  injection e with _ _ e
  have h : (some ("price" : Str)) = some "lorry" := congrArg (fun l => (l.head?).map (·.1)) e
  exact absurd h (by decide +kernel)
def doneT (t : Kv319.Ticket) (z : Kv319.Kind) (s n m : Nat) : Kv319.Ticket := { t with second := s, net := n, paid := Kv319.dry n m z.wet, amount := Kv319.cost z.price (Kv319.dry n m z.wet), state := 1 }
def sp_settle (K : PySem.W.Frag) (cs : Cs) : Sp := fun vs H Q _ => ∃ L D a i t z s n m, vs = [.ref (L .yard), .ref (L (.ticket i)), nI s, nI n, nI m] ∧ Y cs H L D a ∧ a.tickets[i]? = some t ∧ a.kinds[t.kind]? = some z ∧ z.price ≤ 100000 ∧ z.wet ≤ 50 ∧ m ≤ 100 ∧ (t.way = 0 ∨ n ≤ z.stock) ∧
  Q .non (upd (upd H (L (.ticket i)) (.ins cs.Ticket (D (.ticket i)) (tfs (doneT t z s n m)))) (L (.kind t.kind)) (.ins cs.Goods (D (.kind t.kind)) (gfs (movedK z t.way n))))
theorem ok_settle {P : Program} {w : World} {K : PySem.W.Frag} {mg : Str → Option Value} {base : Heap} {cs : Cs} (T : Txt K mg cs) : FOk P w K mg base 2 "settle" ["yard", "ticket", "second", "net", "moist"] (sp_settle K cs) := by
  refine T.f_settle.ok sc_settle bd_settle (fun vs H Q E h => ?_) (fun f cdv A outer s H vs Q E hr h => ?_)
  · obtain ⟨L, D, a, i, t, z, s, n, m, rfl, _⟩ := h; rfl
  · obtain ⟨L, D, a, i, t, z, s, n, m, rfl, hY, ht, hz, hp, hw, hm, hs, q⟩ := h
    have hk := hY.ticket ht
    have hg := hY.kind hz
    have hlt : t.kind < a.kinds.length := (List.getElem?_eq_some_iff.mp hz).1
    have gk : L (.kind t.kind) ≠ L (.ticket i) := ne_of hg hk tg_ne
    refine ⟨_, (pss_cons (ps_set (i := 5) sc_settle.nd rfl (Or.inl rfl) (pe_ix ix_list (pe_fld (pv 0) rfl) (pe_fld (pv 1) rfl) (fun _ _ => rfl))) (pss_cons (ps_fld (pv 1) (pv 2) rfl) (pss_cons (ps_fld (pv 1) (pv 3) rfl) (pss_cons (ps_fld (pv 1) (pm (pv 5) T.Goods.cl (ok_Goods_paid_for T) (hr.mono (by decide)) (pa_cons (pv 3) (pa_cons (pv 4) pa_nil))) rfl) (pss_cons (ps_fld (pv 1) (pm (pv 5) T.Goods.cl (ok_Goods_amount_for T) (hr.mono (by decide)) (pa_cons (pe_fld (pv 1) rfl) pa_nil)) rfl) (pss_cons (ps_fld (pv 1) (pgi T.g_DONE) rfl) (pss_one (ps_expr (pm (pv 5) T.Goods.cl (ok_Goods_move T) (hr.mono (by decide)) (pa_cons (pe_fld (pv 1) rfl) (pa_cons (pv 3) pa_nil))))))))))), ?_⟩
    refine ⟨_, rfl, (L .yard), cs.Yard, (D .yard), _, _, rfl, hY.yard, T.Yard.cl, T.Yard.n_kinds, rfl, _, rfl, _, cs.Ticket, _, _, _, rfl, hk, T.Ticket.cl, T.Ticket.n_kind, rfl, _, _, _, _, rfl, rfl, SqL.of hY.kl, atI_nat (refs_at hlt), ?_⟩
    refine ⟨_, rfl, _, rfl, _, cs.Ticket, _, _, rfl, hk, T.Ticket.cl, T.Ticket.n_second, (by show 9 < 1000; decide), _, rfl, _, rfl, _, cs.Ticket, _, _, rfl, upd_same, T.Ticket.cl, T.Ticket.n_net, (by show 9 < 1000; decide), ?_⟩
    refine ⟨_, rfl, _, _, _, rfl, (by rw [upd_ne gk, upd_ne gk]; exact hg), rfl, _, rfl, _, rfl, _, _, z, n, m, rfl, (by rw [upd_ne gk, upd_ne gk]; exact hg), hw, hm, _, rfl, _, cs.Ticket, _, _, rfl, upd_same, T.Ticket.cl, T.Ticket.n_paid, (by show 9 < 1000; decide), ?_⟩
    refine ⟨_, rfl, _, _, _, rfl, (by rw [upd_ne gk, upd_ne gk, upd_ne gk]; exact hg), rfl, _, rfl, _, cs.Ticket, _, _, _, rfl, upd_same, T.Ticket.cl, T.Ticket.n_paid, rfl, _, _, z, Kv319.dry n m z.wet, rfl, (by rw [upd_ne gk, upd_ne gk, upd_ne gk]; exact hg), hp, _, rfl, _, cs.Ticket, _, _, rfl, upd_same, T.Ticket.cl, T.Ticket.n_amount, (by show 9 < 1000; decide), ?_⟩
    refine ⟨_, rfl, _, cs.Ticket, _, _, rfl, upd_same, T.Ticket.cl, T.Ticket.n_state, (by show 9 < 1000; decide), ?_⟩
    refine ⟨_, rfl, _, _, _, rfl, (by rw [upd_ne gk, upd_ne gk, upd_ne gk, upd_ne gk, upd_ne gk]; exact hg), rfl, _, rfl, _, cs.Ticket, _, _, _, rfl, upd_same, T.Ticket.cl, T.Ticket.n_way, rfl, _, rfl, _, _, z, t.way, n, rfl, (by rw [upd_ne gk, upd_ne gk, upd_ne gk, upd_ne gk, upd_ne gk]; exact hg), hs, ?_⟩
    show Q .non (upd (upd (upd (upd (upd (upd H _ _) _ _) _ _) _ _) _ _) _ _)
    rw [upd_upd, upd_upd, upd_upd, upd_upd]
    exact q
end Wb

end
section
set_option Elab.async false
set_option linter.all false
set_option maxRecDepth 100000
set_option maxHeartbeats 4000000
/-! Lorries that come and go: leave. -/
namespace Wb
open PySem PySem.Spec PyProof.Rows L2
theorem lorry_get {a : Kv319.Abs} {i : Nat} {z : Kv319.Lorry} (h : a.lorries[i]? = some z) : a.lorry i = z := by
  unfold Kv319.Abs.lorry
  rw [List.getD_eq_getElem?_getD, h]; rfl
theorem lorry_some {a : Kv319.Abs} {i : Nat} (h : i < a.lorries.length) : a.lorries[i]? = some (a.lorry i) := by
  obtain ⟨t, ht⟩ : ∃ t, a.lorries[i]? = some t := ⟨_, List.getElem?_eq_getElem h⟩
  rw [lorry_get ht]; exact ht
theorem kind_get {a : Kv319.Abs} {i : Nat} {z : Kv319.Kind} (h : a.kinds[i]? = some z) : a.kind i = z := by
  unfold Kv319.Abs.kind
  rw [List.getD_eq_getElem?_getD, h]; rfl
theorem kind_some {a : Kv319.Abs} {i : Nat} (h : i < a.kinds.length) : a.kinds[i]? = some (a.kind i) := by
  obtain ⟨t, ht⟩ : ∃ t, a.kinds[i]? = some t := ⟨_, List.getElem?_eq_getElem h⟩
  rw [kind_get ht]; exact ht
theorem Ok.ticket {a : Kv319.Abs} (ok : Ok a) {n : Nat} (h : n < a.tickets.length) : (a.ticket n).lorry < a.lorries.length ∧ (a.ticket n).kind < a.kinds.length ∧ (a.ticket n).way ≤ 1 := let z := ok.tk _ (List.mem_of_getElem? (ticket_some h)); ⟨z.1, z.2.1, z.2.2.1⟩
theorem Ok.kind {a : Kv319.Abs} (ok : Ok a) {n : Nat} (h : n < a.kinds.length) : (a.kind n).price ≤ 100000 ∧ (a.kind n).wet ≤ 50 ∧ (a.kind n).stock ≤ (a.kind n).most := ok.kk _ (List.mem_of_getElem? (kind_some h))
theorem Ok.lorry {a : Kv319.Abs} (ok : Ok a) {n : Nat} (h : n < a.lorries.length) : (a.lorry n).tares.length ≤ 2 ∧ (a.lorry n).day ≤ a.today := ok.lt _ (List.mem_of_getElem? (lorry_some h))
def leaveI (a : Kv319.Abs) (n m : Nat) : Int := if standI a n ≠ 0 then standI a n else if 100 < m then -22 else if a.why ≠ 0 then a.why else if heavyI (a.lorry (a.ticket n).lorry) a.weight a.load = true then -40 else
  settI (a.kind (a.ticket n).kind) (a.ticket n).way (Kv319.netOf (a.ticket n).way (a.ticket n).first a.weight)
def sp_leave_refusal (K : PySem.W.Frag) (cs : Cs) : Sp := fun vs H Q _ => ∃ L D a n m, vs = [.ref (L .yard), nI n, nI m] ∧ Y cs H L D a ∧ Ok a ∧ Q (.int (leaveI a n m)) H
theorem ok_leave_refusal {P : Program} {w : World} {K : PySem.W.Frag} {mg : Str → Option Value} {base : Heap} {cs : Cs} (T : Txt K mg cs) : FOk P w K mg base 6 "leave_refusal" ["yard", "number", "moist"] (sp_leave_refusal K cs) := by
  refine T.f_leave_refusal.ok sc_leave_refusal bd_leave_refusal (fun vs H Q E h => ?_) (fun f cdv A outer s H vs Q E hr h => ?_)
  · obtain ⟨L, D, a, n, m, rfl, _⟩ := h; rfl
  · obtain ⟨L, D, a, n, m, rfl, hY, ok, q⟩ := h
    refine ⟨_, (pss_cons (ps_set (i := 3) sc_leave_refusal.nd rfl (Or.inl rfl) (pf (ok_standing_refusal T) (hr.mono (by decide)) (pa_cons (pv 0) (pa_cons (pv 1) pa_nil)))) (pss_cons (ps_if (pt_cmpR op_ne (pv 3) (pgi T.g_FINE) (nomark _)) (pss_one (ps_ret (pv 3))) pss_nil) (pss_cons (ps_if (pt_cmpR op_gt (pv 2) (pgi T.g_MOST_MOIST) (nomark _)) (pss_one (ps_ret (pgi T.g_OUT_OF_RANGE))) pss_nil) (pss_cons (ps_set (i := 3) sc_leave_refusal.nd rfl (Or.inl rfl) (pm0 (pe_fld (pv 0) rfl) T.Plate.cl (ok_Plate_weighing_refusal T) (hr.mono (by decide)))) (pss_cons (ps_if (pt_cmpR op_ne (pv 3) (pgi T.g_FINE) (nomark _)) (pss_one (ps_ret (pv 3))) pss_nil) (pss_cons (ps_set (i := 4) sc_leave_refusal.nd rfl (Or.inl rfl) (pe_ix ix_list (pe_fld (pv 0) rfl) (pv 1) (fun _ _ => rfl))) (pss_cons (ps_if (pt_val (pf (ok_is_too_heavy_now T) (hr.mono (by decide)) (pa_cons (pv 0) (pa_cons (pe_fld (pv 4) rfl) pa_nil)))) (pss_one (ps_ret (pgi T.g_TOO_HEAVY))) pss_nil) (pss_one (ps_ret (pf (ok_settling_refusal T) (hr.mono (by decide)) (pa_cons (pv 0) (pa_cons (pe_fld (pv 4) rfl) (pa_cons (pe_fld (pv 4) rfl) (pa_cons (pm (pv 4) T.Ticket.cl (ok_Ticket_net_with T) (hr.mono (by decide)) (pa_cons (pm0 (pe_fld (pv 0) rfl) T.Plate.cl (ok_Plate_reading T) (hr.mono (by decide))) pa_nil)) pa_nil)))))))))))))), ?_⟩
    unfold leaveI at q
    refine ⟨_, rfl, _, rfl, L, D, a, n, rfl, hY, ?_⟩
    refine ⟨_, rfl, rfl, _, rfl, ite2 (fun c => ?_) (fun c => ?_)⟩
    · rw [if_pos (nV.mp c)] at q; exact ⟨_, rfl, q⟩
    have e0 : ¬ standI a n ≠ 0 := fun z => c (nV.mpr z)
    rw [if_neg e0] at q
    obtain ⟨h1, h2⟩ := stand0 (Decidable.not_not.mp e0)
    have ht := ticket_some h1
    have hk := hY.ticket ht
    obtain ⟨t1, t2, t3⟩ := ok.ticket h1
    refine ⟨_, rfl, _, _, rfl, rfl, _, rfl, ite2 (fun c => ?_) (fun c => ?_)⟩
    · have c := of_decide_eq_true c
      rw [if_pos (by omega)] at q; exact q
    have c : ¬ (100 : Int) < (m : Int) := fun h => c (decide_eq_true h)
    rw [if_neg (by omega)] at q
    refine ⟨_, rfl, (L .yard), cs.Yard, (D .yard), _, _, rfl, hY.yard, T.Yard.cl, T.Yard.n_plate, rfl, (L .plate), (D .plate), _, rfl, hY.plate, rfl, _, a, rfl, hY.plateAt, ok.pl, ?_⟩
    refine ⟨_, rfl, rfl, _, rfl, ite2 (fun c => ?_) (fun c => ?_)⟩
    · rw [if_pos (nV.mp c)] at q; exact ⟨_, rfl, q⟩
    have e1 : ¬ a.why ≠ 0 := fun z => c (nV.mpr z)
    rw [if_neg e1] at q
    obtain ⟨ne, hw⟩ := why0 (Decidable.not_not.mp e1)
    refine ⟨_, rfl, (L .yard), cs.Yard, (D .yard), _, _, rfl, hY.yard, T.Yard.cl, T.Yard.n_tickets, rfl, _, rfl, _, _, _, _, rfl, rfl, SqL.of hY.tl, atI_nat (refs_at h1), ?_⟩
    refine ⟨_, rfl, _, rfl, _, cs.Ticket, _, _, _, rfl, hk, T.Ticket.cl, T.Ticket.n_lorry, rfl, L, D, a, _, _, rfl, hY, ok.pl, lorry_some t1, ne, hw, _, rfl, ite2 (fun c => ?_) (fun c => ?_)⟩
    · rw [if_pos c] at q; exact q
    rw [if_neg c] at q
    exact ⟨_, rfl, _, rfl, _, cs.Ticket, _, _, _, rfl, hk, T.Ticket.cl, T.Ticket.n_kind, rfl, _, rfl, _, cs.Ticket, _, _, _, rfl, hk, T.Ticket.cl, T.Ticket.n_way, rfl, _, rfl, _, _, _, rfl, hk, rfl, _, rfl, (L .yard), cs.Yard, (D .yard), _, _, rfl, hY.yard, T.Yard.cl, T.Yard.n_plate, rfl, (L .plate), (D .plate), _, rfl, hY.plate, rfl, _, a, rfl, hY.plateAt, ok.pl, _, _, a.ticket n, a.weight, congrArg (fun z => [V.ref (L (.ticket n)), V.int z]) (weight_eq hw), hk,
      L, D, a, _, _, _, _, rfl, hY, kind_some t2, q⟩
theorem heavy_legal (a : Kv319.Abs) (l : Nat) : heavyI (a.lorry l) a.weight a.load = !a.legal l := by
  unfold heavyI Kv319.Abs.legal Kv319.Abs.excess
  rw [Bool.eq_iff_iff]
  simp only [Bool.or_eq_true, decide_eq_true_eq, Bool.not_eq_true', beq_eq_false_iff_ne, ne_eq, Prod.mk.injEq]
  omega
theorem leave_no {a : Kv319.Abs} {n m : Nat} (h : leaveI a n m ≠ 0) : a.does (.leave n m) = (a, Kv319.say (leaveI a n m)) := by
  unfold leaveI standI settI at h ⊢
  simp only [Kv319.Abs.does]
  by_cases c1 : n < a.tickets.length
  case neg => simp [c1, show a.tickets.length ≤ n by omega]
  have c1' : ¬ a.tickets.length ≤ n := by omega
  by_cases c2 : (a.ticket n).state = 0
  case neg => simp [c1, c1', c2]
  by_cases c3 : 100 < m
  case pos => simp [c1, c1', c2, c3]
  by_cases c4 : a.why = 0
  case neg => simp [c1, c1', c2, c3, c4]
  rw [heavy_legal] at h ⊢
  by_cases c5 : a.legal (a.ticket n).lorry = true
  case neg => simp [c1, c1', c2, c3, c4, c5]
  by_cases c6 : Kv319.netOf (a.ticket n).way (a.ticket n).first a.weight = 0
  case pos => simp [c1, c1', c2, c3, c4, c5, c6]
  have e : stockI (a.kind (a.ticket n).kind) (a.ticket n).way (Kv319.netOf (a.ticket n).way (a.ticket n).first a.weight) = a.stockWhy (a.ticket n).kind (a.ticket n).way (Kv319.netOf (a.ticket n).way (a.ticket n).first a.weight) := rfl
  rw [e] at h ⊢
  by_cases c7 : a.stockWhy (a.ticket n).kind (a.ticket n).way (Kv319.netOf (a.ticket n).way (a.ticket n).first a.weight) = 0
  case neg => simp [c1, c1', c2, c3, c4, c5, c6, c7]
  exact absurd (by simp [c1, c2, c3, c4, c5, c6, c7]) h
structure LeaveOk (a : Kv319.Abs) (n m net : Nat) : Prop where
  lt : n < a.tickets.length
  st : (a.ticket n).state = 0
  hm : m ≤ 100
  ne : a.load ≠ []
  w : 0 < a.now_
  legal : a.legal (a.ticket n).lorry = true
  hnet : Kv319.netOf (a.ticket n).way (a.ticket n).first a.weight = net
  n0 : net ≠ 0
  stock : a.stockWhy (a.ticket n).kind (a.ticket n).way net = 0
  why : a.why = 0
theorem leave_ok {a : Kv319.Abs} {n m : Nat} (h : leaveI a n m = 0) : LeaveOk a n m (Kv319.netOf (a.ticket n).way (a.ticket n).first a.weight) := by
  unfold leaveI at h
  by_cases c : standI a n ≠ 0
  · rw [if_pos c] at h; exact absurd h c
  rw [if_neg c] at h
  obtain ⟨h1, h2⟩ := stand0 (Decidable.not_not.mp c)
  by_cases c3 : 100 < m
  · rw [if_pos c3] at h; omega
  rw [if_neg c3] at h
  by_cases c4 : a.why ≠ 0
  · rw [if_pos c4] at h; exact absurd h c4
  rw [if_neg c4] at h
  have c4 := Decidable.not_not.mp c4
  obtain ⟨ne, hw⟩ := why0 c4
  rw [heavy_legal] at h
  by_cases c5 : (!a.legal (a.ticket n).lorry) = true
  · rw [if_pos c5] at h; omega
  rw [if_neg c5] at h
  unfold settI at h
  by_cases c6 : Kv319.netOf (a.ticket n).way (a.ticket n).first a.weight = 0
  · rw [if_pos c6] at h; omega
  rw [if_neg c6] at h
  exact ⟨h1, h2, by omega, ne, hw, by simpa using c5, rfl, c6, h, c4⟩
theorem leave_yes {a : Kv319.Abs} {n m net : Nat} (o : LeaveOk a n m net) : a.does (.leave n m) = ({ ((a.moved (a.ticket n).kind (a.ticket n).way net).tared (a.ticket n).lorry (min (a.ticket n).first a.weight)) with tickets := a.tickets.set n (a.done (a.ticket n) net m) },
    ⟨(net : Nat), Kv319.ints [(a.done (a.ticket n) net m).paid, (a.done (a.ticket n) net m).amount]⟩) := by
  have c1 := o.lt; have c2 := o.st; have c3 := o.hm; have c4 := o.why; have c5 := o.legal; have c6 := o.hnet; have c7 := o.n0; have c8 := o.stock
  simp only [Kv319.Abs.does]
  rw [c6]
  simp [c2, c4, c5, c7, c8, show ¬ a.tickets.length ≤ n by omega, show ¬ 100 < m by omega]
theorem stock_le {a : Kv319.Abs} {k way net : Nat} (h : a.stockWhy k way net = 0) : way = 0 ∨ net ≤ (a.kind k).stock := by
  unfold Kv319.Abs.stockWhy at h
  by_cases c : way = 0
  · exact .inl c
  · rw [if_neg c] at h
    by_cases c2 : (a.kind k).stock < net
    · rw [if_pos c2] at h; omega
    · exact .inr (by omega)
section
variable {cs : Cs} {H H' : Hp} {L D : Tag → Addr} {a : Kv319.Abs}
/-- a ticket is settled -/
theorem Y.settled (y : Y cs H L D a) {i : Nat} {t t' : Kv319.Ticket} {z : Kv319.Kind} {way net : Nat} {k : Nat} (ht : a.tickets[i]? = some t) (hz : a.kinds[k]? = some z) (h1 : H' (L (.ticket i)) = some (.ins cs.Ticket (D (.ticket i)) (tfs t')))
    (h2 : H' (L (.kind k)) = some (.ins cs.Goods (D (.kind k)) (gfs (movedK z way net)))) (keep : ∀ b o, H b = some o → b ≠ L (.ticket i) → b ≠ L (.kind k) → H' b = some o) :
    Y cs H' L D { (a.moved k way net) with tickets := a.tickets.set i t' } ∧ Step cs H L D a H' L D { (a.moved k way net) with tickets := a.tickets.set i t' } := by
  have hlt : i < a.tickets.length := (List.getElem?_eq_some_iff.mp ht).1
  refine y.grow (fun _ => False) (fun u => u = .ticket i ∨ u = .kind k) (fun _ h => h.elim) (fun _ _ h => h.elim) (fun _ _ => rfl) ?_ ?_ (fun b o e h => keep b o e (h _ (.inl rfl)) (h _ (.inr rfl))) (fun u m => m.elim (fun e => by rw [e]; exact ⟨_, h1⟩) (fun e => by rw [e]; exact ⟨_, h2⟩)) ?_
  · rintro u (e | e)
    · rw [e]; exact ⟨_, by show Option.map _ _ = _; rw [ht]; rfl⟩
    · rw [e]; exact ⟨_, by show Option.map _ _ = _; rw [hz]; rfl⟩
  · intro u _ m
    cases u with
    | tl => show some (refs L .ticket (a.tickets.set i t').length) = _; rw [List.length_set]; rfl
    | kl => show some (refs L .kind (a.kinds.modify k _).length) = _; rw [List.length_modify]; rfl
    | ticket j =>
      show Option.map _ ((a.tickets.set i t')[j]?) = Option.map _ (a.tickets[j]?)
      rw [List.getElem?_set_ne fun e => m (.inl (by rw [e]))]
    | kind j =>
      show Option.map _ ((a.kinds.modify k _)[j]?) = Option.map _ (a.kinds[j]?)
      rw [mod_ne _ _ fun e => m (.inr (by rw [e]))]
    | _ => rfl
  · rintro u o (e | e | e) q
    · exact e.elim
    · subst e
      have q : Option.map _ ((a.tickets.set i t')[i]?) = some o := q
      rw [List.getElem?_set_self hlt] at q
      rw [h1, ← q]; rfl
    · subst e
      have q : Option.map _ ((a.kinds.modify k _)[k]?) = some o := q
      rw [mod_self, hz] at q
      rw [h2, ← q]; rfl
/-- a lorry has a new tare -/
theorem Y.tared (y : Y cs H L D a) {l w : Nat} {z : Kv319.Lorry} {tx : Addr} (hz : a.lorries[l]? = some z) (nt : H tx = none) (h1 : H' (L (.lorry l)) = some (.ins cs.Lorry (D (.lorry l)) (lfs (taredL z w a.today) tx))) (h2 : H' tx = some (nL (taredL z w a.today).tares.reverse))
    (keep : ∀ b o, H b = some o → b ≠ L (.lorry l) → H' b = some o) : Y cs H' (ext L (.tares l) tx) D (a.tared l w) ∧ Step cs H L D a H' (ext L (.tares l) tx) D (a.tared l w) := by
  refine y.grow (fun u => u = .tares l) (fun u => u = .lorry l) (fun u e => by rw [e, ext_at]; exact nt) (fun u v e e' _ => e.trans e'.symm) (fun u n => ext_ne n) (fun u e => by rw [e]; exact ⟨_, by show Option.map _ _ = _; rw [hz]; rfl⟩) ?_
    (fun b o e h => keep b o e (h _ rfl)) (fun u e => by rw [e]; exact ⟨_, h1⟩) ?_
  · intro u n m
    cases u with
    | ll => show some (refs (ext L (.tares l) tx) .lorry (a.lorries.modify l _).length) = _; rw [List.length_modify]; exact congrArg some (refs_ext fun i _ e => nomatch e)
    | kl => exact congrArg some (refs_ext fun i _ e => nomatch e)
    | tl => exact congrArg some (refs_ext fun i _ e => nomatch e)
    | lorry j =>
      have hj : j ≠ l := fun e => m (by rw [e])
      show Option.map _ ((a.lorries.modify l _)[j]?) = Option.map _ (a.lorries[j]?)
      rw [mod_ne _ _ hj, ext_ne (u := .tares j) fun e => hj (by injection e)]
    | tares j =>
      have hj : j ≠ l := fun e => n (by rw [e])
      show Option.map _ ((a.lorries.modify l _)[j]?) = Option.map _ (a.lorries[j]?)
      rw [mod_ne _ _ hj]
    | _ => rfl
  · rintro u o (e | e) q
    · subst e
      have q : Option.map _ ((a.lorries.modify l _)[l]?) = some o := q
      rw [mod_self, hz] at q
      rw [ext_at, h2, ← q]; rfl
    · subst e
      have q : Option.map _ ((a.lorries.modify l _)[l]?) = some o := q
      rw [mod_self, hz, ext_at] at q
      rw [ext_ne (by intro e; cases e), h1, ← q]; rfl
end
def sp_leave (K : PySem.W.Frag) (cs : Cs) : Sp := fun vs H Q _ => ∃ L D a n m, vs = [.ref (L .yard), nI n, nI m] ∧ Y cs H L D a ∧ Ok a ∧ Did cs H L D a (a.does (.leave n m)) Q
theorem ok_leave {P : Program} {w : World} {K : PySem.W.Frag} {mg : Str → Option Value} {base : Heap} {cs : Cs} (T : Txt K mg cs) : FOk P w K mg base 7 "leave" ["yard", "number", "moist"] (sp_leave K cs) := by
  refine T.f_leave.ok sc_leave bd_leave (fun vs H Q E h => ?_) (fun f cdv A outer s H vs Q E hr h => ?_)
  · obtain ⟨L, D, a, n, m, rfl, _⟩ := h; rfl
  · obtain ⟨L, D, a, n, m, rfl, hY, ok, d⟩ := h
    refine ⟨_, (pss_cons (ps_set (i := 3) sc_leave.nd rfl (Or.inl rfl) (pf (ok_leave_refusal T) (hr.mono (by decide)) (pa_cons (pv 0) (pa_cons (pv 1) (pa_cons (pv 2) pa_nil))))) (pss_cons (ps_if (pt_cmpR op_ne (pv 3) (pgi T.g_FINE) (nomark _)) (pss_one (ps_ret (pe_lst (pa_cons (pv 3) pa_nil)))) pss_nil) (pss_cons (ps_set (i := 4) sc_leave.nd rfl (Or.inl rfl) (pe_ix ix_list (pe_fld (pv 0) rfl) (pv 1) (fun _ _ => rfl))) (pss_cons (ps_set (i := 5) sc_leave.nd rfl (Or.inl rfl) (pm0 (pe_fld (pv 0) rfl) T.Plate.cl (ok_Plate_reading T) (hr.mono (by decide)))) (pss_cons (ps_expr (pf (ok_settle T) (hr.mono (by decide)) (pa_cons (pv 0) (pa_cons (pv 4) (pa_cons (pv 5) (pa_cons (pm (pv 4) T.Ticket.cl (ok_Ticket_net_with T) (hr.mono (by decide)) (pa_cons (pv 5) pa_nil)) (pa_cons (pv 2) pa_nil))))))) (pss_cons (ps_expr (pm (pe_ix ix_list (pe_fld (pv 0) rfl) (pe_fld (pv 4) rfl) (fun _ _ => rfl)) T.Lorry.cl (ok_Lorry_take_tare T) (hr.mono (by decide)) (pa_cons (pb (call_min2 rfl) T.b_min bt_min (pa_cons (pe_fld (pv 4) rfl) (pa_cons (pv 5) pa_nil))) (pa_cons (pe_fld (pv 0) rfl) pa_nil)))) (pss_one (ps_ret (pe_lst (pa_cons (pe_fld (pv 4) rfl) (pa_cons (pe_fld (pv 4) rfl) (pa_cons (pe_fld (pv 4) rfl) pa_nil)))))))))))), ?_⟩
    refine ⟨_, rfl, _, rfl, _, rfl, L, D, a, n, m, rfl, hY, ok, ?_⟩
    refine ⟨_, rfl, rfl, _, rfl, ite2 (fun c => ?_) (fun c => ?_)⟩
    · refine ⟨_, rfl, (by show 1 ≤ sizeLine; decide), fun q hq => ?_⟩
      exact d.same hY (Same.refl H) (leave_no (nV.mp c)) hq
    have e0 : leaveI a n m = 0 := Decidable.not_not.mp fun z => c (nV.mpr z)
    have lo := leave_ok e0
    rw [leave_yes lo] at d
    have ht := ticket_some lo.lt
    have hk := hY.ticket ht
    obtain ⟨t1, t2, t3⟩ := ok.ticket lo.lt
    obtain ⟨k1, k2, k3⟩ := ok.kind t2
    have hz := kind_some t2
    have hl := lorry_some t1
    have hw := weight_eq lo.w
    refine ⟨_, rfl, (L .yard), cs.Yard, (D .yard), _, _, rfl, hY.yard, T.Yard.cl, T.Yard.n_tickets, rfl, _, rfl, _, _, _, _, rfl, rfl, SqL.of hY.tl, atI_nat (refs_at lo.lt), ?_⟩
    refine ⟨_, rfl, (L .yard), cs.Yard, (D .yard), _, _, rfl, hY.yard, T.Yard.cl, T.Yard.n_plate, rfl, (L .plate), (D .plate), _, rfl, hY.plate, rfl, _, a, rfl, hY.plateAt, ok.pl, ?_⟩
    refine ⟨_, rfl, _, rfl, _, rfl, _, rfl, _, _, _, rfl, hk, rfl, _, rfl, _, _, a.ticket n, a.weight, congrArg (fun z => [V.ref (L (.ticket n)), V.int z]) hw, hk, _, rfl,
      L, D, a, n, a.ticket n, a.kind (a.ticket n).kind, a.weight, _, m, congrArg (fun z => [V.ref (L .yard), V.ref (L (.ticket n)), V.int z, nI (Kv319.netOf (a.ticket n).way (a.ticket n).first a.weight), nI m]) hw, hY, ht, hz, k1, k2, lo.hm, stock_le lo.stock, ?_⟩
    obtain ⟨hY2, st2⟩ := hY.settled (t' := doneT (a.ticket n) (a.kind (a.ticket n).kind) a.weight (Kv319.netOf (a.ticket n).way (a.ticket n).first a.weight) m) (way := (a.ticket n).way) (net := Kv319.netOf (a.ticket n).way (a.ticket n).first a.weight)
      (H' := upd (upd H (L (.ticket n)) (.ins cs.Ticket (D (.ticket n)) (tfs (doneT (a.ticket n) (a.kind (a.ticket n).kind) a.weight (Kv319.netOf (a.ticket n).way (a.ticket n).first a.weight) m)))) (L (.kind (a.ticket n).kind)) (.ins cs.Goods (D (.kind (a.ticket n).kind)) (gfs (movedK (a.kind (a.ticket n).kind) (a.ticket n).way (Kv319.netOf (a.ticket n).way (a.ticket n).first a.weight)))))
      ht hz (by rw [upd_ne (ne_of (hY.kind hz) hk tg_ne).symm, upd_same]) upd_same (fun b o e n1 n2 => by rw [upd_ne n2, upd_ne n1]; exact e)
    have hk2 := hY2.ticket (i := n) (List.getElem?_set_self lo.lt)
    refine ⟨_, rfl, (L .yard), cs.Yard, (D .yard), _, _, rfl, hY2.yard, T.Yard.cl, T.Yard.n_lorries, rfl, _, rfl, _, cs.Ticket, _, _, _, rfl, hk2, T.Ticket.cl, T.Ticket.n_lorry, rfl, _, _, _, _, rfl, rfl, SqL.of hY2.ll, atI_nat (refs_at t1), _, _, _, rfl, hY2.lorry (i := (a.ticket n).lorry) hl, rfl,
      _, rfl, _, cs.Ticket, _, _, _, rfl, hk2, T.Ticket.cl, T.Ticket.n_first, rfl, _, rfl, _, _, rfl, _, rfl, (L .yard), cs.Yard, (D .yard), _, _, rfl, hY2.yard, T.Yard.cl, T.Yard.n_day, rfl, _, _, _, _, min (a.ticket n).first a.weight, a.today, ?_, hY2.lorry (i := (a.ticket n).lorry) hl, hY2.tares (i := (a.ticket n).lorry) hl, (ok.lorry t1).1, fun H3 tx nt h1 h2 keep => ?_⟩
    · rw [hw]
      have e : (if ((a.weight : Nat) : Int) < (((a.ticket n).first : Nat) : Int) then ((a.weight : Nat) : Int) else (((a.ticket n).first : Nat) : Int)) = ((min (a.ticket n).first a.weight : Nat) : Int) := by split <;> omega
      exact congrArg (fun z => [V.ref (L (.lorry (a.ticket n).lorry)), V.int z, nI a.today]) e
    obtain ⟨hY3, st3⟩ := hY2.tared hl nt h1 h2 keep
    have hk3 := hY3.ticket (i := n) (List.getElem?_set_self lo.lt)
    refine ⟨_, rfl, _, cs.Ticket, _, _, _, rfl, hk3, T.Ticket.cl, T.Ticket.n_net, rfl, _, rfl, _, cs.Ticket, _, _, _, rfl, hk3, T.Ticket.cl, T.Ticket.n_paid, rfl, _, rfl, _, cs.Ticket, _, _, _, rfl, hk3, T.Ticket.cl, T.Ticket.n_amount, rfl, (by show 3 ≤ sizeLine; decide), fun q hq => ?_⟩
    have st := st2.trans st3
    have s4 := same_new (o := .lst [nI (Kv319.netOf (a.ticket n).way (a.ticket n).first a.weight), nI (doneT (a.ticket n) (a.kind (a.ticket n).kind) a.weight (Kv319.netOf (a.ticket n).way (a.ticket n).first a.weight) m).paid, nI (doneT (a.ticket n) (a.kind (a.ticket n).kind) a.weight (Kv319.netOf (a.ticket n).way (a.ticket n).first a.weight) m).amount]) hq
    exact d _ _ _ q (hY3.same s4) (st.trans (Step.same s4)) (st.free hq) upd_same
end Wb

end
section
set_option Elab.async false
set_option linter.all false
set_option maxRecDepth 100000
set_option maxHeartbeats 4000000
/-! Lorries that come and go: quick. -/
namespace Wb
open PySem PySem.Spec PyProof.Rows L2
theorem top0 (i j : Nat) : (if (0 : Int) > (i : Int) - (j : Int) then (0 : Int) else (i : Int) - (j : Int)) = ((i - j : Nat) : Int) := by split <;> omega
def sp_net_above_tare (K : PySem.W.Frag) (cs : Cs) : Sp := fun vs H Q _ => ∃ L D a l z w r, vs = [.ref (L .yard), nI l] ∧ Y cs H L D a ∧ PlOk a ∧ a.lorries[l]? = some z ∧ z.tares = w :: r ∧ 0 < a.now_ ∧ Q (nI (a.weight - w)) H
theorem ok_net_above_tare {P : Program} {w : World} {K : PySem.W.Frag} {mg : Str → Option Value} {base : Heap} {cs : Cs} (T : Txt K mg cs) : FOk P w K mg base 4 "net_above_tare" ["yard", "lorry"] (sp_net_above_tare K cs) := by
  refine T.f_net_above_tare.ok sc_net_above_tare bd_net_above_tare (fun vs H Q E h => ?_) (fun f cdv A outer s H vs Q E hr h => ?_)
  · obtain ⟨L, D, a, l, z, w, r, rfl, _⟩ := h; rfl
  · obtain ⟨L, D, a, l, z, w, r, rfl, hY, pl, hl, ht, hw, q⟩ := h
    have hlt : l < a.lorries.length := (List.getElem?_eq_some_iff.mp hl).1
    refine ⟨_, (pss_one (ps_ret (pb (call_max2 rfl) T.b_max bt_max (pa_cons (pe_op op_sub (pm0 (pe_fld (pv 0) rfl) T.Plate.cl (ok_Plate_reading T) (hr.mono (by decide))) (pm0 (pe_ix ix_list (pe_fld (pv 0) rfl) (pv 1) (fun _ _ => rfl)) T.Lorry.cl (ok_Lorry_last_tare T) (hr.mono (by decide)))) (pa_cons pe_int pa_nil))))), ?_⟩
    refine ⟨_, rfl, (L .yard), cs.Yard, (D .yard), _, _, rfl, hY.yard, T.Yard.cl, T.Yard.n_plate, rfl, (L .plate), (D .plate), _, rfl, hY.plate, rfl, _, a, rfl, hY.plateAt, pl, _, rfl, (L .yard), cs.Yard, (D .yard), _, _, rfl, hY.yard, T.Yard.cl, T.Yard.n_lorries, rfl, _, rfl, _, _, _, _, rfl, rfl, SqL.of hY.ll, atI_nat (refs_at hlt), _, _, _, rfl, hY.lorry hl, rfl, _, _, z, _, w, r, rfl, hY.lorry hl, hY.tares hl, ht, _, _, rfl, rfl, _, _, rfl, ?_⟩
    have q : Q (.int (if (0 : Int) > a.now_ - (w : Int) then (0 : Int) else a.now_ - (w : Int))) H := by rw [weight_eq hw, top0]; exact q
    exact q
def tareOf (a : Kv319.Abs) (l : Nat) : Nat := (a.lorry l).tares.headD 0
def quickI (a : Kv319.Abs) (l k w m : Nat) : Int := if comingI a l k w m ≠ 0 then comingI a l k w m else if (!goodI (a.lorry l) a.today a.good) = true then -61 else if w = 1 ∧ heavyI (a.lorry l) a.weight a.load = true then -40 else if 60 ≤ a.tickets.length then -13 else
  settI (a.kind k) w (a.weight - tareOf a l)
theorem good_head {a : Kv319.Abs} {l : Nat} (h : goodI (a.lorry l) a.today a.good = true) : ∃ r, (a.lorry l).tares = tareOf a l :: r := by
  unfold goodI at h
  unfold tareOf
  cases e : (a.lorry l).tares with
  | nil => rw [e] at h; simp at h
  | cons w r => exact ⟨r, rfl⟩
def sp_quick_refusal (K : PySem.W.Frag) (cs : Cs) : Sp := fun vs H Q _ => ∃ L D a l k w m, vs = [.ref (L .yard), nI l, nI k, nI w, nI m] ∧ Y cs H L D a ∧ Ok a ∧ ∀ H', Same H H' → Q (.int (quickI a l k w m)) H'
theorem ok_quick_refusal {P : Program} {w : World} {K : PySem.W.Frag} {mg : Str → Option Value} {base : Heap} {cs : Cs} (T : Txt K mg cs) : FOk P w K mg base 7 "quick_refusal" ["yard", "lorry", "kind", "way", "moist"] (sp_quick_refusal K cs) := by
  refine T.f_quick_refusal.ok sc_quick_refusal bd_quick_refusal (fun vs H Q E h => ?_) (fun f cdv A outer s H vs Q E hr h => ?_)
  · obtain ⟨L, D, a, l, k, w, m, rfl, _⟩ := h; rfl
  · obtain ⟨L, D, a, l, k, w, m, rfl, hY0, ok, q⟩ := h
    refine ⟨_, (pss_cons (ps_set (i := 5) sc_quick_refusal.nd rfl (Or.inl rfl) (pf (ok_coming_refusal T) (hr.mono (by decide)) (pa_cons (pv 0) (pa_cons (pv 1) (pa_cons (pv 2) (pa_cons (pv 3) (pa_cons (pv 4) pa_nil))))))) (pss_cons (ps_if (pt_cmpR op_ne (pv 5) (pgi T.g_FINE) (nomark _)) (pss_one (ps_ret (pv 5))) pss_nil) (pss_cons (ps_if (pt_not (pt_val (pm (pe_ix ix_list (pe_fld (pv 0) rfl) (pv 1) (fun _ _ => rfl)) T.Lorry.cl (ok_Lorry_has_good_tare T) (hr.mono (by decide)) (pa_cons (pe_fld (pv 0) rfl) (pa_cons (pe_fld (pv 0) rfl) pa_nil))))) (pss_one (ps_ret (pgi T.g_NO_GOOD_TARE))) pss_nil) (pss_cons (ps_if ((pw_and (pt_cmpR op_eq (pv 3) (pgi T.g_FETCHES) (nomark _)) (pw_and1 (pt_val (pf (ok_is_too_heavy_now T) (hr.mono (by decide)) (pa_cons (pv 0) (pa_cons (pv 1) pa_nil))))))).pt (pss_one (ps_ret (pgi T.g_TOO_HEAVY))) pss_nil) (pss_cons (ps_if (pt_val (pm0 (pv 0) T.Yard.cl (ok_Yard_is_out_of_tickets T) (hr.mono (by decide)))) (pss_one (ps_ret (pgi T.g_FULL))) pss_nil) (pss_one (ps_ret (pf (ok_settling_refusal T) (hr.mono (by decide)) (pa_cons (pv 0) (pa_cons (pv 2) (pa_cons (pv 3) (pa_cons (pf (ok_net_above_tare T) (hr.mono (by decide)) (pa_cons (pv 0) (pa_cons (pv 1) pa_nil))) pa_nil)))))))))))), ?_⟩
    refine ⟨_, rfl, _, rfl, _, rfl, _, rfl, _, rfl, L, D, a, l, k, w, m, rfl, hY0, ok, fun H1 s1 => ?_⟩
    have hY := hY0.same s1
    have q := q _ s1
    unfold quickI at q
    refine ⟨_, rfl, rfl, _, rfl, ite2 (fun c => ?_) (fun c => ?_)⟩
    · rw [if_pos (nV.mp c)] at q; exact ⟨_, rfl, q⟩
    have e0 : ¬ comingI a l k w m ≠ 0 := fun z => c (nV.mpr z)
    rw [if_neg e0] at q
    obtain ⟨h1, h2, h3, h4, h5, h6⟩ := coming0 (Decidable.not_not.mp e0)
    obtain ⟨ne, hw⟩ := why0 h6
    have hl1 : l < a.lorries.length := of_decide_eq_true h1
    have hk1 : k < a.kinds.length := of_decide_eq_true h2
    have hl := lorry_some hl1
    refine ⟨_, rfl, (L .yard), cs.Yard, (D .yard), _, _, rfl, hY.yard, T.Yard.cl, T.Yard.n_lorries, rfl, _, rfl, _, _, _, _, rfl, rfl, SqL.of hY.ll, atI_nat (refs_at hl1), _, _, _, rfl, hY.lorry hl, rfl, _, rfl, (L .yard), cs.Yard, (D .yard), _, _, rfl, hY.yard, T.Yard.cl, T.Yard.n_day, rfl, _, rfl, (L .yard), cs.Yard, (D .yard), _, _, rfl, hY.yard, T.Yard.cl, T.Yard.n_good, rfl, _, _, _, _, _, _, rfl, hY.lorry hl, hY.tares hl, _, rfl, ite2 (fun c => ?_) (fun c => ?_)⟩
    · rw [if_pos c] at q; exact q
    rw [if_neg c] at q
    obtain ⟨r, hr'⟩ := good_head (a := a) (l := l) (by simpa using c)
    have rest : (if 60 ≤ a.tickets.length then Q (.int (-13)) H1 else Q (.int (settI (a.kind k) w (a.weight - tareOf a l))) H1) → ¬ (w = 1 ∧ heavyI (a.lorry l) a.weight a.load = true) → True := fun _ _ => trivial
    refine ⟨_, rfl, rfl, _, rfl, ite2 (fun c => ?_) (fun c => ?_)⟩
    · have c := dV.mp c
      refine ⟨_, rfl, _, rfl, L, D, a, _, _, rfl, hY, ok.pl, hl, ne, hw, _, rfl, ite2 (fun c2 => ?_) (fun c2 => ?_)⟩
      · rw [if_pos ⟨by omega, c2⟩] at q; exact q
      rw [if_neg fun z => c2 z.2] at q
      refine ⟨_, rfl, (L .yard), (D .yard), _, rfl, hY.yard, rfl, L, D, a, rfl, hY, _, rfl, ite2 (fun c => ?_) (fun c => ?_)⟩
      · rw [if_pos (of_decide_eq_true c)] at q; exact q
      rw [if_neg (fun z => c (decide_eq_true z))] at q
      exact ⟨_, rfl, _, rfl, _, rfl, _, rfl, _, rfl, L, D, a, _, _, _, r, rfl, hY, ok.pl, hl, hr', hw, L, D, a, _, _, _, _, rfl, hY, kind_some hk1, q⟩
    · have c : ¬ (w : Int) = 1 := fun z => c (dV.mpr z)
      refine iteF ?_
      rw [if_neg fun z => c (by omega)] at q
      refine ⟨_, rfl, (L .yard), (D .yard), _, rfl, hY.yard, rfl, L, D, a, rfl, hY, _, rfl, ite2 (fun c => ?_) (fun c => ?_)⟩
      · rw [if_pos (of_decide_eq_true c)] at q; exact q
      rw [if_neg (fun z => c (decide_eq_true z))] at q
      exact ⟨_, rfl, _, rfl, _, rfl, _, rfl, _, rfl, L, D, a, _, _, _, r, rfl, hY, ok.pl, hl, hr', hw, L, D, a, _, _, _, _, rfl, hY, kind_some hk1, q⟩
theorem tare_good (a : Kv319.Abs) (l : Nat) : a.tare l = if goodI (a.lorry l) a.today a.good = true then some (tareOf a l) else none := by
  unfold Kv319.Abs.tare goodI tareOf
  cases (a.lorry l).tares with
  | nil => rfl
  | cons w r => simp
theorem quick_coming {a : Kv319.Abs} {l k w m : Nat} (h : comingI a l k w m ≠ 0) : a.does (.quick l k w m) = (a, Kv319.say (comingI a l k w m)) := by
  unfold comingI at h ⊢
  simp only [Kv319.Abs.does]
  by_cases c1 : a.has l = true
  case neg => simp [c1]
  by_cases c2 : a.hasK k = true
  case neg => simp [c1, c2]
  by_cases c3 : 1 < w
  case pos => simp [c1, c2, c3]
  by_cases c4 : 100 < m
  case pos => simp [c1, c2, c3, c4]
  by_cases c5 : a.hasLorry l = true
  case pos => simp [c1, c2, c3, c4, c5]
  by_cases c6 : a.why = 0
  case neg => simp [c1, c2, c3, c4, c5, c6]
  exact absurd (by simp [c1, c2, c3, c4, c5, c6]) h
def quickT (a : Kv319.Abs) (l k w m : Nat) : Kv319.Abs × Kv319.Ans := ({ (a.moved k w (a.weight - tareOf a l)) with tickets := a.tickets ++ [a.done ⟨l, k, w, tareOf a l, 0, 0, 0, 0, 0⟩ (a.weight - tareOf a l) m] },
    ⟨(a.weight - tareOf a l : Nat), Kv319.ints [(a.done ⟨l, k, w, tareOf a l, 0, 0, 0, 0, 0⟩ (a.weight - tareOf a l) m).paid, (a.done ⟨l, k, w, tareOf a l, 0, 0, 0, 0, 0⟩ (a.weight - tareOf a l) m).amount, a.tickets.length]⟩)
theorem quick_tail {a : Kv319.Abs} {l k w m : Nat} (h : comingI a l k w m = 0) : a.does (.quick l k w m) = if (!goodI (a.lorry l) a.today a.good) = true then (a, Kv319.say (-61)) else if w = 1 ∧ a.legal l = false then (a, Kv319.say (-40)) else
    if 60 ≤ a.tickets.length then (a, Kv319.say (-13)) else if a.weight ≤ tareOf a l then (a, Kv319.say (-44)) else if a.stockWhy k w (a.weight - tareOf a l) ≠ 0 then (a, Kv319.say (a.stockWhy k w (a.weight - tareOf a l))) else quickT a l k w m := by
  obtain ⟨h1, h2, h3, h4, h5, h6⟩ := coming0 h
  have h3' : ¬ 1 < w := by omega
  have h4' : ¬ 100 < m := by omega
  simp only [Kv319.Abs.does, tare_good, quickT]
  cases c : goodI (a.lorry l) a.today a.good with
  | false => simp [h1, h2, h3', h4', h5, h6]
  | true => simp [h1, h2, h3', h4', h5, h6]
theorem quick_no {a : Kv319.Abs} {l k w m : Nat} (h : quickI a l k w m ≠ 0) : a.does (.quick l k w m) = (a, Kv319.say (quickI a l k w m)) := by
  unfold quickI at h ⊢
  by_cases c : comingI a l k w m ≠ 0
  · rw [if_pos c, quick_coming c]
  rw [if_neg c] at h ⊢
  rw [quick_tail (Decidable.not_not.mp c)]
  by_cases c7 : (!goodI (a.lorry l) a.today a.good) = true
  · rw [if_pos c7, if_pos c7]
  rw [if_neg c7] at h
  rw [if_neg c7, if_neg c7]
  rw [heavy_legal] at h ⊢
  by_cases c8 : w = 1 ∧ a.legal l = false
  · rw [if_pos c8, if_pos ⟨c8.1, by rw [c8.2]; rfl⟩]
  have c8' : ¬ (w = 1 ∧ (!a.legal l) = true) := fun z => c8 ⟨z.1, by simpa using z.2⟩
  rw [if_neg c8'] at h
  rw [if_neg c8, if_neg c8']
  by_cases c9 : 60 ≤ a.tickets.length
  · rw [if_pos c9, if_pos c9]
  rw [if_neg c9] at h
  rw [if_neg c9, if_neg c9]
  unfold settI at h ⊢
  by_cases c10 : a.weight - tareOf a l = 0
  · rw [if_pos c10, if_pos (by omega)]
  rw [if_neg c10] at h
  rw [if_neg c10, if_neg (by omega)]
  have e : stockI (a.kind k) w (a.weight - tareOf a l) = a.stockWhy k w (a.weight - tareOf a l) := rfl
  rw [e] at h ⊢
  rw [if_pos h]
structure QuickOk (a : Kv319.Abs) (l k w m : Nat) : Prop where
  hl : l < a.lorries.length
  hk : k < a.kinds.length
  hm : m ≤ 100
  ne : a.load ≠ []
  pos : 0 < a.now_
  good : goodI (a.lorry l) a.today a.good = true
  tl : a.tickets.length < 60
  stock : a.stockWhy k w (a.weight - tareOf a l) = 0
  eq : a.does (.quick l k w m) = ({ (a.moved k w (a.weight - tareOf a l)) with tickets := a.tickets ++ [a.done ⟨l, k, w, tareOf a l, 0, 0, 0, 0, 0⟩ (a.weight - tareOf a l) m] },
    ⟨(a.weight - tareOf a l : Nat), Kv319.ints [(a.done ⟨l, k, w, tareOf a l, 0, 0, 0, 0, 0⟩ (a.weight - tareOf a l) m).paid, (a.done ⟨l, k, w, tareOf a l, 0, 0, 0, 0, 0⟩ (a.weight - tareOf a l) m).amount, a.tickets.length]⟩)
theorem quick_ok {a : Kv319.Abs} {l k w m : Nat} (h : quickI a l k w m = 0) : QuickOk a l k w m := by
  unfold quickI at h
  by_cases c : comingI a l k w m ≠ 0
  · rw [if_pos c] at h; exact absurd h c
  rw [if_neg c] at h
  obtain ⟨h1, h2, h3, h4, h5, h6⟩ := coming0 (Decidable.not_not.mp c)
  obtain ⟨ne, hw⟩ := why0 h6
  by_cases c7 : (!goodI (a.lorry l) a.today a.good) = true
  · rw [if_pos c7] at h; omega
  rw [if_neg c7] at h
  have c7 : goodI (a.lorry l) a.today a.good = true := by simpa using c7
  rw [heavy_legal] at h
  by_cases c8 : w = 1 ∧ (!a.legal l) = true
  · rw [if_pos c8] at h; omega
  rw [if_neg c8] at h
  have c8' : ¬ (w = 1 ∧ a.legal l = false) := fun z => c8 ⟨z.1, by simpa using z.2⟩
  by_cases c9 : 60 ≤ a.tickets.length
  · rw [if_pos c9] at h; omega
  rw [if_neg c9] at h
  unfold settI at h
  by_cases c10 : a.weight - tareOf a l = 0
  · rw [if_pos c10] at h; omega
  rw [if_neg c10] at h
  have h : a.stockWhy k w (a.weight - tareOf a l) = 0 := h
  refine ⟨of_decide_eq_true h1, of_decide_eq_true h2, h4, ne, hw, c7, by omega, h, ?_⟩
  rw [quick_tail (Decidable.not_not.mp c), if_neg (by simpa using c7), if_neg c8', if_neg c9, if_neg (by omega), if_neg (by rw [h]; exact fun z => z rfl)]
  rfl
theorem at_eq {H : Hp} {a b : Addr} {o : Option HO} (e : a = b) (h : H a = o) : H b = o := e ▸ h
theorem set_snoc {α : Type} : ∀ (l : List α) (x y : α), (l ++ [x]).set l.length y = l ++ [y]
  | [], x, y => rfl
  | a :: r, x, y => by show a :: (r ++ [x]).set r.length y = a :: (r ++ [y]); rw [set_snoc r x y]
def sp_quick (K : PySem.W.Frag) (cs : Cs) : Sp := fun vs H Q _ => ∃ L D a l k w m, vs = [.ref (L .yard), nI l, nI k, nI w, nI m] ∧ Y cs H L D a ∧ Ok a ∧ Did cs H L D a (a.does (.quick l k w m)) Q
theorem ok_quick {P : Program} {w : World} {K : PySem.W.Frag} {mg : Str → Option Value} {base : Heap} {cs : Cs} (T : Txt K mg cs) : FOk P w K mg base 8 "quick" ["yard", "lorry", "kind", "way", "moist"] (sp_quick K cs) := by
  refine T.f_quick.ok sc_quick bd_quick (fun vs H Q E h => ?_) (fun f cdv A outer s H vs Q E hr h => ?_)
  · obtain ⟨L, D, a, l, k, w, m, rfl, _⟩ := h; rfl
  · obtain ⟨L, D, a, l, k, w, m, rfl, hY0, ok, d⟩ := h
    refine ⟨_, (pss_cons (ps_set (i := 5) sc_quick.nd rfl (Or.inl rfl) (pf (ok_quick_refusal T) (hr.mono (by decide)) (pa_cons (pv 0) (pa_cons (pv 1) (pa_cons (pv 2) (pa_cons (pv 3) (pa_cons (pv 4) pa_nil))))))) (pss_cons (ps_if (pt_cmpR op_ne (pv 5) (pgi T.g_FINE) (nomark _)) (pss_one (ps_ret (pe_lst (pa_cons (pv 5) pa_nil)))) pss_nil) (pss_cons (ps_set (i := 6) sc_quick.nd rfl (Or.inl rfl) (pf (ok_net_above_tare T) (hr.mono (by decide)) (pa_cons (pv 0) (pa_cons (pv 1) pa_nil)))) (pss_cons (ps_set (i := 7) sc_quick.nd rfl (Or.inl rfl) (pk (ok_Ticket_init T) (hr.mono (by decide)) T.Ticket.mgC (pa_cons (pv 1) (pa_cons (pv 2) (pa_cons (pv 3) (pa_cons (pm0 (pe_ix ix_list (pe_fld (pv 0) rfl) (pv 1) (fun _ _ => rfl)) T.Lorry.cl (ok_Lorry_last_tare T) (hr.mono (by decide))) pa_nil)))))) (pss_cons (ps_expr (pe_bm PySem.F.plainAttrs_list PySem.F.slot_list_append PySem.F.type_list_append mt_append (pe_fld (pv 0) rfl) (pa_cons (pv 7) pa_nil))) (pss_cons (ps_expr (pf (ok_settle T) (hr.mono (by decide)) (pa_cons (pv 0) (pa_cons (pv 7) (pa_cons (pm0 (pe_fld (pv 0) rfl) T.Plate.cl (ok_Plate_reading T) (hr.mono (by decide))) (pa_cons (pv 6) (pa_cons (pv 4) pa_nil))))))) (pss_one (ps_ret (pe_lst (pa_cons (pe_fld (pv 7) rfl) (pa_cons (pe_fld (pv 7) rfl) (pa_cons (pe_fld (pv 7) rfl) (pa_cons (pe_op op_sub (pb call_len_seq T.b_len bt_len (pa_cons (pe_fld (pv 0) rfl) pa_nil)) pe_int) pa_nil))))))))))))), ?_⟩
    refine ⟨_, rfl, _, rfl, _, rfl, _, rfl, _, rfl, L, D, a, l, k, w, m, rfl, hY0, ok, fun H1 s1 => ?_⟩
    have hY := hY0.same s1
    refine ⟨_, rfl, rfl, _, rfl, ite2 (fun c => ?_) (fun c => ?_)⟩
    · refine ⟨_, rfl, (by show 1 ≤ sizeLine; decide), fun q hq => ?_⟩
      exact d.same hY0 s1 (quick_no (nV.mp c)) hq
    have qo := quick_ok (Decidable.not_not.mp fun z => c (nV.mpr z))
    rw [qo.eq] at d
    have hl := lorry_some qo.hl
    obtain ⟨r, hr'⟩ := good_head qo.good
    have hw := weight_eq qo.pos
    obtain ⟨k1, k2, k3⟩ := ok.kind qo.hk
    have hz := kind_some qo.hk
    have stk := stock_le qo.stock
    generalize ew : tareOf a l = w0 at d hr' stk
    refine ⟨_, rfl, _, rfl, L, D, a, _, _, w0, r, rfl, hY, ok.pl, hl, hr', qo.pos, ?_⟩
    refine ⟨_, rfl, _, rfl, _, rfl, _, rfl, (L .yard), cs.Yard, (D .yard), _, _, rfl, hY.yard, T.Yard.cl, T.Yard.n_lorries, rfl, _, rfl, _, _, _, _, rfl, rfl, SqL.of hY.ll, atI_nat (refs_at qo.hl), _, _, _, rfl, hY.lorry hl, rfl, _, _, _, _, w0, r, rfl, hY.lorry hl, hY.tares hl, hr', fun x dx nx nd ndx => ?_⟩
    refine ⟨x, dx, l, k, w, w0, rfl, upd_same, rfl, ?_⟩
    have a1 : L .tl ≠ x := ne_of_none hY.tl nx
    have a2 : L .tl ≠ dx := ne_of_none hY.tl nd
    have sn : Same H1 (upd (upd (upd H1 dx (.own x)) x (.ins cs.Ticket dx [])) x (.ins cs.Ticket dx (tfs ⟨l, k, w, w0, 0, 0, 0, 0, 0⟩))) := fun b o e => by
      rw [upd_ne (ne_of_none e nx), upd_ne (ne_of_none e nx), upd_ne (ne_of_none e nd)]; exact e
    have hYn := hY.same sn
    refine ⟨_, rfl, (L .yard), cs.Yard, (D .yard), _, _, rfl, hYn.yard, T.Yard.cl, T.Yard.n_tickets, rfl, .inl ⟨rfl, _, SqL.of hYn.tl⟩, _, rfl, _, _, _, rfl, rfl, hYn.tl, (by rw [List.length_map, List.length_range]; exact Nat.lt_of_le_of_lt ok.tl (by decide)), ?_⟩
    obtain ⟨hY2, st2⟩ := hY.addTicket (x := x) (dx := dx) (t := ⟨l, k, w, w0, 0, 0, 0, 0, 0⟩) (H' := upd (upd (upd (upd H1 dx (.own x)) x (.ins cs.Ticket dx [])) x (.ins cs.Ticket dx (tfs ⟨l, k, w, w0, 0, 0, 0, 0, 0⟩))) (L .tl) (.lst (((List.range a.tickets.length).map fun i => .ref (L (.ticket i))) ++ [.ref x])))
      nx rfl (by rw [upd_ne a1.symm, upd_same]) upd_same (fun b o e nb => by rw [upd_ne nb]; exact sn b o e)
    generalize eL2 : ext L (.ticket a.tickets.length) x = L2 at hY2 st2
    generalize eD2 : ext D (.ticket a.tickets.length) dx = D2 at hY2 st2
    have ex : L2 (.ticket a.tickets.length) = x := by rw [← eL2, ext_at]
    have ey : L2 .yard = L .yard := by rw [← eL2]; rfl
    have ht2 : (a.tickets ++ [(⟨l, k, w, w0, 0, 0, 0, 0, 0⟩ : Kv319.Ticket)])[a.tickets.length]? = some ⟨l, k, w, w0, 0, 0, 0, 0, 0⟩ := snoc_at _ _
    have hy2 := at_eq ey hY2.yard
    refine ⟨_, rfl, _, rfl, _, rfl, _, cs.Yard, _, _, _, rfl, hy2, T.Yard.cl, T.Yard.n_plate, rfl, (L2 .plate), (D2 .plate), _, rfl, hY2.plate, rfl, _, { a with tickets := a.tickets ++ [⟨l, k, w, w0, 0, 0, 0, 0, 0⟩] }, rfl, hY2.plateAt, ⟨ok.pl.s1, ok.pl.s2, ok.pl.n2, ok.pl.g1, ok.pl.g2⟩, _, rfl, _, rfl,
      L2, D2, _, a.tickets.length, ⟨l, k, w, w0, 0, 0, 0, 0, 0⟩, a.kind k, a.weight, a.weight - w0, m, ?_, hY2, ht2, hz, k1, k2, qo.hm, stk, ?_⟩
    · rw [ex, ey]
      exact congrArg (fun z => [V.ref (L .yard), V.ref x, V.int z, nI (a.weight - w0), nI m]) hw
    obtain ⟨hY3, st3⟩ := hY2.settled (t' := doneT ⟨l, k, w, w0, 0, 0, 0, 0, 0⟩ (a.kind k) a.weight (a.weight - w0) m) (way := w) (net := a.weight - w0)
      (H' := upd (upd (upd (upd (upd (upd H1 dx (.own x)) x (.ins cs.Ticket dx [])) x (.ins cs.Ticket dx (tfs ⟨l, k, w, w0, 0, 0, 0, 0, 0⟩))) (L .tl) (.lst (((List.range a.tickets.length).map fun i => .ref (L (.ticket i))) ++ [.ref x])))
        (L2 (.ticket a.tickets.length)) (.ins cs.Ticket (D2 (.ticket a.tickets.length)) (tfs (doneT ⟨l, k, w, w0, 0, 0, 0, 0, 0⟩ (a.kind k) a.weight (a.weight - w0) m)))) (L2 (.kind k)) (.ins cs.Goods (D2 (.kind k)) (gfs (movedK (a.kind k) w (a.weight - w0)))))
      ht2 hz (by rw [upd_ne (ne_of (hY2.kind (i := k) hz) (hY2.ticket ht2) tg_ne).symm, upd_same]) upd_same (fun b o e n1 n2 => by rw [upd_ne n2, upd_ne n1]; exact e)
    have e5 : (a.tickets ++ [(⟨l, k, w, w0, 0, 0, 0, 0, 0⟩ : Kv319.Ticket)]).set a.tickets.length (doneT ⟨l, k, w, w0, 0, 0, 0, 0, 0⟩ (a.kind k) a.weight (a.weight - w0) m) = a.tickets ++ [doneT ⟨l, k, w, w0, 0, 0, 0, 0, 0⟩ (a.kind k) a.weight (a.weight - w0) m] := set_snoc _ _ _
    have hk3 := at_eq ex (hY3.ticket (i := a.tickets.length) (t := doneT ⟨l, k, w, w0, 0, 0, 0, 0, 0⟩ (a.kind k) a.weight (a.weight - w0) m) (by rw [e5]; exact snoc_at _ _))
    have hy3 := at_eq ey hY3.yard
    refine ⟨_, rfl, _, cs.Ticket, _, _, _, rfl, hk3, T.Ticket.cl, T.Ticket.n_net, rfl, _, rfl, _, cs.Ticket, _, _, _, rfl, hk3, T.Ticket.cl, T.Ticket.n_paid, rfl, _, rfl, _, cs.Ticket, _, _, _, rfl, hk3, T.Ticket.cl, T.Ticket.n_amount, rfl, _, rfl, _, cs.Yard, _, _, _, rfl, hy3, T.Yard.cl, T.Yard.n_tickets, rfl, _, _, rfl, .inl (SqL.of hY3.tl), _, _, rfl, rfl, (by show 4 ≤ sizeLine; decide), fun q hq => ?_⟩
    have e6 : ((((List.range ((a.tickets ++ [(⟨l, k, w, w0, 0, 0, 0, 0, 0⟩ : Kv319.Ticket)]).set a.tickets.length (doneT ⟨l, k, w, w0, 0, 0, 0, 0, 0⟩ (a.kind k) a.weight (a.weight - w0) m)).length).map fun i => V.ref (L2 (.ticket i))).length : Nat) : Int) - 1 = ((a.tickets.length : Nat) : Int) := by
      rw [List.length_map, List.length_range, e5, List.length_append]; simp
    have st := ((Step.same (cs := cs) (L := L) (D := D) (a := a) s1).trans st2).trans st3
    have s6 := same_new (o := .lst [nI (a.weight - w0), nI (doneT ⟨l, k, w, w0, 0, 0, 0, 0, 0⟩ (a.kind k) a.weight (a.weight - w0) m).paid, nI (doneT ⟨l, k, w, w0, 0, 0, 0, 0, 0⟩ (a.kind k) a.weight (a.weight - w0) m).amount, nI a.tickets.length]) hq
    have hY6 := hY3.same s6
    have st6 := st.trans (Step.same s6)
    rw [show ({ (Kv319.Abs.moved { a with tickets := a.tickets ++ [⟨l, k, w, w0, 0, 0, 0, 0, 0⟩] } k w (a.weight - w0)) with tickets := (a.tickets ++ [(⟨l, k, w, w0, 0, 0, 0, 0, 0⟩ : Kv319.Ticket)]).set a.tickets.length (doneT ⟨l, k, w, w0, 0, 0, 0, 0, 0⟩ (a.kind k) a.weight (a.weight - w0) m) } : Kv319.Abs)
      = { (a.moved k w (a.weight - w0)) with tickets := a.tickets ++ [a.done ⟨l, k, w, w0, 0, 0, 0, 0, 0⟩ (a.weight - w0) m] } by rw [e5]; rfl] at hY6 st6
    have fin := d _ _ _ q hY6 st6 (st.free hq) upd_same
    show Q (.ref q) (upd _ q (.lst [nI (a.weight - w0), nI (doneT ⟨l, k, w, w0, 0, 0, 0, 0, 0⟩ (a.kind k) a.weight (a.weight - w0) m).paid, nI (doneT ⟨l, k, w, w0, 0, 0, 0, 0, 0⟩ (a.kind k) a.weight (a.weight - w0) m).amount,
      .int (((((List.range ((a.tickets ++ [(⟨l, k, w, w0, 0, 0, 0, 0, 0⟩ : Kv319.Ticket)]).set a.tickets.length (doneT ⟨l, k, w, w0, 0, 0, 0, 0, 0⟩ (a.kind k) a.weight (a.weight - w0) m)).length).map fun i => V.ref (L2 (.ticket i))).length : Nat) : Int) - 1)]))
    rw [e6]
    exact fin
end Wb

end
section
set_option Elab.async false
set_option linter.all false
set_option maxRecDepth 100000
set_option maxHeartbeats 4000000
/-! The calls on the scale itself. -/
namespace Wb
open PySem PySem.Spec PyProof.Rows L2
section
variable {cs : Cs} {H H' : Hp} {L D : Tag → Addr} {a : Kv319.Abs}
/-- other errors, another zero -/
theorem Y.setErr (y : Y cs H L D a) {g o z : Int} (here : H' (L .plate) = some (.ins cs.Plate (D .plate) (pfs { a with gain := g, offset := o, zero := z } (L .axl)))) (keep : ∀ b u, H b = some u → b ≠ L .plate → H' b = some u) :
    Y cs H' L D { a with gain := g, offset := o, zero := z } ∧ Step cs H L D a H' L D { a with gain := g, offset := o, zero := z } := by
  refine y.grow (fun _ => False) (fun u => u = .plate) (fun _ h => h.elim) (fun _ _ h => h.elim) (fun _ _ => rfl) (fun u e => by rw [e]; exact ⟨_, rfl⟩) ?_ (fun b o e h => keep b o e (h _ rfl)) (fun u e => by rw [e]; exact ⟨_, here⟩) ?_
  · intro u _ m
    cases u with
    | plate => exact absurd rfl m
    | _ => rfl
  · rintro u o (e | e) q
    · exact e.elim
    · subst e
      rw [here, ← q]; rfl
/-- another load -/
theorem Y.setLoad (y : Y cs H L D a) {xs : List Nat} {ax : Addr} (nx : H ax = none) (here : H' (L .plate) = some (.ins cs.Plate (D .plate) (pfs { a with load := xs } ax))) (hx : H' ax = some (nL xs)) (keep : ∀ b u, H b = some u → b ≠ L .plate → H' b = some u) :
    Y cs H' (ext L .axl ax) D { a with load := xs } ∧ Step cs H L D a H' (ext L .axl ax) D { a with load := xs } := by
  refine y.grow (fun u => u = .axl) (fun u => u = .plate) (fun u e => by rw [e, ext_at]; exact nx) (fun u v e e' _ => e.trans e'.symm) (fun u n => ext_ne n) (fun u e => by rw [e]; exact ⟨_, rfl⟩) ?_ (fun b o e h => keep b o e (h _ rfl)) (fun u e => by rw [e]; exact ⟨_, here⟩) ?_
  · intro u n m
    cases u with
    | plate => exact absurd rfl m
    | axl => exact absurd rfl n
    | kl => exact congrArg some (refs_ext fun i _ e => nomatch e)
    | ll => exact congrArg some (refs_ext fun i _ e => nomatch e)
    | tl => exact congrArg some (refs_ext fun i _ e => nomatch e)
    | _ => rfl
  · rintro u o (e | e) q
    · subst e
      rw [ext_at, hx, ← q]; rfl
    · subst e
      rw [ext_ne (by intro e; cases e), here, ← q]; rfl
end
theorem chI {lo v hi : Int} {Q : V → Prop} (h : Q (.bl (decide (lo ≤ v) && decide (v ≤ hi)))) : if decide (lo ≤ v) = true then (∃ i j, V.int v = .int i ∧ V.int hi = .int j ∧ Q (.bl (decide (i ≤ j)))) else Q (.bl false) := by
  cases c : decide (lo ≤ v) with
  | true => rw [c, Bool.true_and] at h; exact ⟨_, _, rfl, rfl, h⟩
  | false => rw [c, Bool.false_and] at h; exact h
theorem chT {lo v hi : Int} {Q : Bool → Prop} (h : Q (decide (lo ≤ v) && decide (v ≤ hi))) : if decide (lo ≤ v) = true then (∃ i j, V.int v = .int i ∧ V.int hi = .int j ∧ ∃ k, V.bl (decide (i ≤ j)) = .bl k ∧ Q k) else (∃ k, V.bl false = .bl k ∧ Q k) := by
  cases c : decide (lo ≤ v) with
  | true => rw [c, Bool.true_and] at h; exact ⟨_, _, rfl, rfl, _, rfl, h⟩
  | false => rw [c, Bool.false_and] at h; exact ⟨_, rfl, h⟩
theorem bnot {lo v hi : Int} : ((!(decide (lo ≤ v) && decide (v ≤ hi))) = true) ↔ (v < lo ∨ hi < v) := by
  rw [Bool.not_eq_true', Bool.and_eq_false_iff, decide_eq_false_iff_not, decide_eq_false_iff_not]; omega
theorem empB {l : List Nat} : ((!l.isEmpty) = true) ↔ l ≠ [] := by
  cases l <;> simp
def sp_set_errors (K : PySem.W.Frag) (cs : Cs) : Sp := fun vs H Q _ => ∃ L D a g o, vs = [.ref (L .plate), .int g, .int o] ∧ Y cs H L D a ∧ Did cs H L D a (a.does (.drift g o)) Q
theorem ok_set_errors {P : Program} {w : World} {K : PySem.W.Frag} {mg : Str → Option Value} {base : Heap} {cs : Cs} (T : Txt K mg cs) : FOk P w K mg base 1 "set_errors" ["plate", "gain", "offset"] (sp_set_errors K cs) := by
  refine T.f_set_errors.ok sc_set_errors bd_set_errors (fun vs H Q E h => ?_) (fun f cdv A outer s H vs Q E hr h => ?_)
  · obtain ⟨L, D, a, g, o, rfl, _⟩ := h; rfl
  · obtain ⟨L, D, a, g, o, rfl, hY, d⟩ := h
    refine ⟨_, (pss_cons (ps_if ((pw_or (pt_not (pt_chain op_le op_le (pe_un un_neg pe_int) (pv 1) pe_int)) (pw_or1 (pt_not (pt_chain op_le op_le (pe_un un_neg pe_int) (pv 2) pe_int))))).pt (pss_one (ps_ret (pe_lst (pa_cons (pgi T.g_OUT_OF_RANGE) pa_nil)))) pss_nil) (pss_cons (ps_fld (pv 0) (pv 1) rfl) (pss_cons (ps_fld (pv 0) (pv 2) rfl) (pss_one (ps_ret (pe_lst (pa_cons pe_int pa_nil))))))), ?_⟩
    have no : (g < -20 ∨ 20 < g ∨ o < -2000 ∨ 2000 < o) → ∀ q, H q = none → Q (.ref q) (upd H q (.lst [.int (-22)])) := fun h q hq => d.same hY (Same.refl H) (v := Kv319.say (-22)) (by simp only [Kv319.Abs.does]; rw [if_pos h]) hq
    refine ⟨_, rfl, _, rfl, _, _, rfl, rfl, _, rfl, chT (ite2 (fun c => iteT ?_) (fun c => ?_))⟩
    · exact ⟨(by show 1 ≤ sizeLine; decide), no (by have := bnot.mp c; omega)⟩
    have c1 : ¬ (g < -20 ∨ 20 < g) := fun z => c (bnot.mpr z)
    refine ⟨_, rfl, _, rfl, _, _, rfl, rfl, _, rfl, chT (ite2 (fun c => ?_) (fun c => ?_))⟩
    · exact ⟨(by show 1 ≤ sizeLine; decide), no (by have := bnot.mp c; omega)⟩
    have c2 : ¬ (o < -2000 ∨ 2000 < o) := fun z => c (bnot.mpr z)
    have e : a.does (.drift g o) = ({ a with gain := g, offset := o }, Kv319.say 0) := by simp only [Kv319.Abs.does]; rw [if_neg (by omega)]
    rw [e] at d
    refine ⟨_, rfl, _, rfl, (L .plate), cs.Plate, (D .plate), _, rfl, hY.plate, T.Plate.cl, T.Plate.n_gain, (by show 6 < 1000; decide), _, rfl, _, rfl, (L .plate), cs.Plate, (D .plate), _, rfl, upd_same, T.Plate.cl, T.Plate.n_offset, (by show 6 < 1000; decide), (by show 1 ≤ sizeLine; decide), fun q hq => ?_⟩
    rw [upd_upd] at hq ⊢
    obtain ⟨hY2, st2⟩ := hY.setErr (g := g) (o := o) (z := a.zero) (H' := upd H (L .plate) (.ins cs.Plate (D .plate) (pfs { a with gain := g, offset := o, zero := a.zero } (L .axl)))) upd_same (fun b u e nb => by rw [upd_ne nb]; exact e)
    have s3 := same_new (o := .lst [.int 0]) hq
    exact d _ _ _ q (hY2.same s3) (st2.trans (Step.same s3)) (st2.free hq) upd_same
theorem any_max {l : List Nat} (ne : l ≠ []) : (l.any (fun x => decide (50000 < x)) = true) ↔ 50000 < l.foldl max 0 := by
  rw [List.any_eq_true]
  constructor
  · rintro ⟨x, hx, h⟩
    have := foldl_max_mem_le l 0 x hx
    have := of_decide_eq_true h
    omega
  · intro h
    rcases foldl_max_in l 0 with e | e
    · omega
    · exact ⟨_, e, decide_eq_true h⟩
def sp_put_on (K : PySem.W.Frag) (cs : Cs) : Sp := fun vs H Q _ => ∃ L D a x xs, vs = [.ref (L .plate), .ref x] ∧ Y cs H L D a ∧ PlOk a ∧ H x = some (nL xs) ∧ Did cs H L D a (a.does (.on_ xs)) Q
theorem ok_put_on {P : Program} {w : World} {K : PySem.W.Frag} {mg : Str → Option Value} {base : Heap} {cs : Cs} (T : Txt K mg cs) : FOk P w K mg base 4 "put_on" ["plate", "axles"] (sp_put_on K cs) := by
  refine T.f_put_on.ok sc_put_on bd_put_on (fun vs H Q E h => ?_) (fun f cdv A outer s H vs Q E hr h => ?_)
  · obtain ⟨L, D, a, x, xs, rfl, _⟩ := h; rfl
  · obtain ⟨L, D, a, x, xs, rfl, hY, pl, hx, d⟩ := h
    refine ⟨_, (pss_cons (ps_if (pt_not (pt_val (pm0 (pv 0) T.Plate.cl (ok_Plate_is_empty T) (hr.mono (by decide))))) (pss_one (ps_ret (pe_lst (pa_cons (pgi T.g_NOT_NOW) pa_nil)))) pss_nil) (pss_cons (ps_if ((pw_or (pt_not (pt_chain op_le op_le pe_int (pb call_len_seq T.b_len bt_len (pa_cons (pv 1) pa_nil)) (pgi T.g_MOST_AXLES))) (pw_or1 (pt_cmpR op_gt (pb (cr_max rfl) T.b_max bt_max (pa_cons (pv 1) pa_nil)) (pgi T.g_MOST_ON_AXLE) (nomark _))))).pt (pss_one (ps_ret (pe_lst (pa_cons (pgi T.g_OUT_OF_RANGE) pa_nil)))) pss_nil) (pss_cons (ps_fld (pv 0) (pe_callTy call_list_of rfl T.b_list bt_list (pa_cons (pv 1) pa_nil)) rfl) (pss_one (ps_ret (pe_lst (pa_cons pe_int (pa_cons (pm0 (pv 0) T.Plate.cl (ok_Plate_reading T) (hr.mono (by decide))) pa_nil)))))))), ?_⟩
    simp only [Kv319.Abs.does] at d
    refine ⟨_, rfl, (L .plate), (D .plate), _, rfl, hY.plate, rfl, _, a, rfl, hY.plateAt, _, rfl, ite2 (fun c => ?_) (fun c => ?_)⟩
    · rw [if_pos (empB.mp c)] at d
      exact ⟨(by show 1 ≤ sizeLine; decide), fun q hq => d.same hY (Same.refl H) rfl hq⟩
    have c1 : ¬ a.load ≠ [] := fun z => c (empB.mpr z)
    rw [if_neg c1] at d
    refine ⟨_, rfl, _, _, rfl, .inl (SqL.of hx), _, _, rfl, rfl, _, rfl, chT (ite2 (fun c => iteT ?_) (fun c => ?_))⟩
    · have c := bnot.mp c
      rw [List.length_map, List.length_map] at c
      rw [if_pos (by
        rcases c with c | c
        · exact .inl (List.length_eq_zero_iff.mp (by omega))
        · exact .inr (.inl (by omega)))] at d
      exact ⟨(by show 1 ≤ sizeLine; decide), fun q hq => d.same hY (Same.refl H) rfl hq⟩
    have c2 : ¬ ((((xs.map Int.ofNat).map V.int).length : Nat) : Int) < 1 ∧ ¬ 6 < ((((xs.map Int.ofNat).map V.int).length : Nat) : Int) := by
      have : ¬ _ := fun z => c (bnot.mpr z)
      omega
    rw [List.length_map, List.length_map] at c2
    have ne : xs ≠ [] := fun e => by rw [e] at c2; simp at c2
    refine ⟨_, rfl, _, _, rfl, SqL.of hx, (by rw [List.length_map]; omega), fun m h1 h2 => ?_⟩
    have e := max_is h1 h2
    subst e
    refine ⟨_, _, rfl, rfl, _, rfl, ite2 (fun c => ?_) (fun c => ?_)⟩
    · have c := of_decide_eq_true c
      rw [if_pos (.inr (.inr ((any_max ne).mpr (by omega))))] at d
      exact ⟨(by show 1 ≤ sizeLine; decide), fun q hq => d.same hY (Same.refl H) rfl hq⟩
    have c3 : ¬ (50000 : Int) < ((xs.foldl max 0 : Nat) : Int) := fun h => c (decide_eq_true h)
    rw [if_neg (by
      rintro (h | h | h)
      · exact ne h
      · omega
      · have := (any_max ne).mp h; omega)] at d
    refine ⟨_, rfl, _, _, rfl, .inl (SqL.of hx), fun p1 n1 => ?_⟩
    have s1 := same_new (o := nL xs) n1
    have np : L .plate ≠ p1 := ne_of_none hY.plate n1
    refine ⟨_, rfl, (L .plate), cs.Plate, (D .plate), _, rfl, (s1 _ _ hY.plate), T.Plate.cl, T.Plate.n_axles, (by show 6 < 1000; decide), ?_⟩
    obtain ⟨hY2, st2⟩ := hY.setLoad (xs := xs) (ax := p1) (H' := upd (upd H p1 (nL xs)) (L .plate) (.ins cs.Plate (D .plate) (pfs { a with load := xs } p1))) n1 upd_same (by rw [upd_ne np.symm, upd_same]) (fun b u e nb => by rw [upd_ne nb]; exact s1 _ _ e)
    refine ⟨_, rfl, (L .plate), (D .plate), _, rfl, hY2.plate, rfl, _, _, rfl, hY2.plateAt, ⟨pl.s1, pl.s2, pl.n2, pl.g1, pl.g2⟩, (by show 2 ≤ sizeLine; decide), fun q hq => ?_⟩
    have s3 := same_new (o := .lst [.int 0, .int ({ a with load := xs } : Kv319.Abs).now_]) hq
    exact d _ _ _ q (hY2.same s3) (st2.trans (Step.same s3)) (st2.free hq) upd_same
def sp_take_off (K : PySem.W.Frag) (cs : Cs) : Sp := fun vs H Q _ => ∃ L D a, vs = [.ref (L .plate)] ∧ Y cs H L D a ∧ PlOk a ∧ Did cs H L D a (a.does .off) Q
theorem ok_take_off {P : Program} {w : World} {K : PySem.W.Frag} {mg : Str → Option Value} {base : Heap} {cs : Cs} (T : Txt K mg cs) : FOk P w K mg base 4 "take_off" ["plate"] (sp_take_off K cs) := by
  refine T.f_take_off.ok sc_take_off bd_take_off (fun vs H Q E h => ?_) (fun f cdv A outer s H vs Q E hr h => ?_)
  · obtain ⟨L, D, a, rfl, _⟩ := h; rfl
  · obtain ⟨L, D, a, rfl, hY, pl, d⟩ := h
    refine ⟨_, (pss_cons (ps_if (pt_val (pm0 (pv 0) T.Plate.cl (ok_Plate_is_empty T) (hr.mono (by decide)))) (pss_one (ps_ret (pe_lst (pa_cons (pgi T.g_NOTHING_THERE) pa_nil)))) pss_nil) (pss_cons (ps_fld (pv 0) (pe_lst pa_nil) rfl) (pss_one (ps_ret (pe_lst (pa_cons pe_int (pa_cons (pm0 (pv 0) T.Plate.cl (ok_Plate_reading T) (hr.mono (by decide))) pa_nil))))))), ?_⟩
    simp only [Kv319.Abs.does] at d
    refine ⟨_, rfl, (L .plate), (D .plate), _, rfl, hY.plate, rfl, _, a, rfl, hY.plateAt, _, rfl, ite2 (fun c => ?_) (fun c => ?_)⟩
    · rw [if_pos (List.isEmpty_iff.mp c)] at d
      exact ⟨(by show 1 ≤ sizeLine; decide), fun q hq => d.same hY (Same.refl H) rfl hq⟩
    rw [if_neg fun z => c (List.isEmpty_iff.mpr z)] at d
    refine ⟨Nat.zero_le _, fun p1 n1 => ?_⟩
    have s1 := same_new (o := .lst []) n1
    have np : L .plate ≠ p1 := ne_of_none hY.plate n1
    refine ⟨_, rfl, (L .plate), cs.Plate, (D .plate), _, rfl, (s1 _ _ hY.plate), T.Plate.cl, T.Plate.n_axles, (by show 6 < 1000; decide), ?_⟩
    obtain ⟨hY2, st2⟩ := hY.setLoad (xs := []) (ax := p1) (H' := upd (upd H p1 (.lst [])) (L .plate) (.ins cs.Plate (D .plate) (pfs { a with load := [] } p1))) n1 upd_same (by rw [upd_ne np.symm, upd_same]; rfl) (fun b u e nb => by rw [upd_ne nb]; exact s1 _ _ e)
    refine ⟨_, rfl, (L .plate), (D .plate), _, rfl, hY2.plate, rfl, _, _, rfl, hY2.plateAt, ⟨pl.s1, pl.s2, pl.n2, pl.g1, pl.g2⟩, (by show 2 ≤ sizeLine; decide), fun q hq => ?_⟩
    have s3 := same_new (o := .lst [.int 0, .int ({ a with load := [] } : Kv319.Abs).now_]) hq
    exact d _ _ _ q (hY2.same s3) (st2.trans (Step.same s3)) (st2.free hq) upd_same
def sp_show_reading (K : PySem.W.Frag) (cs : Cs) : Sp := fun vs H Q _ => ∃ L D a, vs = [.ref (L .plate)] ∧ Y cs H L D a ∧ PlOk a ∧ Did cs H L D a (a.does .show_) Q
theorem ok_show_reading {P : Program} {w : World} {K : PySem.W.Frag} {mg : Str → Option Value} {base : Heap} {cs : Cs} (T : Txt K mg cs) : FOk P w K mg base 5 "show_reading" ["plate"] (sp_show_reading K cs) := by
  refine T.f_show_reading.ok sc_show_reading bd_show_reading (fun vs H Q E h => ?_) (fun f cdv A outer s H vs Q E hr h => ?_)
  · obtain ⟨L, D, a, rfl, _⟩ := h; rfl
  · obtain ⟨L, D, a, rfl, hY, pl, d⟩ := h
    refine ⟨_, (pss_cons (ps_if (pt_val (pm0 (pv 0) T.Plate.cl (ok_Plate_shows_too_much T) (hr.mono (by decide)))) (pss_one (ps_ret (pe_lst (pa_cons (pgi T.g_TOO_MUCH) pa_nil)))) pss_nil) (pss_one (ps_ret (pe_lst (pa_cons pe_int (pa_cons (pm0 (pv 0) T.Plate.cl (ok_Plate_reading T) (hr.mono (by decide))) pa_nil)))))), ?_⟩
    simp only [Kv319.Abs.does] at d
    refine ⟨_, rfl, (L .plate), (D .plate), _, rfl, hY.plate, rfl, _, a, rfl, hY.plateAt, pl, _, rfl, ite2 (fun c => ?_) (fun c => ?_)⟩
    · rw [if_pos c] at d
      exact ⟨(by show 1 ≤ sizeLine; decide), fun q hq => d.same hY (Same.refl H) rfl hq⟩
    rw [if_neg c] at d
    exact ⟨_, rfl, (L .plate), (D .plate), _, rfl, hY.plate, rfl, _, a, rfl, hY.plateAt, pl, (by show 2 ≤ sizeLine; decide), fun q hq => d.same hY (Same.refl H) rfl hq⟩
theorem abs_nat (i : Int) : (if i < 0 then -i else i) = ((i.natAbs : Nat) : Int) := by split <;> omega
def sp_set_zero (K : PySem.W.Frag) (cs : Cs) : Sp := fun vs H Q _ => ∃ L D a, vs = [.ref (L .plate)] ∧ Y cs H L D a ∧ PlOk a ∧ Did cs H L D a (a.does .zero) Q
theorem ok_set_zero {P : Program} {w : World} {K : PySem.W.Frag} {mg : Str → Option Value} {base : Heap} {cs : Cs} (T : Txt K mg cs) : FOk P w K mg base 2 "set_zero" ["plate"] (sp_set_zero K cs) := by
  refine T.f_set_zero.ok sc_set_zero bd_set_zero (fun vs H Q E h => ?_) (fun f cdv A outer s H vs Q E hr h => ?_)
  · obtain ⟨L, D, a, rfl, _⟩ := h; rfl
  · obtain ⟨L, D, a, rfl, hY, pl, d⟩ := h
    refine ⟨_, (pss_cons (ps_if (pt_not (pt_val (pm0 (pv 0) T.Plate.cl (ok_Plate_is_empty T) (hr.mono (by decide))))) (pss_one (ps_ret (pe_lst (pa_cons (pgi T.g_NOT_NOW) pa_nil)))) pss_nil) (pss_cons (ps_set (i := 1) sc_set_zero.nd rfl (Or.inl rfl) (pm (pv 0) T.Plate.cl (ok_Plate_feels T) (hr.mono (by decide)) (pa_cons pe_int pa_nil))) (pss_cons (ps_set (i := 2) sc_set_zero.nd rfl (Or.inl rfl) (pe_op op_add (pv 1) (pe_fld (pv 0) rfl))) (pss_cons (ps_if (pt_cmpR op_gt (pe_op op_mul (pb call_abs T.b_abs bt_abs (pa_cons (pv 2) pa_nil)) (pgi T.g_ZERO_PART)) (pe_fld (pv 0) rfl) (nomark _)) (pss_one (ps_ret (pe_lst (pa_cons (pgi T.g_NOT_SO_MUCH) pa_nil)))) pss_nil) (pss_cons (ps_fld (pv 0) (pv 2) rfl) (pss_one (ps_ret (pe_lst (pa_cons pe_int (pa_cons (pv 1) pa_nil)))))))))), ?_⟩
    simp only [Kv319.Abs.does] at d
    refine ⟨_, rfl, (L .plate), (D .plate), _, rfl, hY.plate, rfl, _, a, rfl, hY.plateAt, _, rfl, ite2 (fun c => ?_) (fun c => ?_)⟩
    · rw [if_pos (empB.mp c)] at d
      exact ⟨(by show 1 ≤ sizeLine; decide), fun q hq => d.same hY (Same.refl H) rfl hq⟩
    have c1 : ¬ a.load ≠ [] := fun z => c (empB.mpr z)
    rw [if_neg c1] at d
    refine ⟨_, rfl, (L .plate), (D .plate), _, rfl, hY.plate, rfl, _, a, _, rfl, hY.plateAt, pl, ?_⟩
    refine ⟨_, rfl, _, rfl, (L .plate), cs.Plate, (D .plate), _, _, rfl, hY.plate, T.Plate.cl, T.Plate.n_zero, rfl, _, _, rfl, rfl, ?_⟩
    have ef : feelsI a 0 = a.feels 0 := rfl
    have em : ((a.most : Nat) : Int) = (a.step : Int) * (a.steps : Int) := by unfold Kv319.Abs.most; rw [Int.natCast_mul]
    refine ⟨_, rfl, _, rfl, _, _, rfl, rfl, .inr ⟨by decide, by decide⟩, _, rfl, (L .plate), cs.Plate, (D .plate), _, _, rfl, hY.plate, T.Plate.cl, T.Plate.n_capacity, rfl, _, _, rfl, rfl, _, rfl, ite2 (fun c => ?_) (fun c => ?_)⟩
    · have c := of_decide_eq_true c
      rw [abs_nat, ef, ← em] at c
      rw [if_pos (by omega)] at d
      exact ⟨(by show 1 ≤ sizeLine; decide), fun q hq => d.same hY (Same.refl H) rfl hq⟩
    have c2 : ¬ (a.step : Int) * (a.steps : Int) < (if feelsI a 0 + a.zero < 0 then -(feelsI a 0 + a.zero) else feelsI a 0 + a.zero) * 50 := fun h => c (decide_eq_true h)
    rw [abs_nat, ef, ← em] at c2
    rw [if_neg (by omega)] at d
    refine ⟨_, rfl, _, rfl, (L .plate), cs.Plate, (D .plate), _, rfl, hY.plate, T.Plate.cl, T.Plate.n_zero, (by show 6 < 1000; decide), _, rfl, (by show 2 ≤ sizeLine; decide), fun q hq => ?_⟩
    obtain ⟨hY2, st2⟩ := hY.setErr (g := a.gain) (o := a.offset) (z := a.zero + a.feels 0) (H' := upd H (L .plate) (.ins cs.Plate (D .plate) (putF "zero" (.int (feelsI a 0 + a.zero)) (pfs a (L .axl))))) (by rw [upd_same, ef, Int.add_comm]; rfl) (fun b u e nb => by rw [upd_ne nb]; exact e)
    have s3 := same_new (o := .lst [.int 0, .int (feelsI a 0)]) hq
    exact d _ _ _ q (hY2.same s3) (st2.trans (Step.same s3)) (st2.free hq) upd_same
theorem right_eq (a : Kv319.Abs) (w : Nat) : mayI a (w : Int) = a.right w := by
  unfold mayI Kv319.Abs.right Kv319.Abs.wrong
  refine decide_eq_decide.mpr ?_
  have e1 : feelsI a (w : Int) = a.feels w := rfl
  have e2 : allowedI a (w : Int) = ((a.allowed w : Nat) : Int) := by
    unfold allowedI Kv319.Abs.allowed
    by_cases c : w ≤ 500 * a.step
    · rw [if_pos c, if_pos (by omega)]; rfl
    · rw [if_neg c, if_neg (by omega)]
      by_cases c : w ≤ 2000 * a.step
      · rw [if_pos c, if_pos (by omega)]; rfl
      · rw [if_neg c, if_neg (by omega)]; rfl
  rw [e1, e2, absI, abs_nat, ← Int.natCast_mul]
  omega
def sp_try_weight (K : PySem.W.Frag) (cs : Cs) : Sp := fun vs H Q _ => ∃ L D a w, vs = [.ref (L .plate), nI w] ∧ Y cs H L D a ∧ PlOk a ∧ Did cs H L D a (a.does (.test w)) Q
theorem ok_try_weight {P : Program} {w : World} {K : PySem.W.Frag} {mg : Str → Option Value} {base : Heap} {cs : Cs} (T : Txt K mg cs) : FOk P w K mg base 4 "try_weight" ["plate", "weight"] (sp_try_weight K cs) := by
  refine T.f_try_weight.ok sc_try_weight bd_try_weight (fun vs H Q E h => ?_) (fun f cdv A outer s H vs Q E hr h => ?_)
  · obtain ⟨L, D, a, w, rfl, _⟩ := h; rfl
  · obtain ⟨L, D, a, w, rfl, hY, pl, d⟩ := h
    refine ⟨_, (pss_cons (ps_if (pt_not (pt_val (pm0 (pv 0) T.Plate.cl (ok_Plate_is_empty T) (hr.mono (by decide))))) (pss_one (ps_ret (pe_lst (pa_cons (pgi T.g_NOT_NOW) pa_nil)))) pss_nil) (pss_cons (ps_if (pt_not (pt_chain op_le op_le pe_int (pv 1) (pe_fld (pv 0) rfl))) (pss_one (ps_ret (pe_lst (pa_cons (pgi T.g_OUT_OF_RANGE) pa_nil)))) pss_nil) (pss_cons (ps_set (i := 2) sc_try_weight.nd rfl (Or.inl rfl) (pe_ifExp (pt_val (pm (pv 0) T.Plate.cl (ok_Plate_may_be_wrong T) (hr.mono (by decide)) (pa_cons (pv 1) pa_nil))) pe_int pe_int)) (pss_one (ps_ret (pe_lst (pa_cons (pv 2) (pa_cons (pm (pv 0) T.Plate.cl (ok_Plate_shows T) (hr.mono (by decide)) (pa_cons (pv 1) pa_nil)) (pa_cons (pm (pv 0) T.Plate.cl (ok_Plate_wrong_with T) (hr.mono (by decide)) (pa_cons (pv 1) pa_nil)) pa_nil))))))))), ?_⟩
    simp only [Kv319.Abs.does] at d
    refine ⟨_, rfl, (L .plate), (D .plate), _, rfl, hY.plate, rfl, _, a, rfl, hY.plateAt, _, rfl, ite2 (fun c => ?_) (fun c => ?_)⟩
    · rw [if_pos (empB.mp c)] at d
      exact ⟨(by show 1 ≤ sizeLine; decide), fun q hq => d.same hY (Same.refl H) rfl hq⟩
    have c1 : ¬ a.load ≠ [] := fun z => c (empB.mpr z)
    rw [if_neg c1] at d
    have em : ((a.most : Nat) : Int) = (a.step : Int) * (a.steps : Int) := by unfold Kv319.Abs.most; rw [Int.natCast_mul]
    have no : (w = 0 ∨ a.most < w) → ∀ q, H q = none → Q (.ref q) (upd H q (.lst [.int (-22)])) := fun h q hq => by rw [if_pos h] at d; exact d.same hY (Same.refl H) rfl hq
    refine ⟨_, rfl, _, _, rfl, rfl, _, rfl, ite2 (fun c => ⟨_, rfl, (L .plate), cs.Plate, (D .plate), _, _, rfl, hY.plate, T.Plate.cl, T.Plate.n_capacity, rfl, _, _, rfl, rfl, _, rfl, ite2 (fun c2 => ?_) (fun c2 => ?_)⟩) (fun c => ⟨_, rfl, iteT ⟨(by show 1 ≤ sizeLine; decide), no (.inl ?_)⟩⟩)⟩
    · have c2 : ¬ (w : Int) ≤ (a.step : Int) * (a.steps : Int) := by simpa using c2
      exact ⟨(by show 1 ≤ sizeLine; decide), no (.inr (by omega))⟩
    · have c := of_decide_eq_true c
      have c2 : (w : Int) ≤ (a.step : Int) * (a.steps : Int) := by simpa using c2
      rw [if_neg (by omega), ← right_eq] at d
      refine ⟨_, rfl, (L .plate), (D .plate), _, rfl, hY.plate, rfl, _, rfl, _, a, _, rfl, hY.plateAt, pl, _, rfl, ite2 (fun c => ?_) (fun c => ?_)⟩
      · rw [c] at d
        exact ⟨_, rfl, _, rfl, (L .plate), (D .plate), _, rfl, hY.plate, rfl, _, rfl, _, a, _, rfl, hY.plateAt, pl, _, rfl, (L .plate), (D .plate), _, rfl, hY.plate, rfl, _, rfl, _, a, _, rfl, hY.plateAt, pl, (by show 3 ≤ sizeLine; decide), fun q hq => d.same hY (Same.refl H) rfl hq⟩
      · rw [Bool.eq_false_iff.mpr c] at d
        exact ⟨_, rfl, _, rfl, (L .plate), (D .plate), _, rfl, hY.plate, rfl, _, rfl, _, a, _, rfl, hY.plateAt, pl, _, rfl, (L .plate), (D .plate), _, rfl, hY.plate, rfl, _, rfl, _, a, _, rfl, hY.plateAt, pl, (by show 3 ≤ sizeLine; decide), fun q hq => d.same hY (Same.refl H) rfl hq⟩
    · have : ¬ (1 : Int) ≤ (w : Int) := fun h => c (decide_eq_true h)
      omega
end Wb

end
section
set_option Elab.async false
set_option linter.all false
set_option maxRecDepth 100000
set_option maxHeartbeats 4000000
/-! The calls that set the yard up and let its days pass. -/
namespace Wb
open PySem PySem.Spec PyProof.Rows L2
def rangeI (d n y g : Nat) : Bool := decide (1 ≤ d ∧ d ≤ 100 ∧ 100 ≤ n ∧ n ≤ 5000 ∧ 1 ≤ y ∧ y ≤ 8 ∧ g ≤ 365)
def sp_begin_in_range (K : PySem.W.Frag) (cs : Cs) : Sp := fun vs H Q _ => ∃ d n y g, vs = [nI d, nI n, nI y, nI g] ∧ Q (.bl (rangeI d n y g)) H
theorem band {lo v hi : Int} : ((decide (lo ≤ v) && decide (v ≤ hi)) = true) ↔ (lo ≤ v ∧ v ≤ hi) := by
  rw [Bool.and_eq_true, decide_eq_true_eq, decide_eq_true_eq]
theorem ok_begin_in_range {P : Program} {w : World} {K : PySem.W.Frag} {mg : Str → Option Value} {base : Heap} {cs : Cs} (T : Txt K mg cs) : FOk P w K mg base 1 "begin_in_range" ["step", "steps", "room", "good"] (sp_begin_in_range K cs) := by
  refine T.f_begin_in_range.ok sc_begin_in_range bd_begin_in_range (fun vs H Q E h => ?_) (fun f cdv A outer s H vs Q E hr h => ?_)
  · obtain ⟨d, n, y, g, rfl, _⟩ := h; rfl
  · obtain ⟨d, n, y, g, rfl, q⟩ := h
    refine ⟨_, (pss_one (ps_ret (pe_and (pe_chain op_le op_le pe_int (pv 0) pe_int) (pe_and (pe_chain op_le op_le pe_int (pv 1) pe_int) (pe_and (pe_chain op_le op_le pe_int (pv 2) pe_int) (pe_one (pe_cmpR op_le (pv 3) pe_int (nomark _)))))))), ?_⟩
    have no : ¬ (1 ≤ d ∧ d ≤ 100 ∧ 100 ≤ n ∧ n ≤ 5000 ∧ 1 ≤ y ∧ y ≤ 8 ∧ g ≤ 365) → Q (.bl false) H := fun h => by rw [rangeI, decide_eq_false h] at q; exact q
    refine ⟨_, rfl, _, _, rfl, rfl, _, rfl, chT (ite2 (fun c => ?_) (fun c => ?_))⟩
    case refine_2 => exact no (fun h => c (band.mpr (by omega)))
    have c1 := band.mp c
    refine ⟨_, rfl, _, _, rfl, rfl, _, rfl, chT (ite2 (fun c => ?_) (fun c => ?_))⟩
    case refine_2 => exact no (fun h => c (band.mpr (by omega)))
    have c2 := band.mp c
    refine ⟨_, rfl, _, _, rfl, rfl, _, rfl, chT (ite2 (fun c => ?_) (fun c => ?_))⟩
    case refine_2 => exact no (fun h => c (band.mpr (by omega)))
    have c3 := band.mp c
    refine ⟨_, rfl, _, _, rfl, rfl, ?_⟩
    rw [rangeI, ← show decide ((g : Int) ≤ 365) = decide (1 ≤ d ∧ d ≤ 100 ∧ 100 ≤ n ∧ n ≤ 5000 ∧ 1 ≤ y ∧ y ≤ 8 ∧ g ≤ 365) from decide_eq_decide.mpr (by omega)] at q
    exact q
def sp_add_kind (K : PySem.W.Frag) (cs : Cs) : Sp := fun vs H Q _ => ∃ L D a p w m, vs = [.ref (L .yard), nI p, nI w, nI m] ∧ Y cs H L D a ∧ Ok a ∧ Did cs H L D a (a.does (.kind p w m)) Q
theorem ok_add_kind {P : Program} {w : World} {K : PySem.W.Frag} {mg : Str → Option Value} {base : Heap} {cs : Cs} (T : Txt K mg cs) : FOk P w K mg base 3 "add_kind" ["yard", "price", "wet", "most"] (sp_add_kind K cs) := by
  refine T.f_add_kind.ok sc_add_kind bd_add_kind (fun vs H Q E h => ?_) (fun f cdv A outer s H vs Q E hr h => ?_)
  · obtain ⟨L, D, a, p, w, m, rfl, _⟩ := h; rfl
  · obtain ⟨L, D, a, p, w, m, rfl, hY, ok, d⟩ := h
    refine ⟨_, (pss_cons (ps_if ((pw_or (pt_not (pt_chain op_le op_le pe_int (pv 1) pe_int)) (pw_or (pt_cmpR op_gt (pv 2) pe_int (nomark _)) (pw_or1 (pt_cmpR op_gt (pv 3) pe_int (nomark _)))))).pt (pss_one (ps_ret (pe_lst (pa_cons (pgi T.g_OUT_OF_RANGE) pa_nil)))) pss_nil) (pss_cons (ps_if (pt_cmpR op_ge (pb call_len_seq T.b_len bt_len (pa_cons (pe_fld (pv 0) rfl) pa_nil)) (pgi T.g_MOST_KINDS) (nomark _)) (pss_one (ps_ret (pe_lst (pa_cons (pgi T.g_TOO_MUCH) pa_nil)))) pss_nil) (pss_cons (ps_expr (pe_bm PySem.F.plainAttrs_list PySem.F.slot_list_append PySem.F.type_list_append mt_append (pe_fld (pv 0) rfl) (pa_cons (pk (ok_Goods_init T) (hr.mono (by decide)) T.Goods.mgC (pa_cons (pv 1) (pa_cons (pv 2) (pa_cons (pv 3) pa_nil)))) pa_nil))) (pss_one (ps_ret (pe_lst (pa_cons (pe_op op_sub (pb call_len_seq T.b_len bt_len (pa_cons (pe_fld (pv 0) rfl) pa_nil)) pe_int) pa_nil))))))), ?_⟩
    simp only [Kv319.Abs.does] at d
    have no : (p = 0 ∨ 100000 < p ∨ 50 < w ∨ 10000000 < m) → ∀ q, H q = none → Q (.ref q) (upd H q (.lst [.int (-22)])) := fun h q hq => by rw [if_pos h] at d; exact d.same hY (Same.refl H) rfl hq
    refine ⟨_, rfl, _, _, rfl, rfl, _, rfl, chT (ite2 (fun c => iteT ⟨(by show 1 ≤ sizeLine; decide), no (by have := bnot.mp c; omega)⟩) (fun c => ?_))⟩
    have c1 : ¬ ((p : Int) < 1 ∨ 100000 < (p : Int)) := fun z => c (bnot.mpr z)
    refine ⟨_, rfl, _, _, rfl, rfl, _, rfl, ite2 (fun c => iteT ⟨(by show 1 ≤ sizeLine; decide), no (by have := of_decide_eq_true c; omega)⟩) (fun c => ?_)⟩
    have c2 : ¬ (50 : Int) < (w : Int) := fun z => c (decide_eq_true z)
    refine ⟨_, rfl, _, _, rfl, rfl, _, rfl, ite2 (fun c => ⟨(by show 1 ≤ sizeLine; decide), no (by have := of_decide_eq_true c; omega)⟩) (fun c => ?_)⟩
    have c3 : ¬ (10000000 : Int) < (m : Int) := fun z => c (decide_eq_true z)
    rw [if_neg (by omega)] at d
    refine ⟨_, rfl, (L .yard), cs.Yard, (D .yard), _, _, rfl, hY.yard, T.Yard.cl, T.Yard.n_kinds, rfl, _, _, rfl, .inl (SqL.of hY.kl), _, _, rfl, rfl, _, rfl, ite2 (fun c => ?_) (fun c => ?_)⟩
    · have c := of_decide_eq_true c
      rw [List.length_map, List.length_range] at c
      rw [if_pos (by omega)] at d
      exact ⟨(by show 1 ≤ sizeLine; decide), fun q hq => d.same hY (Same.refl H) rfl hq⟩
    have c4 : ¬ (6 : Int) ≤ ((((List.range a.kinds.length).map fun i => V.ref (L (.kind i))).length : Nat) : Int) := fun z => c (decide_eq_true z)
    rw [List.length_map, List.length_range] at c4
    rw [if_neg (by omega)] at d
    refine ⟨_, rfl, (L .yard), cs.Yard, (D .yard), _, _, rfl, hY.yard, T.Yard.cl, T.Yard.n_kinds, rfl, .inl ⟨rfl, _, SqL.of hY.kl⟩, _, rfl, _, rfl, _, rfl, fun x dx nx nd ndx => ?_⟩
    refine ⟨x, dx, p, w, m, rfl, upd_same, rfl, ?_⟩
    have a1 : L .kl ≠ x := ne_of_none hY.kl nx
    have a2 : L .kl ≠ dx := ne_of_none hY.kl nd
    refine ⟨_, _, _, rfl, rfl, (by rw [upd_ne a1, upd_ne a1, upd_ne a2]; exact hY.kl), (by rw [List.length_map, List.length_range]; exact Nat.lt_of_le_of_lt ok.kl (by decide)), ?_⟩
    obtain ⟨hY2, st2⟩ := hY.addKind (x := x) (dx := dx) (k := ⟨p, w, m, 0⟩) (H' := upd (upd (upd (upd H dx (.own x)) x (.ins cs.Goods dx [])) x (.ins cs.Goods dx (gfs ⟨p, w, m, 0⟩))) (L .kl) (.lst (((List.range a.kinds.length).map fun i => .ref (L (.kind i))) ++ [.ref x])))
      nx rfl (by rw [upd_ne a1.symm, upd_same]) upd_same (fun b o e nb => by rw [upd_ne nb, upd_ne (ne_of_none e nx), upd_ne (ne_of_none e nx), upd_ne (ne_of_none e nd)]; exact e)
    refine ⟨_, rfl, _, cs.Yard, _, _, _, rfl, hY2.yard, T.Yard.cl, T.Yard.n_kinds, rfl, _, _, rfl, .inl (SqL.of hY2.kl), _, _, rfl, rfl, (by show 1 ≤ sizeLine; decide), fun q hq => ?_⟩
    have s3 := same_new (o := .lst [.int ((a.kinds.length : Nat) : Int)]) hq
    have fin := d _ _ _ q (hY2.same s3) (st2.trans (Step.same s3)) (st2.free hq) upd_same
    have e1 : ((((List.range (a.kinds ++ [(⟨p, w, m, 0⟩ : Kv319.Kind)]).length).map fun i => V.ref (ext L (.kind a.kinds.length) x (.kind i))).length : Nat) : Int) - 1 = ((a.kinds.length : Nat) : Int) := by
      rw [List.length_map, List.length_range, List.length_append]; simp
    show Q (.ref q) (upd _ q (.lst [.int (((((List.range (a.kinds ++ [(⟨p, w, m, 0⟩ : Kv319.Kind)]).length).map fun i => V.ref (ext L (.kind a.kinds.length) x (.kind i))).length : Nat) : Int) - 1)]))
    rw [e1]
    exact fin
def sp_add_lorry (K : PySem.W.Frag) (cs : Cs) : Sp := fun vs H Q _ => ∃ L D a x g, vs = [.ref (L .yard), nI x, nI g] ∧ Y cs H L D a ∧ Ok a ∧ Did cs H L D a (a.does (.lorry x g)) Q
theorem ok_add_lorry {P : Program} {w : World} {K : PySem.W.Frag} {mg : Str → Option Value} {base : Heap} {cs : Cs} (T : Txt K mg cs) : FOk P w K mg base 3 "add_lorry" ["yard", "axle", "gross"] (sp_add_lorry K cs) := by
  refine T.f_add_lorry.ok sc_add_lorry bd_add_lorry (fun vs H Q E h => ?_) (fun f cdv A outer s H vs Q E hr h => ?_)
  · obtain ⟨L, D, a, p, w, rfl, _⟩ := h; rfl
  · obtain ⟨L, D, a, p, w, rfl, hY, ok, d⟩ := h
    refine ⟨_, (pss_cons (ps_if ((pw_or (pt_not (pt_chain op_le op_le pe_int (pv 1) pe_int)) (pw_or1 (pt_not (pt_chain op_le op_le pe_int (pv 2) pe_int))))).pt (pss_one (ps_ret (pe_lst (pa_cons (pgi T.g_OUT_OF_RANGE) pa_nil)))) pss_nil) (pss_cons (ps_if (pt_cmpR op_ge (pb call_len_seq T.b_len bt_len (pa_cons (pe_fld (pv 0) rfl) pa_nil)) (pgi T.g_MOST_LORRIES) (nomark _)) (pss_one (ps_ret (pe_lst (pa_cons (pgi T.g_TOO_MUCH) pa_nil)))) pss_nil) (pss_cons (ps_expr (pe_bm PySem.F.plainAttrs_list PySem.F.slot_list_append PySem.F.type_list_append mt_append (pe_fld (pv 0) rfl) (pa_cons (pk (ok_Lorry_init T) (hr.mono (by decide)) T.Lorry.mgC (pa_cons (pv 1) (pa_cons (pv 2) pa_nil))) pa_nil))) (pss_one (ps_ret (pe_lst (pa_cons (pe_op op_sub (pb call_len_seq T.b_len bt_len (pa_cons (pe_fld (pv 0) rfl) pa_nil)) pe_int) pa_nil))))))), ?_⟩
    simp only [Kv319.Abs.does] at d
    have no : (p = 0 ∨ 20000 < p ∨ w = 0 ∨ 100000 < w) → ∀ q, H q = none → Q (.ref q) (upd H q (.lst [.int (-22)])) := fun h q hq => by rw [if_pos h] at d; exact d.same hY (Same.refl H) rfl hq
    refine ⟨_, rfl, _, _, rfl, rfl, _, rfl, chT (ite2 (fun c => iteT ⟨(by show 1 ≤ sizeLine; decide), no (by have := bnot.mp c; omega)⟩) (fun c => ?_))⟩
    have c1 : ¬ ((p : Int) < 1 ∨ 20000 < (p : Int)) := fun z => c (bnot.mpr z)
    refine ⟨_, rfl, _, _, rfl, rfl, _, rfl, chT (ite2 (fun c => ⟨(by show 1 ≤ sizeLine; decide), no (by have := bnot.mp c; omega)⟩) (fun c => ?_))⟩
    have c2 : ¬ ((w : Int) < 1 ∨ 100000 < (w : Int)) := fun z => c (bnot.mpr z)
    rw [if_neg (by omega)] at d
    refine ⟨_, rfl, (L .yard), cs.Yard, (D .yard), _, _, rfl, hY.yard, T.Yard.cl, T.Yard.n_lorries, rfl, _, _, rfl, .inl (SqL.of hY.ll), _, _, rfl, rfl, _, rfl, ite2 (fun c => ?_) (fun c => ?_)⟩
    · have c := of_decide_eq_true c
      rw [List.length_map, List.length_range] at c
      rw [if_pos (by omega)] at d
      exact ⟨(by show 1 ≤ sizeLine; decide), fun q hq => d.same hY (Same.refl H) rfl hq⟩
    have c4 : ¬ (12 : Int) ≤ ((((List.range a.lorries.length).map fun i => V.ref (L (.lorry i))).length : Nat) : Int) := fun z => c (decide_eq_true z)
    rw [List.length_map, List.length_range] at c4
    rw [if_neg (by omega)] at d
    refine ⟨_, rfl, (L .yard), cs.Yard, (D .yard), _, _, rfl, hY.yard, T.Yard.cl, T.Yard.n_lorries, rfl, .inl ⟨rfl, _, SqL.of hY.ll⟩, _, rfl, _, rfl, fun x dx nx nd ndx => ?_⟩
    refine ⟨x, dx, p, w, rfl, upd_same, fun tx nt => ⟨rfl, ?_⟩⟩
    have t1 : tx ≠ x := fun e => by rw [e, upd_same] at nt; cases nt
    have t2 : tx ≠ dx := fun e => by rw [e, upd_ne ndx, upd_same] at nt; cases nt
    have nt' : H tx = none := by rw [upd_ne t1, upd_ne t2] at nt; exact nt
    have a1 : L .ll ≠ x := ne_of_none hY.ll nx
    have a2 : L .ll ≠ dx := ne_of_none hY.ll nd
    have a3 : L .ll ≠ tx := ne_of_none hY.ll nt'
    refine ⟨_, _, _, rfl, rfl, (by rw [upd_ne a1, upd_ne a3, upd_ne a1, upd_ne a2]; exact hY.ll), (by rw [List.length_map, List.length_range]; exact Nat.lt_of_le_of_lt ok.ll (by decide)), ?_⟩
    obtain ⟨hY2, st2⟩ := hY.addLorry (x := x) (dx := dx) (tx := tx) (l := ⟨p, w, [], 0⟩) (H' := upd (upd (upd (upd (upd H dx (.own x)) x (.ins cs.Lorry dx [])) tx (.lst [])) x (.ins cs.Lorry dx (lfs ⟨p, w, [], 0⟩ tx))) (L .ll) (.lst (((List.range a.lorries.length).map fun i => .ref (L (.lorry i))) ++ [.ref x])))
      nx nt' t1.symm rfl (by rw [upd_ne a1.symm, upd_same]) (by rw [upd_ne a3.symm, upd_ne t1, upd_same]; rfl) upd_same (fun b o e nb => by rw [upd_ne nb, upd_ne (ne_of_none e nx), upd_ne (ne_of_none e nt'), upd_ne (ne_of_none e nx), upd_ne (ne_of_none e nd)]; exact e)
    refine ⟨_, rfl, _, cs.Yard, _, _, _, rfl, hY2.yard, T.Yard.cl, T.Yard.n_lorries, rfl, _, _, rfl, .inl (SqL.of hY2.ll), _, _, rfl, rfl, (by show 1 ≤ sizeLine; decide), fun q hq => ?_⟩
    have s3 := same_new (o := .lst [.int ((a.lorries.length : Nat) : Int)]) hq
    have fin := d _ _ _ q (hY2.same s3) (st2.trans (Step.same s3)) (st2.free hq) upd_same
    have e1 : ((((List.range (a.lorries ++ [(⟨p, w, [], 0⟩ : Kv319.Lorry)]).length).map fun i => V.ref (ext (ext L (.tares a.lorries.length) tx) (.lorry a.lorries.length) x (.lorry i))).length : Nat) : Int) - 1 = ((a.lorries.length : Nat) : Int) := by
      rw [List.length_map, List.length_range, List.length_append]; simp
    show Q (.ref q) (upd _ q (.lst [.int (((((List.range (a.lorries ++ [(⟨p, w, [], 0⟩ : Kv319.Lorry)]).length).map fun i => V.ref (ext (ext L (.tares a.lorries.length) tx) (.lorry a.lorries.length) x (.lorry i))).length : Nat) : Int) - 1)]))
    rw [e1]
    exact fin
section
variable {cs : Cs} {H H' : Hp} {L D : Tag → Addr} {a : Kv319.Abs}
/-- another day -/
theorem Y.setDay (y : Y cs H L D a) {n : Nat} (here : H' (L .yard) = some (.ins cs.Yard (D .yard) (yfs { a with today := n } L))) (keep : ∀ b u, H b = some u → b ≠ L .yard → H' b = some u) :
    Y cs H' L D { a with today := n } ∧ Step cs H L D a H' L D { a with today := n } := by
  refine y.grow (fun _ => False) (fun u => u = .yard) (fun _ h => h.elim) (fun _ _ h => h.elim) (fun _ _ => rfl) (fun u e => by rw [e]; exact ⟨_, rfl⟩) ?_ (fun b o e h => keep b o e (h _ rfl)) (fun u e => by rw [e]; exact ⟨_, here⟩) ?_
  · intro u _ m
    cases u with
    | yard => exact absurd rfl m
    | _ => rfl
  · rintro u o (e | e) q
    · exact e.elim
    · subst e
      rw [here, ← q]; rfl
end
def sp_pass_days (K : PySem.W.Frag) (cs : Cs) : Sp := fun vs H Q _ => ∃ L D a n, vs = [.ref (L .yard), nI n] ∧ Y cs H L D a ∧ Did cs H L D a (a.does (.days n)) Q
theorem ok_pass_days {P : Program} {w : World} {K : PySem.W.Frag} {mg : Str → Option Value} {base : Heap} {cs : Cs} (T : Txt K mg cs) : FOk P w K mg base 1 "pass_days" ["yard", "days"] (sp_pass_days K cs) := by
  refine T.f_pass_days.ok sc_pass_days bd_pass_days (fun vs H Q E h => ?_) (fun f cdv A outer s H vs Q E hr h => ?_)
  · obtain ⟨L, D, a, n, rfl, _⟩ := h; rfl
  · obtain ⟨L, D, a, n, rfl, hY, d⟩ := h
    refine ⟨_, (pss_cons (ps_if (pt_not (pt_chain op_le op_le pe_int (pv 1) pe_int)) (pss_one (ps_ret (pe_lst (pa_cons (pgi T.g_OUT_OF_RANGE) pa_nil)))) pss_nil) (pss_cons (ps_fld (pv 0) (pe_op op_add (pe_fld (pv 0) rfl) (pv 1)) rfl) (pss_one (ps_ret (pe_lst (pa_cons (pe_fld (pv 0) rfl) pa_nil)))))), ?_⟩
    simp only [Kv319.Abs.does] at d
    refine ⟨_, rfl, _, _, rfl, rfl, _, rfl, chT (ite2 (fun c => ?_) (fun c => ?_))⟩
    · have c := bnot.mp c
      rw [if_pos (by omega)] at d
      exact ⟨(by show 1 ≤ sizeLine; decide), fun q hq => d.same hY (Same.refl H) rfl hq⟩
    have c1 : ¬ ((n : Int) < 1 ∨ 400 < (n : Int)) := fun z => c (bnot.mpr z)
    rw [if_neg (by omega)] at d
    have e1 : (a.today : Int) + (n : Int) = ((a.today + n : Nat) : Int) := by omega
    have e2 : putF "day" (.int ((a.today : Int) + (n : Int))) (yfs a L) = yfs { a with today := a.today + n } L := by rw [e1]; rfl
    obtain ⟨hY2, st2⟩ := hY.setDay (n := a.today + n) (H' := upd H (L .yard) (.ins cs.Yard (D .yard) (putF "day" (.int ((a.today : Int) + (n : Int))) (yfs a L)))) (by rw [upd_same, e2]) (fun b u e nb => by rw [upd_ne nb]; exact e)
    refine ⟨_, rfl, (L .yard), cs.Yard, (D .yard), _, _, rfl, hY.yard, T.Yard.cl, T.Yard.n_day, rfl, _, rfl, _, _, rfl, rfl, _, rfl, (L .yard), cs.Yard, (D .yard), _, rfl, hY.yard, T.Yard.cl, T.Yard.n_day, (by show 7 < 1000; decide), ?_⟩
    refine ⟨_, rfl, (L .yard), cs.Yard, (D .yard), _, _, rfl, upd_same, T.Yard.cl, T.Yard.n_day, rfl, (by show 1 ≤ sizeLine; decide), fun q hq => ?_⟩
    have s3 := same_new (o := .lst [.int ((a.today : Int) + (n : Int))]) hq
    exact d _ _ _ q (hY2.same s3) (st2.trans (Step.same s3)) (st2.free hq) (by rw [upd_same]; exact congrArg (fun z => some (HO.lst [V.int z])) e1)
end Wb

end
section
set_option Elab.async false
set_option linter.all false
set_option maxRecDepth 100000
set_option maxHeartbeats 4000000
/-! The calls that look at a lorry's tares, and at what it may weigh. -/
namespace Wb
open PySem PySem.Spec PyProof.Rows L2
def sp_tell_tare (K : PySem.W.Frag) (cs : Cs) : Sp := fun vs H Q _ => ∃ L D a l, vs = [.ref (L .yard), nI l] ∧ Y cs H L D a ∧ Ok a ∧ Did cs H L D a (a.does (.tare l)) Q
theorem ok_tell_tare {P : Program} {w : World} {K : PySem.W.Frag} {mg : Str → Option Value} {base : Heap} {cs : Cs} (T : Txt K mg cs) : FOk P w K mg base 3 "tell_tare" ["yard", "number"] (sp_tell_tare K cs) := by
  refine T.f_tell_tare.ok sc_tell_tare bd_tell_tare (fun vs H Q E h => ?_) (fun f cdv A outer s H vs Q E hr h => ?_)
  · obtain ⟨L, D, a, l, rfl, _⟩ := h; rfl
  · obtain ⟨L, D, a, l, rfl, hY, ok, d⟩ := h
    refine ⟨_, (pss_cons (ps_if (pt_not (pt_val (pm (pv 0) T.Yard.cl (ok_Yard_has_lorry T) (hr.mono (by decide)) (pa_cons (pv 1) pa_nil)))) (pss_one (ps_ret (pe_lst (pa_cons (pgi T.g_NONE_SUCH) pa_nil)))) pss_nil) (pss_cons (ps_set (i := 2) sc_tell_tare.nd rfl (Or.inl rfl) (pe_ix ix_list (pe_fld (pv 0) rfl) (pv 1) (fun _ _ => rfl))) (pss_cons (ps_if (pt_not (pt_val (pm0 (pv 2) T.Lorry.cl (ok_Lorry_has_tare T) (hr.mono (by decide))))) (pss_one (ps_ret (pe_lst (pa_cons (pgi T.g_NOTHING_THERE) pa_nil)))) pss_nil) (pss_one (ps_ret (pe_lst (pa_cons (pm0 (pv 2) T.Lorry.cl (ok_Lorry_last_tare T) (hr.mono (by decide))) (pa_cons (pm (pv 2) T.Lorry.cl (ok_Lorry_tare_age T) (hr.mono (by decide)) (pa_cons (pe_fld (pv 0) rfl) pa_nil)) (pa_cons (pe_ifExp (pt_val (pm (pv 2) T.Lorry.cl (ok_Lorry_has_good_tare T) (hr.mono (by decide)) (pa_cons (pe_fld (pv 0) rfl) (pa_cons (pe_fld (pv 0) rfl) pa_nil)))) pe_int pe_int) pa_nil))))))))), ?_⟩
    refine ⟨_, rfl, (L .yard), (D .yard), _, rfl, hY.yard, rfl, _, rfl, L, D, a, _, rfl, hY, _, rfl, ite2 (fun c => ?_) (fun c => ?_)⟩
    · exact ⟨(by show 1 ≤ sizeLine; decide), fun q hq => d.same hY (Same.refl H) (v := Kv319.say (-2)) (by simp only [Kv319.Abs.does]; rw [if_pos (by simpa using c)]) hq⟩
    have c1 : a.has l = true := by simpa using c
    have hlt : l < a.lorries.length := of_decide_eq_true c1
    have hL := hY.lorry (lorry_some hlt)
    have ht := hY.tares (lorry_some hlt)
    refine ⟨_, rfl, (L .yard), cs.Yard, (D .yard), _, _, rfl, hY.yard, T.Yard.cl, T.Yard.n_lorries, rfl, _, rfl, _, _, _, _, rfl, rfl, SqL.of hY.ll, atI_nat (refs_at hlt), ?_⟩
    refine ⟨_, rfl, _, _, _, rfl, hL, rfl, _, _, _, _, rfl, hL, ht, _, rfl, ite2 (fun c => ?_) (fun c => ?_)⟩
    · have e : (a.lorry l).tares = [] := by simpa using c
      exact ⟨(by show 1 ≤ sizeLine; decide), fun q hq => d.same hY (Same.refl H) (v := Kv319.say (-6)) (by simp [Kv319.Abs.does, c1, e]) hq⟩
    obtain ⟨w0, r, e⟩ : ∃ w0 r, (a.lorry l).tares = w0 :: r := by
      cases e : (a.lorry l).tares with
      | nil => rw [e] at c; exact absurd rfl c
      | cons x r => exact ⟨x, r, rfl⟩
    have key : ∀ b : Bool, goodI (a.lorry l) a.today a.good = b → ∀ q, H q = none → Q (.ref q) (upd H q (.lst [nI w0, .int ((a.today : Int) - ((a.lorry l).day : Int)), .int (if b = true then 1 else 0)])) := fun b hb q hq => by
      have f := d.same hY (Same.refl H) (v := ⟨(w0 : Nat), Kv319.ints [a.today - (a.lorry l).day, Kv319.bit (a.tare l).isSome]⟩) (by simp [Kv319.Abs.does, c1, e]) hq
      have e2 : ((a.today - (a.lorry l).day : Nat) : Int) = (a.today : Int) - ((a.lorry l).day : Int) := by have := (ok.lorry hlt).2; omega
      have e3 : ((Kv319.bit (a.tare l).isSome : Nat) : Int) = if b = true then 1 else 0 := by rw [tare_good, hb]; cases b <;> rfl
      have f : Q (.ref q) (upd H q (.lst [nI w0, .int ((a.today - (a.lorry l).day : Nat) : Int), .int ((Kv319.bit (a.tare l).isSome : Nat) : Int)])) := f
      rw [e2, e3] at f
      exact f
    refine ⟨_, rfl, _, _, _, rfl, hL, rfl, _, _, _, _, w0, r, rfl, hL, ht, e, _, rfl, _, _, _, rfl, hL, rfl, _, rfl, (L .yard), cs.Yard, (D .yard), _, _, rfl, hY.yard, T.Yard.cl, T.Yard.n_day, rfl, _, _, _, _, _, rfl, hL, _, rfl, _, _, _, rfl, hL, rfl, _, rfl, (L .yard), cs.Yard, (D .yard), _, _, rfl, hY.yard, T.Yard.cl, T.Yard.n_day, rfl, _, rfl, (L .yard), cs.Yard, (D .yard), _, _, rfl, hY.yard, T.Yard.cl, T.Yard.n_good, rfl, _, _, _, _, _, _, rfl, hL, ht, _, rfl, ite2 (fun c => ?_) (fun c => ?_)⟩
    · exact ⟨(by show 3 ≤ sizeLine; decide), key true c⟩
    · exact ⟨(by show 3 ≤ sizeLine; decide), key false (by simpa using c)⟩
def sp_tell_odd (K : PySem.W.Frag) (cs : Cs) : Sp := fun vs H Q _ => ∃ L D a l, vs = [.ref (L .yard), nI l] ∧ Y cs H L D a ∧ Ok a ∧ Did cs H L D a (a.does (.odd l)) Q
theorem ok_tell_odd {P : Program} {w : World} {K : PySem.W.Frag} {mg : Str → Option Value} {base : Heap} {cs : Cs} (T : Txt K mg cs) : FOk P w K mg base 3 "tell_odd" ["yard", "number"] (sp_tell_odd K cs) := by
  refine T.f_tell_odd.ok sc_tell_odd bd_tell_odd (fun vs H Q E h => ?_) (fun f cdv A outer s H vs Q E hr h => ?_)
  · obtain ⟨L, D, a, l, rfl, _⟩ := h; rfl
  · obtain ⟨L, D, a, l, rfl, hY, ok, d⟩ := h
    refine ⟨_, (pss_cons (ps_if (pt_not (pt_val (pm (pv 0) T.Yard.cl (ok_Yard_has_lorry T) (hr.mono (by decide)) (pa_cons (pv 1) pa_nil)))) (pss_one (ps_ret (pe_lst (pa_cons (pgi T.g_NONE_SUCH) pa_nil)))) pss_nil) (pss_cons (ps_set (i := 2) sc_tell_odd.nd rfl (Or.inl rfl) (pe_ix ix_list (pe_fld (pv 0) rfl) (pv 1) (fun _ _ => rfl))) (pss_cons (ps_if (pt_not (pt_val (pm0 (pv 2) T.Lorry.cl (ok_Lorry_has_two_tares T) (hr.mono (by decide))))) (pss_one (ps_ret (pe_lst (pa_cons (pgi T.g_NOTHING_THERE) pa_nil)))) pss_nil) (pss_one (ps_ret (pe_lst (pa_cons (pe_ifExp (pt_val (pm0 (pv 2) T.Lorry.cl (ok_Lorry_has_odd_tare T) (hr.mono (by decide)))) pe_int pe_int) (pa_cons (pm0 (pv 2) T.Lorry.cl (ok_Lorry_tare_change T) (hr.mono (by decide))) pa_nil)))))))), ?_⟩
    refine ⟨_, rfl, (L .yard), (D .yard), _, rfl, hY.yard, rfl, _, rfl, L, D, a, _, rfl, hY, _, rfl, ite2 (fun c => ?_) (fun c => ?_)⟩
    · exact ⟨(by show 1 ≤ sizeLine; decide), fun q hq => d.same hY (Same.refl H) (v := Kv319.say (-2)) (by simp only [Kv319.Abs.does]; rw [if_pos (by simpa using c)]) hq⟩
    have c1 : a.has l = true := by simpa using c
    have hlt : l < a.lorries.length := of_decide_eq_true c1
    have hL := hY.lorry (lorry_some hlt)
    have ht := hY.tares (lorry_some hlt)
    have h2 := (ok.lorry hlt).1
    refine ⟨_, rfl, (L .yard), cs.Yard, (D .yard), _, _, rfl, hY.yard, T.Yard.cl, T.Yard.n_lorries, rfl, _, rfl, _, _, _, _, rfl, rfl, SqL.of hY.ll, atI_nat (refs_at hlt), ?_⟩
    refine ⟨_, rfl, _, _, _, rfl, hL, rfl, _, _, _, _, rfl, hL, ht, _, rfl, ite2 (fun c => ?_) (fun c => ?_)⟩
    · have e : ¬ (a.lorry l).tares.length = 2 := by simpa using c
      refine ⟨(by show 1 ≤ sizeLine; decide), fun q hq => d.same hY (Same.refl H) (v := Kv319.say (-6)) ?_ hq⟩
      cases e2 : (a.lorry l).tares with
      | nil => simp [Kv319.Abs.does, c1, e2]
      | cons x r =>
        cases r with
        | nil => simp [Kv319.Abs.does, c1, e2]
        | cons y r => rw [e2] at e h2; simp only [List.length_cons] at e h2; omega
    have c2 : (a.lorry l).tares.length = 2 := by simpa using c
    obtain ⟨v, w0, e⟩ : ∃ v w0, (a.lorry l).tares = [v, w0] := by
      cases e2 : (a.lorry l).tares with
      | nil => rw [e2] at c2; cases c2
      | cons x r =>
        cases r with
        | nil => rw [e2] at c2; cases c2
        | cons y r =>
          cases r with
          | nil => exact ⟨x, y, rfl⟩
          | cons z r => rw [e2] at c2; simp only [List.length_cons] at c2; omega
    have key : ∀ b : Bool, oddI v w0 = b → ∀ q, H q = none → Q (.ref q) (upd H q (.lst [.int (if b = true then 1 else 0), .int ((v : Int) - (w0 : Int))])) := fun b hb q hq => by
      have f := d.same hY (Same.refl H) (v := ⟨(Kv319.bit (oddI v w0) : Nat), [(v : Int) - (w0 : Int)]⟩) (by simp [Kv319.Abs.does, c1, e, oddI]) hq
      have e3 : ((Kv319.bit (oddI v w0) : Nat) : Int) = if b = true then 1 else 0 := by rw [hb]; cases b <;> rfl
      have f : Q (.ref q) (upd H q (.lst [.int ((Kv319.bit (oddI v w0) : Nat) : Int), .int ((v : Int) - (w0 : Int))])) := f
      rw [e3] at f
      exact f
    refine ⟨_, rfl, _, _, _, rfl, hL, rfl, _, _, _, _, v, w0, rfl, hL, ht, e, _, rfl, ite2 (fun c => ?_) (fun c => ?_)⟩
    · exact ⟨_, rfl, _, _, _, rfl, hL, rfl, _, _, _, _, v, w0, rfl, hL, ht, e, (by show 2 ≤ sizeLine; decide), key true c⟩
    · exact ⟨_, rfl, _, _, _, rfl, hL, rfl, _, _, _, _, v, w0, rfl, hL, ht, e, (by show 2 ≤ sizeLine; decide), key false (by simpa using c)⟩
def weighedI (a : Kv319.Abs) (l : Nat) : Int := if (!a.has l) = true then -2 else a.why
theorem weighed0 {a : Kv319.Abs} {l : Nat} (h : weighedI a l = 0) : a.has l = true ∧ a.why = 0 := by
  unfold weighedI at h
  by_cases c : (!a.has l) = true
  · rw [if_pos c] at h; omega
  · rw [if_neg c] at h; exact ⟨by simpa using c, h⟩
def sp_weighed_refusal (K : PySem.W.Frag) (cs : Cs) : Sp := fun vs H Q _ => ∃ L D a l, vs = [.ref (L .yard), nI l] ∧ Y cs H L D a ∧ PlOk a ∧ Q (.int (weighedI a l)) H
theorem ok_weighed_refusal {P : Program} {w : World} {K : PySem.W.Frag} {mg : Str → Option Value} {base : Heap} {cs : Cs} (T : Txt K mg cs) : FOk P w K mg base 6 "weighed_refusal" ["yard", "number"] (sp_weighed_refusal K cs) := by
  refine T.f_weighed_refusal.ok sc_weighed_refusal bd_weighed_refusal (fun vs H Q E h => ?_) (fun f cdv A outer s H vs Q E hr h => ?_)
  · obtain ⟨L, D, a, l, rfl, _⟩ := h; rfl
  · obtain ⟨L, D, a, l, rfl, hY, pl, q⟩ := h
    refine ⟨_, (pss_cons (ps_if (pt_not (pt_val (pm (pv 0) T.Yard.cl (ok_Yard_has_lorry T) (hr.mono (by decide)) (pa_cons (pv 1) pa_nil)))) (pss_one (ps_ret (pgi T.g_NONE_SUCH))) pss_nil) (pss_one (ps_ret (pm0 (pe_fld (pv 0) rfl) T.Plate.cl (ok_Plate_weighing_refusal T) (hr.mono (by decide)))))), ?_⟩
    unfold weighedI at q
    refine ⟨_, rfl, (L .yard), (D .yard), _, rfl, hY.yard, rfl, _, rfl, L, D, a, _, rfl, hY, _, rfl, ite2 (fun c => ?_) (fun c => ?_)⟩
    · rw [if_pos c] at q; exact q
    · rw [if_neg c] at q
      exact ⟨_, rfl, (L .yard), cs.Yard, (D .yard), _, _, rfl, hY.yard, T.Yard.cl, T.Yard.n_plate, rfl, (L .plate), (D .plate), _, rfl, hY.plate, rfl, _, a, rfl, hY.plateAt, pl, q⟩
def sp_tell_excess (K : PySem.W.Frag) (cs : Cs) : Sp := fun vs H Q _ => ∃ L D a l, vs = [.ref (L .yard), nI l] ∧ Y cs H L D a ∧ Ok a ∧ Did cs H L D a (a.does (.excess l)) Q
theorem ok_tell_excess {P : Program} {w : World} {K : PySem.W.Frag} {mg : Str → Option Value} {base : Heap} {cs : Cs} (T : Txt K mg cs) : FOk P w K mg base 7 "tell_excess" ["yard", "number"] (sp_tell_excess K cs) := by
  refine T.f_tell_excess.ok sc_tell_excess bd_tell_excess (fun vs H Q E h => ?_) (fun f cdv A outer s H vs Q E hr h => ?_)
  · obtain ⟨L, D, a, l, rfl, _⟩ := h; rfl
  · obtain ⟨L, D, a, l, rfl, hY, ok, d⟩ := h
    refine ⟨_, (pss_cons (ps_set (i := 2) sc_tell_excess.nd rfl (Or.inl rfl) (pf (ok_weighed_refusal T) (hr.mono (by decide)) (pa_cons (pv 0) (pa_cons (pv 1) pa_nil)))) (pss_cons (ps_if (pt_cmpR op_ne (pv 2) (pgi T.g_FINE) (nomark _)) (pss_one (ps_ret (pe_lst (pa_cons (pv 2) pa_nil)))) pss_nil) (pss_cons (ps_set (i := 3) sc_tell_excess.nd rfl (Or.inl rfl) (pe_ix ix_list (pe_fld (pv 0) rfl) (pv 1) (fun _ _ => rfl))) (pss_cons (ps_set (i := 4) sc_tell_excess.nd rfl (Or.inl rfl) (pm0 (pe_fld (pv 0) rfl) T.Plate.cl (ok_Plate_reading T) (hr.mono (by decide)))) (pss_cons (ps_set (i := 5) sc_tell_excess.nd rfl (Or.inl rfl) (pe_fld (pe_fld (pv 0) rfl) rfl)) (pss_one (ps_ret (pe_lst (pa_cons (pe_ifExp (pt_val (pm (pv 3) T.Lorry.cl (ok_Lorry_is_too_heavy T) (hr.mono (by decide)) (pa_cons (pv 4) (pa_cons (pv 5) pa_nil)))) pe_int pe_int) (pa_cons (pm (pv 3) T.Lorry.cl (ok_Lorry_gross_above T) (hr.mono (by decide)) (pa_cons (pv 4) pa_nil)) (pa_cons (pm (pv 3) T.Lorry.cl (ok_Lorry_axle_above T) (hr.mono (by decide)) (pa_cons (pv 5) pa_nil)) pa_nil))))))))))), ?_⟩
    refine ⟨_, rfl, _, rfl, L, D, a, l, rfl, hY, ok.pl, ?_⟩
    refine ⟨_, rfl, rfl, _, rfl, ite2 (fun c => ?_) (fun c => ?_)⟩
    · have c := nV.mp c
      refine ⟨_, rfl, (by show 1 ≤ sizeLine; decide), fun q hq => d.same hY (Same.refl H) (v := Kv319.say (weighedI a l)) ?_ hq⟩
      simp only [Kv319.Abs.does]
      unfold weighedI at c ⊢
      by_cases c1 : a.has l = true
      case neg => simp [c1]
      have c2 : ¬ a.why = 0 := by simpa [c1] using c
      simp [c1, c2]
    have e0 : weighedI a l = 0 := Decidable.not_not.mp fun z => c (nV.mpr z)
    obtain ⟨c1, c2⟩ := weighed0 e0
    obtain ⟨ne, hw⟩ := why0 c2
    have hlt : l < a.lorries.length := of_decide_eq_true c1
    have hL := hY.lorry (lorry_some hlt)
    have key : ∀ b : Bool, heavyI (a.lorry l) a.weight a.load = b → ∀ q, H q = none → Q (.ref q) (upd H q (.lst [.int (if b = true then 0 else 1), nI (a.weight - (a.lorry l).gross), nI (a.load.foldl max 0 - (a.lorry l).axle)])) := fun b hb q hq => by
      have f := d.same hY (Same.refl H) (v := ⟨(Kv319.bit (a.legal l) : Nat), Kv319.ints [(a.excess l).1, (a.excess l).2]⟩) (by simp [Kv319.Abs.does, c1, c2]) hq
      have e3 : ((Kv319.bit (a.legal l) : Nat) : Int) = if b = true then 0 else 1 := by
        rw [heavy_legal] at hb
        cases b with
        | true => rw [show a.legal l = false by simpa using hb]; rfl
        | false => rw [show a.legal l = true by simpa using hb]; rfl
      have f : Q (.ref q) (upd H q (.lst [.int ((Kv319.bit (a.legal l) : Nat) : Int), nI (a.weight - (a.lorry l).gross), nI (a.load.foldl max 0 - (a.lorry l).axle)])) := f
      rw [e3] at f
      exact f
    refine ⟨_, rfl, (L .yard), cs.Yard, (D .yard), _, _, rfl, hY.yard, T.Yard.cl, T.Yard.n_lorries, rfl, _, rfl, _, _, _, _, rfl, rfl, SqL.of hY.ll, atI_nat (refs_at hlt), _, rfl, (L .yard), cs.Yard, (D .yard), _, _, rfl, hY.yard, T.Yard.cl, T.Yard.n_plate, rfl, (L .plate), (D .plate), _, rfl, hY.plate, rfl, _, a, rfl, hY.plateAt, ok.pl, _, rfl, (L .yard), cs.Yard, (D .yard), _, _, rfl, hY.yard, T.Yard.cl, T.Yard.n_plate, rfl, (L .plate), cs.Plate, (D .plate), _, _, rfl, hY.plate, T.Plate.cl, T.Plate.n_axles, rfl, ?_⟩
    refine ⟨_, rfl, _, _, _, rfl, hL, rfl, _, rfl, _, rfl, _, _, a.lorry l, _, a.weight, _, a.load, congrArg (fun x => [V.ref (L (.lorry l)), V.int x, V.ref (L .axl)]) (weight_eq hw), hL, hY.axl, ne, _, rfl, ite2 (fun c => ?_) (fun c => ?_)⟩
    · exact ⟨_, rfl, _, _, _, rfl, hL, rfl, _, rfl, _, _, a.lorry l, _, a.weight, congrArg (fun x => [V.ref (L (.lorry l)), V.int x]) (weight_eq hw), hL, _, rfl, _, _, _, rfl, hL, rfl, _, rfl, _, _, a.lorry l, _, _, a.load, rfl, hL, hY.axl, ne, (by show 3 ≤ sizeLine; decide), key true c⟩
    · exact ⟨_, rfl, _, _, _, rfl, hL, rfl, _, rfl, _, _, a.lorry l, _, a.weight, congrArg (fun x => [V.ref (L (.lorry l)), V.int x]) (weight_eq hw), hL, _, rfl, _, _, _, rfl, hL, rfl, _, rfl, _, _, a.lorry l, _, _, a.load, rfl, hL, hY.axl, ne, (by show 3 ≤ sizeLine; decide), key false (by simpa using c)⟩
def sp_tell_fits (K : PySem.W.Frag) (cs : Cs) : Sp := fun vs H Q _ => ∃ L D a l, vs = [.ref (L .yard), nI l] ∧ Y cs H L D a ∧ Ok a ∧ Did cs H L D a (a.does (.fits l)) Q
theorem ok_tell_fits {P : Program} {w : World} {K : PySem.W.Frag} {mg : Str → Option Value} {base : Heap} {cs : Cs} (T : Txt K mg cs) : FOk P w K mg base 7 "tell_fits" ["yard", "number"] (sp_tell_fits K cs) := by
  refine T.f_tell_fits.ok sc_tell_fits bd_tell_fits (fun vs H Q E h => ?_) (fun f cdv A outer s H vs Q E hr h => ?_)
  · obtain ⟨L, D, a, l, rfl, _⟩ := h; rfl
  · obtain ⟨L, D, a, l, rfl, hY, ok, d⟩ := h
    refine ⟨_, (pss_cons (ps_set (i := 2) sc_tell_fits.nd rfl (Or.inl rfl) (pf (ok_weighed_refusal T) (hr.mono (by decide)) (pa_cons (pv 0) (pa_cons (pv 1) pa_nil)))) (pss_cons (ps_if (pt_cmpR op_ne (pv 2) (pgi T.g_FINE) (nomark _)) (pss_one (ps_ret (pe_lst (pa_cons (pv 2) pa_nil)))) pss_nil) (pss_one (ps_ret (pe_lst (pa_cons (pm (pe_ix ix_list (pe_fld (pv 0) rfl) (pv 1) (fun _ _ => rfl)) T.Lorry.cl (ok_Lorry_gross_left T) (hr.mono (by decide)) (pa_cons (pm0 (pe_fld (pv 0) rfl) T.Plate.cl (ok_Plate_reading T) (hr.mono (by decide))) pa_nil)) pa_nil)))))), ?_⟩
    refine ⟨_, rfl, _, rfl, L, D, a, l, rfl, hY, ok.pl, ?_⟩
    refine ⟨_, rfl, rfl, _, rfl, ite2 (fun c => ?_) (fun c => ?_)⟩
    · have c := nV.mp c
      refine ⟨_, rfl, (by show 1 ≤ sizeLine; decide), fun q hq => d.same hY (Same.refl H) (v := Kv319.say (weighedI a l)) ?_ hq⟩
      simp only [Kv319.Abs.does]
      unfold weighedI at c ⊢
      by_cases c1 : a.has l = true
      case neg => simp [c1]
      have c2 : ¬ a.why = 0 := by simpa [c1] using c
      simp [c1, c2]
    have e0 : weighedI a l = 0 := Decidable.not_not.mp fun z => c (nV.mpr z)
    obtain ⟨c1, c2⟩ := weighed0 e0
    obtain ⟨ne, hw⟩ := why0 c2
    have hlt : l < a.lorries.length := of_decide_eq_true c1
    have hL := hY.lorry (lorry_some hlt)
    refine ⟨_, rfl, (L .yard), cs.Yard, (D .yard), _, _, rfl, hY.yard, T.Yard.cl, T.Yard.n_lorries, rfl, _, rfl, _, _, _, _, rfl, rfl, SqL.of hY.ll, atI_nat (refs_at hlt), _, _, _, rfl, hL, rfl, _, rfl, (L .yard), cs.Yard, (D .yard), _, _, rfl, hY.yard, T.Yard.cl, T.Yard.n_plate, rfl, (L .plate), (D .plate), _, rfl, hY.plate, rfl, _, a, rfl, hY.plateAt, ok.pl, _, _, a.lorry l, _, a.weight, congrArg (fun x => [V.ref (L (.lorry l)), V.int x]) (weight_eq hw), hL, (by show 1 ≤ sizeLine; decide), fun q hq => ?_⟩
    exact d.same hY (Same.refl H) (v := Kv319.say ((a.lorry l).gross - a.weight : Nat)) (by simp [Kv319.Abs.does, c1, c2]) hq
end Wb

end
section
set_option Elab.async false
set_option linter.all false
set_option maxRecDepth 100000
set_option maxHeartbeats 4000000
/-! The calls that tell of goods, tickets and the whole yard. -/
namespace Wb
open PySem PySem.Spec PyProof.Rows L2
theorem len_nL (l : List Nat) : ((l.map Int.ofNat).map V.int).length = l.length := by rw [List.length_map, List.length_map]
def sp_tell_dry (K : PySem.W.Frag) (cs : Cs) : Sp := fun vs H Q _ => ∃ L D a k n m, vs = [.ref (L .yard), nI k, nI n, nI m] ∧ Y cs H L D a ∧ Ok a ∧ Did cs H L D a (a.does (.dry k n m)) Q
theorem ok_tell_dry {P : Program} {w : World} {K : PySem.W.Frag} {mg : Str → Option Value} {base : Heap} {cs : Cs} (T : Txt K mg cs) : FOk P w K mg base 2 "tell_dry" ["yard", "kind", "net", "moist"] (sp_tell_dry K cs) := by
  refine T.f_tell_dry.ok sc_tell_dry bd_tell_dry (fun vs H Q E h => ?_) (fun f cdv A outer s H vs Q E hr h => ?_)
  · obtain ⟨L, D, a, k, n, m, rfl, _⟩ := h; rfl
  · obtain ⟨L, D, a, k, n, m, rfl, hY, ok, d⟩ := h
    refine ⟨_, (pss_cons (ps_if (pt_not (pt_val (pm (pv 0) T.Yard.cl (ok_Yard_has_kind T) (hr.mono (by decide)) (pa_cons (pv 1) pa_nil)))) (pss_one (ps_ret (pe_lst (pa_cons (pgi T.g_NONE_SUCH) pa_nil)))) pss_nil) (pss_cons (ps_if ((pw_or (pt_cmpR op_gt (pv 2) (pgi T.g_MOST_NET) (nomark _)) (pw_or1 (pt_cmpR op_gt (pv 3) (pgi T.g_MOST_MOIST) (nomark _))))).pt (pss_one (ps_ret (pe_lst (pa_cons (pgi T.g_OUT_OF_RANGE) pa_nil)))) pss_nil) (pss_cons (ps_set (i := 4) sc_tell_dry.nd rfl (Or.inl rfl) (pe_ix ix_list (pe_fld (pv 0) rfl) (pv 1) (fun _ _ => rfl))) (pss_cons (ps_set (i := 5) sc_tell_dry.nd rfl (Or.inl rfl) (pm (pv 4) T.Goods.cl (ok_Goods_paid_for T) (hr.mono (by decide)) (pa_cons (pv 2) (pa_cons (pv 3) pa_nil)))) (pss_one (ps_ret (pe_lst (pa_cons (pv 5) (pa_cons (pm (pv 4) T.Goods.cl (ok_Goods_amount_for T) (hr.mono (by decide)) (pa_cons (pv 5) pa_nil)) pa_nil))))))))), ?_⟩
    refine ⟨_, rfl, (L .yard), (D .yard), _, rfl, hY.yard, rfl, _, rfl, L, D, a, _, rfl, hY, _, rfl, ite2 (fun c => ?_) (fun c => ?_)⟩
    · exact ⟨(by show 1 ≤ sizeLine; decide), fun q hq => d.same hY (Same.refl H) (v := Kv319.say (-2)) (by simp only [Kv319.Abs.does]; rw [if_pos (by simpa using c)]) hq⟩
    have c1 : a.hasK k = true := by simpa using c
    have hlt : k < a.kinds.length := of_decide_eq_true c1
    have hK := hY.kind (kind_some hlt)
    have no : (1000000 < n ∨ 100 < m) → ∀ q, H q = none → Q (.ref q) (upd H q (.lst [.int (-22)])) := fun h q hq => d.same hY (Same.refl H) (v := Kv319.say (-22)) (by simp only [Kv319.Abs.does]; rw [if_neg (by rw [c1]; exact Bool.noConfusion), if_pos h]) hq
    refine ⟨_, rfl, _, _, rfl, rfl, _, rfl, ite2 (fun c => iteT ?_) (fun c => ?_)⟩
    · have c := of_decide_eq_true c
      exact ⟨(by show 1 ≤ sizeLine; decide), no (by omega)⟩
    have c2 : ¬ (1000000 : Int) < (n : Int) := fun h => c (decide_eq_true h)
    refine ⟨_, rfl, _, _, rfl, rfl, _, rfl, ite2 (fun c => ?_) (fun c => ?_)⟩
    · have c := of_decide_eq_true c
      exact ⟨(by show 1 ≤ sizeLine; decide), no (by omega)⟩
    have c3 : ¬ (100 : Int) < (m : Int) := fun h => c (decide_eq_true h)
    obtain ⟨b1, b2, b3⟩ := ok.kind hlt
    refine ⟨_, rfl, (L .yard), cs.Yard, (D .yard), _, _, rfl, hY.yard, T.Yard.cl, T.Yard.n_kinds, rfl, _, rfl, _, _, _, _, rfl, rfl, SqL.of hY.kl, atI_nat (refs_at hlt), ?_⟩
    refine ⟨_, rfl, _, _, _, rfl, hK, rfl, _, rfl, _, rfl, _, _, _, n, m, rfl, hK, b2, (by omega), _, rfl, _, rfl, _, _, _, rfl, hK, rfl, _, rfl, _, _, _, _, rfl, hK, b1, (by show 2 ≤ sizeLine; decide), fun q hq => ?_⟩
    exact d.same hY (Same.refl H) (v := ⟨(Kv319.dry n m (a.kind k).wet : Nat), [(Kv319.cost (a.kind k).price (Kv319.dry n m (a.kind k).wet) : Nat)]⟩) (by simp only [Kv319.Abs.does]; rw [if_neg (by rw [c1]; exact Bool.noConfusion), if_neg (by omega)]) hq
def sp_tell_stock (K : PySem.W.Frag) (cs : Cs) : Sp := fun vs H Q _ => ∃ L D a k, vs = [.ref (L .yard), nI k] ∧ Y cs H L D a ∧ Ok a ∧ Did cs H L D a (a.does (.stock k)) Q
theorem ok_tell_stock {P : Program} {w : World} {K : PySem.W.Frag} {mg : Str → Option Value} {base : Heap} {cs : Cs} (T : Txt K mg cs) : FOk P w K mg base 2 "tell_stock" ["yard", "kind"] (sp_tell_stock K cs) := by
  refine T.f_tell_stock.ok sc_tell_stock bd_tell_stock (fun vs H Q E h => ?_) (fun f cdv A outer s H vs Q E hr h => ?_)
  · obtain ⟨L, D, a, k, rfl, _⟩ := h; rfl
  · obtain ⟨L, D, a, k, rfl, hY, ok, d⟩ := h
    refine ⟨_, (pss_cons (ps_if (pt_not (pt_val (pm (pv 0) T.Yard.cl (ok_Yard_has_kind T) (hr.mono (by decide)) (pa_cons (pv 1) pa_nil)))) (pss_one (ps_ret (pe_lst (pa_cons (pgi T.g_NONE_SUCH) pa_nil)))) pss_nil) (pss_cons (ps_set (i := 2) sc_tell_stock.nd rfl (Or.inl rfl) (pe_ix ix_list (pe_fld (pv 0) rfl) (pv 1) (fun _ _ => rfl))) (pss_one (ps_ret (pe_lst (pa_cons (pe_fld (pv 2) rfl) (pa_cons (pm0 (pv 2) T.Goods.cl (ok_Goods_room_left T) (hr.mono (by decide))) pa_nil))))))), ?_⟩
    refine ⟨_, rfl, (L .yard), (D .yard), _, rfl, hY.yard, rfl, _, rfl, L, D, a, _, rfl, hY, _, rfl, ite2 (fun c => ?_) (fun c => ?_)⟩
    · exact ⟨(by show 1 ≤ sizeLine; decide), fun q hq => d.same hY (Same.refl H) (v := Kv319.say (-2)) (by simp only [Kv319.Abs.does]; rw [if_pos (by simpa using c)]) hq⟩
    have c1 : a.hasK k = true := by simpa using c
    have hlt : k < a.kinds.length := of_decide_eq_true c1
    have hK := hY.kind (kind_some hlt)
    obtain ⟨b1, b2, b3⟩ := ok.kind hlt
    refine ⟨_, rfl, (L .yard), cs.Yard, (D .yard), _, _, rfl, hY.yard, T.Yard.cl, T.Yard.n_kinds, rfl, _, rfl, _, _, _, _, rfl, rfl, SqL.of hY.kl, atI_nat (refs_at hlt), ?_⟩
    refine ⟨_, rfl, _, cs.Goods, _, _, _, rfl, hK, T.Goods.cl, T.Goods.n_stock, rfl, _, rfl, _, _, _, rfl, hK, rfl, _, _, _, rfl, hK, (by show 2 ≤ sizeLine; decide), fun q hq => ?_⟩
    have f := d.same hY (Same.refl H) (v := ⟨((a.kind k).stock : Nat), [((a.kind k).most - (a.kind k).stock : Nat)]⟩) (by simp only [Kv319.Abs.does]; rw [if_neg (by rw [c1]; exact Bool.noConfusion)]) hq
    have e2 : (((a.kind k).most - (a.kind k).stock : Nat) : Int) = ((a.kind k).most : Int) - ((a.kind k).stock : Int) := by omega
    have f : Q (.ref q) (upd H q (.lst [nI (a.kind k).stock, .int (((a.kind k).most - (a.kind k).stock : Nat) : Int)])) := f
    rw [e2] at f
    exact f
def sp_tell_enough (K : PySem.W.Frag) (cs : Cs) : Sp := fun vs H Q _ => ∃ L D a k n, vs = [.ref (L .yard), nI k, nI n] ∧ Y cs H L D a ∧ Ok a ∧ Did cs H L D a (a.does (.enough k n)) Q
theorem ok_tell_enough {P : Program} {w : World} {K : PySem.W.Frag} {mg : Str → Option Value} {base : Heap} {cs : Cs} (T : Txt K mg cs) : FOk P w K mg base 2 "tell_enough" ["yard", "kind", "wanted"] (sp_tell_enough K cs) := by
  refine T.f_tell_enough.ok sc_tell_enough bd_tell_enough (fun vs H Q E h => ?_) (fun f cdv A outer s H vs Q E hr h => ?_)
  · obtain ⟨L, D, a, k, n, rfl, _⟩ := h; rfl
  · obtain ⟨L, D, a, k, n, rfl, hY, ok, d⟩ := h
    refine ⟨_, (pss_cons (ps_if (pt_not (pt_val (pm (pv 0) T.Yard.cl (ok_Yard_has_kind T) (hr.mono (by decide)) (pa_cons (pv 1) pa_nil)))) (pss_one (ps_ret (pe_lst (pa_cons (pgi T.g_NONE_SUCH) pa_nil)))) pss_nil) (pss_one (ps_ret (pe_lst (pa_cons (pe_ifExp (pt_cmpR op_ge (pe_fld (pe_ix ix_list (pe_fld (pv 0) rfl) (pv 1) (fun _ _ => rfl)) rfl) (pv 2) (nomark _)) pe_int pe_int) pa_nil))))), ?_⟩
    refine ⟨_, rfl, (L .yard), (D .yard), _, rfl, hY.yard, rfl, _, rfl, L, D, a, _, rfl, hY, _, rfl, ite2 (fun c => ?_) (fun c => ?_)⟩
    · exact ⟨(by show 1 ≤ sizeLine; decide), fun q hq => d.same hY (Same.refl H) (v := Kv319.say (-2)) (by simp only [Kv319.Abs.does]; rw [if_pos (by simpa using c)]) hq⟩
    have c1 : a.hasK k = true := by simpa using c
    have hlt : k < a.kinds.length := of_decide_eq_true c1
    have hK := hY.kind (kind_some hlt)
    refine ⟨_, rfl, (L .yard), cs.Yard, (D .yard), _, _, rfl, hY.yard, T.Yard.cl, T.Yard.n_kinds, rfl, _, rfl, _, _, _, _, rfl, rfl, SqL.of hY.kl, atI_nat (refs_at hlt), _, cs.Goods, _, _, _, rfl, hK, T.Goods.cl, T.Goods.n_stock, rfl, _, rfl, _, _, rfl, rfl, _, rfl, ite2 (fun c => ?_) (fun c => ?_)⟩
    · have c := of_decide_eq_true c
      exact ⟨(by show 1 ≤ sizeLine; decide), fun q hq => d.same hY (Same.refl H) (v := Kv319.say 1) (by simp only [Kv319.Abs.does]; rw [if_neg (by rw [c1]; exact Bool.noConfusion), if_pos (by omega)]) hq⟩
    · have c : ¬ (n : Int) ≤ ((a.kind k).stock : Int) := fun h => c (decide_eq_true h)
      exact ⟨(by show 1 ≤ sizeLine; decide), fun q hq => d.same hY (Same.refl H) (v := Kv319.say 0) (by simp only [Kv319.Abs.does]; rw [if_neg (by rw [c1]; exact Bool.noConfusion), if_neg (by omega)]) hq⟩
def sp_tell_yard (K : PySem.W.Frag) (cs : Cs) : Sp := fun vs H Q _ => ∃ L D a, vs = [.ref (L .yard)] ∧ Y cs H L D a ∧ Ok a ∧ Did cs H L D a (a.does .yard) Q
theorem ok_tell_yard {P : Program} {w : World} {K : PySem.W.Frag} {mg : Str → Option Value} {base : Heap} {cs : Cs} (T : Txt K mg cs) : FOk P w K mg base 2 "tell_yard" ["yard"] (sp_tell_yard K cs) := by
  refine T.f_tell_yard.ok sc_tell_yard bd_tell_yard (fun vs H Q E h => ?_) (fun f cdv A outer s H vs Q E hr h => ?_)
  · obtain ⟨L, D, a, rfl, _⟩ := h; rfl
  · obtain ⟨L, D, a, rfl, hY, ok, d⟩ := h
    refine ⟨_, (pss_cons (ps_set (i := 1) sc_tell_yard.nd rfl (Or.inl rfl) (pm (pv 0) T.Yard.cl (ok_Yard_tickets_in T) (hr.mono (by decide)) (pa_cons (pgi T.g_ON_YARD) pa_nil))) (pss_one (ps_ret (pe_op op_cat (pe_lst (pa_cons (pb call_len_seq T.b_len bt_len (pa_cons (pv 1) pa_nil)) pa_nil)) (pv 1))))), ?_⟩
    refine ⟨_, rfl, (L .yard), (D .yard), _, rfl, hY.yard, rfl, L, D, a, 0, rfl, hY, ok.tl, fun H1 p s1 hp hp1 => ?_⟩
    refine ⟨_, rfl, _, _, rfl, .inl (SqL.of hp1), (by show 1 ≤ sizeLine; decide), fun p2 n2 => ?_⟩
    have s2 := same_new (o := .lst [.int ((((inI a 0).map Int.ofNat).map V.int).length : Nat)]) n2
    refine ⟨_, rfl, _, _, _, _, rfl, rfl, upd_same, s2 _ _ hp1, ?_, fun q hq => ?_⟩
    · rw [len_nL]
      exact Nat.le_trans (show 1 + (inI a 0).length ≤ 61 by have := inI_len a 0; have := ok.tl; omega) (by decide)
    have f := d.same hY (s1.trans s2) (v := Kv319.list a.onYard) rfl hq
    rw [len_nL] at f ⊢
    exact f
def sp_tell_trips (K : PySem.W.Frag) (cs : Cs) : Sp := fun vs H Q _ => ∃ L D a l, vs = [.ref (L .yard), nI l] ∧ Y cs H L D a ∧ Ok a ∧ Did cs H L D a (a.does (.trips l)) Q
theorem trips_eq (a : Kv319.Abs) (l : Nat) : (inI a 1).filter (fun t => (a.ticket t).lorry == l) = (List.range a.tickets.length).filter fun t => (a.ticket t).lorry == l && (a.ticket t).state == 1 := by
  rw [inI, List.filter_filter]
theorem ok_tell_trips {P : Program} {w : World} {K : PySem.W.Frag} {mg : Str → Option Value} {base : Heap} {cs : Cs} (T : Txt K mg cs) : FOk P w K mg base 2 "tell_trips" ["yard", "lorry"] (sp_tell_trips K cs) := by
  refine T.f_tell_trips.ok sc_tell_trips bd_tell_trips (fun vs H Q E h => ?_) (fun f cdv A outer s H vs Q E hr h => ?_)
  · obtain ⟨L, D, a, l, rfl, _⟩ := h; rfl
  · obtain ⟨L, D, a, l, rfl, hY, ok, d⟩ := h
    refine ⟨_, (pss_cons (ps_if (pt_not (pt_val (pm (pv 0) T.Yard.cl (ok_Yard_has_lorry T) (hr.mono (by decide)) (pa_cons (pv 1) pa_nil)))) (pss_one (ps_ret (pe_lst (pa_cons (pgi T.g_NONE_SUCH) pa_nil)))) pss_nil) (pss_cons (ps_setLc (i := 2) (own := [("number", 3)]) (tt := (tTest (tOp rEq (tFld K (tOp (rIxL K) (tFld K (tVar 0) "tickets") (tVar 3)) "lorry") (tVar 1)))) (te := (tVar 3)) (g := (gName 3)) rfl sc_tell_trips.nd rfl rfl (sw_true rfl rfl rfl rfl) (pi_list (pm (pv 0) T.Yard.cl (ok_Yard_tickets_in T) (hr.mono (by decide)) (pa_cons (pgi T.g_DONE) pa_nil))) (blkOk_by (by show blkC ["yard", "lorry", "numbers", "number"] (defScope s_tell_trips) _ [("number", 3)] = true; decide +kernel)) (fun _ _ _ _ _ => (pg_name (i := 3) sc_tell_trips.nd rfl (Or.inl rfl))) (fun _ _ _ _ _ => (pts_one (pt_cmpR op_eq (pe_fld (pe_ix ix_list (pe_fld (pv 0) rfl) (pv 3) (fun _ _ => rfl)) rfl) (pv 1) (nomark _)))) (fun _ _ _ _ _ => (pv 3))) (pss_one (ps_ret (pe_op op_cat (pe_lst (pa_cons (pb call_len_seq T.b_len bt_len (pa_cons (pv 2) pa_nil)) pa_nil)) (pv 2)))))), ?_⟩
    refine ⟨_, rfl, (L .yard), (D .yard), _, rfl, hY.yard, rfl, _, rfl, L, D, a, _, rfl, hY, _, rfl, ite2 (fun c => ?_) (fun c => ?_)⟩
    · exact ⟨(by show 1 ≤ sizeLine; decide), fun q hq => d.same hY (Same.refl H) (v := Kv319.say (-2)) (by simp only [Kv319.Abs.does]; rw [if_pos (by simpa using c)]) hq⟩
    have c1 : a.has l = true := by simpa using c
    refine ⟨_, rfl, (L .yard), (D .yard), _, rfl, hY.yard, rfl, L, D, a, 1, rfl, hY, ok.tl, fun H1 p s1 hp hp1 => ?_⟩
    have hY1 := hY.same s1
    refine ⟨_, rfl, ⟨_, SqL.of hp1⟩, fun Dl hD => ?_⟩
    refine lc_of (ys := inI a 1) (r := nI) (G := fun t => if ((a.ticket t).lorry == l) = true then some (nI t) else none) hD (items_nat hp1) ?_ ?_ ?_
    · exact Nat.lt_of_le_of_lt (Nat.le_trans (inI_len a 1) ok.tl) (by decide)
    · intro t acc Nx ht ha h1 h2
      have hi := inI_lt ht
      have hY2 := hY1.same (same_new (o := .lst acc) hD)
      refine ⟨rfl, _, rfl, (L .yard), cs.Yard, (D .yard), _, _, rfl, hY2.yard, T.Yard.cl, T.Yard.n_tickets, rfl, _, rfl, _, _, _, _, rfl, rfl, SqL.of hY2.tl, atI_nat (refs_at hi), _, cs.Ticket, _, _, _, rfl, hY2.ticket (ticket_some hi), T.Ticket.cl, T.Ticket.n_lorry, rfl, _, rfl, rfl, _, rfl, ite2 (fun c => ?_) (fun c => ?_)⟩
      · have c := dV.mp c
        refine ⟨_, rfl, acc, upd_same, ha, ?_⟩
        rw [upd_upd]
        exact h1 _ (if_pos (by rw [beq_iff_eq]; omega))
      · have c : ¬ ((a.ticket t).lorry : Int) = (l : Int) := fun z => c (dV.mpr z)
        exact h2 (if_neg (by rw [beq_iff_eq]; omega))
    rw [fm_map, trips_eq]
    generalize eT : ((List.range a.tickets.length).filter fun t => (a.ticket t).lorry == l && (a.ticket t).state == 1) = ts
    have hts : ts.length ≤ 60 := by
      rw [← eT]
      refine Nat.le_trans (List.length_filter_le _ _) ?_
      rw [List.length_range]; exact ok.tl
    have s2 := same_new (o := .lst (ts.map nI)) hD
    have h2 : upd H1 Dl (.lst (ts.map nI)) Dl = some (nL ts) := by rw [upd_same, nL, List.map_map]; rfl
    refine ⟨_, rfl, _, _, rfl, .inl (SqL.of h2), (by show 1 ≤ sizeLine; decide), fun p2 n2 => ?_⟩
    have s3 := same_new (o := .lst [.int (((ts.map Int.ofNat).map V.int).length : Nat)]) n2
    refine ⟨_, rfl, _, _, _, _, rfl, rfl, upd_same, s3 _ _ h2, ?_, fun q hq => ?_⟩
    · rw [len_nL]
      exact Nat.le_trans (show 1 + ts.length ≤ 61 by omega) (by decide)
    have f := d.same hY ((s1.trans s2).trans s3) (v := Kv319.list ts) (by simp only [Kv319.Abs.does]; rw [if_neg (by rw [c1]; exact Bool.noConfusion), eT]) hq
    rw [len_nL] at f ⊢
    exact f
def sp_tell_ticket (K : PySem.W.Frag) (cs : Cs) : Sp := fun vs H Q _ => ∃ L D a n, vs = [.ref (L .yard), nI n] ∧ Y cs H L D a ∧ Did cs H L D a (a.does (.look n)) Q
theorem ok_tell_ticket {P : Program} {w : World} {K : PySem.W.Frag} {mg : Str → Option Value} {base : Heap} {cs : Cs} (T : Txt K mg cs) : FOk P w K mg base 2 "tell_ticket" ["yard", "number"] (sp_tell_ticket K cs) := by
  refine T.f_tell_ticket.ok sc_tell_ticket bd_tell_ticket (fun vs H Q E h => ?_) (fun f cdv A outer s H vs Q E hr h => ?_)
  · obtain ⟨L, D, a, n, rfl, _⟩ := h; rfl
  · obtain ⟨L, D, a, n, rfl, hY, d⟩ := h
    refine ⟨_, (pss_cons (ps_if (pt_not (pt_val (pm (pv 0) T.Yard.cl (ok_Yard_has_ticket T) (hr.mono (by decide)) (pa_cons (pv 1) pa_nil)))) (pss_one (ps_ret (pe_lst (pa_cons (pgi T.g_NONE_SUCH) pa_nil)))) pss_nil) (pss_cons (ps_set (i := 2) sc_tell_ticket.nd rfl (Or.inl rfl) (pe_ix ix_list (pe_fld (pv 0) rfl) (pv 1) (fun _ _ => rfl))) (pss_cons (ps_set (i := 3) sc_tell_ticket.nd rfl (Or.inl rfl) (pe_lst (pa_cons (pe_fld (pv 2) rfl) (pa_cons (pe_fld (pv 2) rfl) (pa_cons (pe_fld (pv 2) rfl) pa_nil))))) (pss_cons (ps_set (i := 4) sc_tell_ticket.nd rfl (Or.inl rfl) (pe_lst (pa_cons (pe_fld (pv 2) rfl) (pa_cons (pe_fld (pv 2) rfl) (pa_cons (pe_fld (pv 2) rfl) pa_nil))))) (pss_one (ps_ret (pe_op op_cat (pe_op op_cat (pe_op op_cat (pe_lst (pa_cons (pe_fld (pv 2) rfl) pa_nil)) (pv 3)) (pv 4)) (pe_lst (pa_cons (pe_fld (pv 2) rfl) (pa_cons (pe_fld (pv 2) rfl) pa_nil)))))))))), ?_⟩
    refine ⟨_, rfl, (L .yard), (D .yard), _, rfl, hY.yard, rfl, _, rfl, L, D, a, _, rfl, hY, _, rfl, ite2 (fun c => ?_) (fun c => ?_)⟩
    · have c : ¬ n < a.tickets.length := by simpa using c
      exact ⟨(by show 1 ≤ sizeLine; decide), fun q hq => d.same hY (Same.refl H) (v := Kv319.say (-2)) (by simp only [Kv319.Abs.does]; rw [if_pos (by omega)]) hq⟩
    have hlt : n < a.tickets.length := by simpa using c
    have hk := hY.ticket (ticket_some hlt)
    refine ⟨_, rfl, (L .yard), cs.Yard, (D .yard), _, _, rfl, hY.yard, T.Yard.cl, T.Yard.n_tickets, rfl, _, rfl, _, _, _, _, rfl, rfl, SqL.of hY.tl, atI_nat (refs_at hlt), ?_⟩
    refine ⟨_, rfl, _, cs.Ticket, _, _, _, rfl, hk, T.Ticket.cl, T.Ticket.n_lorry, rfl, _, rfl, _, cs.Ticket, _, _, _, rfl, hk, T.Ticket.cl, T.Ticket.n_kind, rfl, _, rfl, _, cs.Ticket, _, _, _, rfl, hk, T.Ticket.cl, T.Ticket.n_way, rfl, (by show 3 ≤ sizeLine; decide), fun p1 n1 => ?_⟩
    have s1 := same_new (o := .lst [nI (a.ticket n).lorry, nI (a.ticket n).kind, nI (a.ticket n).way]) n1
    have h1 : upd H p1 (.lst [nI (a.ticket n).lorry, nI (a.ticket n).kind, nI (a.ticket n).way]) p1 = some (.lst [nI (a.ticket n).lorry, nI (a.ticket n).kind, nI (a.ticket n).way]) := upd_same
    have hk1 := s1 _ _ hk
    refine ⟨_, rfl, _, cs.Ticket, _, _, _, rfl, hk1, T.Ticket.cl, T.Ticket.n_first, rfl, _, rfl, _, cs.Ticket, _, _, _, rfl, hk1, T.Ticket.cl, T.Ticket.n_second, rfl, _, rfl, _, cs.Ticket, _, _, _, rfl, hk1, T.Ticket.cl, T.Ticket.n_net, rfl, (by show 3 ≤ sizeLine; decide), fun p2 n2 => ?_⟩
    have s2 := same_new (o := .lst [nI (a.ticket n).first, nI (a.ticket n).second, nI (a.ticket n).net]) n2
    have h2 := upd_same (H := upd H p1 (.lst [nI (a.ticket n).lorry, nI (a.ticket n).kind, nI (a.ticket n).way])) (a := p2) (o := .lst [nI (a.ticket n).first, nI (a.ticket n).second, nI (a.ticket n).net])
    have hk2 := s2 _ _ hk1
    have g1 := s2 _ _ h1
    have t2 := s1.trans s2
    refine ⟨_, rfl, _, cs.Ticket, _, _, _, rfl, hk2, T.Ticket.cl, T.Ticket.n_state, rfl, (by show 1 ≤ sizeLine; decide), fun p3 n3 => ?_⟩
    have s3 := same_new (o := .lst [nI (a.ticket n).state]) n3
    have hk3 := s3 _ _ hk2
    have t3 := t2.trans s3
    refine ⟨_, rfl, _, _, _, _, rfl, rfl, upd_same, s3 _ _ g1, (by show 4 ≤ sizeLine; decide), fun p4 n4 => ?_⟩
    have s4 := same_new (o := .lst ([nI (a.ticket n).state] ++ [nI (a.ticket n).lorry, nI (a.ticket n).kind, nI (a.ticket n).way])) n4
    have hk4 := s4 _ _ hk3
    have t4 := t3.trans s4
    refine ⟨_, rfl, _, _, _, _, rfl, rfl, upd_same, s4 _ _ (s3 _ _ h2), (by show 7 ≤ sizeLine; decide), fun p5 n5 => ?_⟩
    have s5 := same_new (o := .lst (([nI (a.ticket n).state] ++ [nI (a.ticket n).lorry, nI (a.ticket n).kind, nI (a.ticket n).way]) ++ [nI (a.ticket n).first, nI (a.ticket n).second, nI (a.ticket n).net])) n5
    have hk5 := s5 _ _ hk4
    have t5 := t4.trans s5
    refine ⟨_, rfl, _, cs.Ticket, _, _, _, rfl, hk5, T.Ticket.cl, T.Ticket.n_paid, rfl, _, rfl, _, cs.Ticket, _, _, _, rfl, hk5, T.Ticket.cl, T.Ticket.n_amount, rfl, (by show 2 ≤ sizeLine; decide), fun p6 n6 => ?_⟩
    have s6 := same_new (o := .lst [nI (a.ticket n).paid, nI (a.ticket n).amount]) n6
    refine ⟨_, _, _, _, rfl, rfl, s6 _ _ upd_same, upd_same, (by show 9 ≤ sizeLine; decide), fun q hq => ?_⟩
    exact d.same hY (t5.trans s6) (v := ⟨((a.ticket n).state : Nat), Kv319.ints [(a.ticket n).lorry, (a.ticket n).kind, (a.ticket n).way, (a.ticket n).first, (a.ticket n).second, (a.ticket n).net, (a.ticket n).paid, (a.ticket n).amount]⟩) (by simp only [Kv319.Abs.does]; rw [if_neg (by omega)]) hq
end Wb

end
section
set_option Elab.async false
set_option linter.all false
set_option maxRecDepth 100000
set_option maxHeartbeats 4000000
/-! The calls that tell sums. -/
namespace Wb
open PySem PySem.Spec PyProof.Rows L2
/-- a list of tickets -/
def tks (L : Tag → Addr) (l : List Nat) : HO := .lst (l.map fun t => V.ref (L (.ticket t)))
def doneI (a : Kv319.Abs) (way : Nat) : List Nat := (inI a 1).filter fun t => (a.ticket t).way == way
theorem doneI_lt {a : Kv319.Abs} {w t : Nat} (h : t ∈ doneI a w) : t < a.tickets.length := inI_lt (List.mem_filter.mp h).1
theorem doneI_len (a : Kv319.Abs) (w : Nat) : (doneI a w).length ≤ a.tickets.length := Nat.le_trans (List.length_filter_le _ _) (inI_len a 1)
def sp_done_tickets (K : PySem.W.Frag) (cs : Cs) : Sp := fun vs H Q _ => ∃ L D a way, vs = [.ref (L .yard), nI way] ∧ Y cs H L D a ∧ a.tickets.length ≤ 60 ∧ ∀ H' p, Same H H' → H p = none → H' p = some (tks L (doneI a way)) → Q (.ref p) H'
theorem ok_done_tickets {P : Program} {w : World} {K : PySem.W.Frag} {mg : Str → Option Value} {base : Heap} {cs : Cs} (T : Txt K mg cs) : FOk P w K mg base 2 "done_tickets" ["yard", "way"] (sp_done_tickets K cs) := by
  refine T.f_done_tickets.ok sc_done_tickets bd_done_tickets (fun vs H Q E h => ?_) (fun f cdv A outer s H vs Q E hr h => ?_)
  · obtain ⟨L, D, a, way, rfl, _⟩ := h; rfl
  · obtain ⟨L, D, a, way, rfl, hY, hz, q⟩ := h
    refine ⟨_, (pss_cons (ps_setLc (i := 2) (own := [("number", 3)]) (tt := tYes) (te := (tOp (rIxL K) (tFld K (tVar 0) "tickets") (tVar 3))) (g := (gName 3)) rfl sc_done_tickets.nd rfl rfl (sw_true rfl rfl rfl rfl) (pi_list (pm (pv 0) T.Yard.cl (ok_Yard_tickets_in T) (hr.mono (by decide)) (pa_cons (pgi T.g_DONE) pa_nil))) (blkOk_by (by show blkC ["yard", "way", "done", "number", "ticket"] (defScope s_done_tickets) _ [("number", 3)] = true; decide +kernel)) (fun _ _ _ _ _ => (pg_name (i := 3) sc_done_tickets.nd rfl (Or.inl rfl))) (fun _ _ _ _ _ => pts_nil) (fun _ _ _ _ _ => (pe_ix ix_list (pe_fld (pv 0) rfl) (pv 3) (fun _ _ => rfl)))) (pss_one (ps_ret (pe_lc (own := [("ticket", 4)]) (tt := (tTest (tOp rEq (tFld K (tVar 4) "way") (tVar 1)))) (te := (tVar 4)) (g := (gName 4)) rfl sc_done_tickets.nd (pi_list (pv 2)) (blkOk_by (by show blkC ["yard", "way", "done", "number", "ticket"] (defScope s_done_tickets) _ [("ticket", 4)] = true; decide +kernel)) (fun _ _ _ _ _ => (pg_name (i := 4) sc_done_tickets.nd rfl (Or.inl rfl))) (fun _ _ _ _ _ => (pts_one (pt_cmpR op_eq (pe_fld (pv 4) rfl) (pv 1) (nomark _)))) (fun _ _ _ _ _ => (pv 4)))))), ?_⟩
    refine ⟨_, rfl, (L .yard), (D .yard), _, rfl, hY.yard, rfl, L, D, a, 1, rfl, hY, hz, fun H1 p s1 hp hp1 => ?_⟩
    have hY1 := hY.same s1
    refine ⟨_, rfl, ⟨_, SqL.of hp1⟩, fun Dl hD => ?_⟩
    refine lc_of (ys := inI a 1) (r := nI) (G := fun t => some (V.ref (L (.ticket t)))) hD (items_nat hp1) ?_ ?_ ?_
    · exact Nat.lt_of_le_of_lt (Nat.le_trans (inI_len a 1) hz) (by decide)
    · intro t acc Nx ht ha h1 h2
      have hi := inI_lt ht
      have hY2 := hY1.same (same_new (o := .lst acc) hD)
      refine ⟨rfl, _, rfl, (L .yard), cs.Yard, (D .yard), _, _, rfl, hY2.yard, T.Yard.cl, T.Yard.n_tickets, rfl, _, rfl, _, _, _, _, rfl, rfl, SqL.of hY2.tl, atI_nat (refs_at hi), acc, upd_same, ha, ?_⟩
      rw [upd_upd]
      exact h1 _ rfl
    rw [show (fun t => some (V.ref (L (.ticket t)))) = some ∘ (fun t => V.ref (L (.ticket t))) from rfl, List.filterMap_eq_map]
    have s2 := same_new (o := tks L (inI a 1)) hD
    have h2 : upd H1 Dl (tks L (inI a 1)) Dl = some (tks L (inI a 1)) := upd_same
    have hY2 := hY1.same s2
    refine ⟨_, rfl, _, rfl, ⟨_, SqL.of h2⟩, fun D2 hD2 => ?_⟩
    refine lc_of (ys := inI a 1) (r := fun t => V.ref (L (.ticket t))) (G := fun t => if ((a.ticket t).way == way) = true then some (V.ref (L (.ticket t))) else none) hD2 (SqL.of h2) ?_ ?_ ?_
    · exact Nat.lt_of_le_of_lt (Nat.le_trans (inI_len a 1) hz) (by decide)
    · intro t acc Nx ht ha h1 h2
      have hi := inI_lt ht
      have hY3 := hY2.same (same_new (o := .lst acc) hD2)
      refine ⟨rfl, _, rfl, _, cs.Ticket, _, _, _, rfl, hY3.ticket (ticket_some hi), T.Ticket.cl, T.Ticket.n_way, rfl, _, rfl, rfl, _, rfl, ite2 (fun c => ?_) (fun c => ?_)⟩
      · have c := dV.mp c
        refine ⟨_, rfl, acc, upd_same, ha, ?_⟩
        rw [upd_upd]
        exact h1 _ (if_pos (by rw [beq_iff_eq]; omega))
      · have c : ¬ ((a.ticket t).way : Int) = (way : Int) := fun z => c (dV.mpr z)
        exact h2 (if_neg (by rw [beq_iff_eq]; omega))
    rw [fm_map]
    have s3 := same_new (o := tks L (doneI a way)) hD2
    exact q _ D2 ((s1.trans s2).trans s3) ((s1.trans s2).free hD2) upd_same
/-! ### the tickets by their numbers -/
theorem tickets_by (a : Kv319.Abs) : a.tickets = (List.range a.tickets.length).map a.ticket := by
  refine List.ext_getElem? fun i => ?_
  rw [List.getElem?_map]
  by_cases c : i < a.tickets.length
  · rw [List.getElem?_range c, ticket_some c]; rfl
  · rw [List.getElem?_eq_none (by omega), List.getElem?_eq_none (by rw [List.length_range]; omega)]; rfl
theorem kinds_by (a : Kv319.Abs) : a.kinds = (List.range a.kinds.length).map a.kind := by
  refine List.ext_getElem? fun i => ?_
  rw [List.getElem?_map]
  by_cases c : i < a.kinds.length
  · rw [List.getElem?_range c, kind_some c]; rfl
  · rw [List.getElem?_eq_none (by omega), List.getElem?_eq_none (by rw [List.length_range]; omega)]; rfl
theorem tick_filter (a : Kv319.Abs) (p : Kv319.Ticket → Bool) : a.tickets.filter p = ((List.range a.tickets.length).filter fun t => p (a.ticket t)).map a.ticket := by
  conv => lhs; rw [tickets_by a]
  rw [List.filter_map]; rfl
theorem int_sum {α : Type} (f : α → Nat) (l : List α) : (l.map fun t => ((f t : Nat) : Int)).sum = (((l.map f).sum : Nat) : Int) := by
  rw [← sum_nat, List.map_map]; rfl
theorem those_by (a : Kv319.Abs) (k way : Nat) : a.those k way = ((doneI a way).filter fun t => (a.ticket t).kind == k).map a.ticket := by
  unfold Kv319.Abs.those doneI inI
  rw [tick_filter, List.filter_filter, List.filter_filter]
  congr 1
  refine List.filter_congr fun t _ => ?_
  cases (a.ticket t).state == 1 <;> cases (a.ticket t).kind == k <;> cases (a.ticket t).way == way <;> rfl
theorem brought_by {a : Kv319.Abs} (ok : Ok a) (way : Nat) : Kv319.sum (a.tickets.filter fun x => x.way == way) Kv319.Ticket.amount = ((doneI a way).map fun t => (a.ticket t).amount).sum := by
  unfold Kv319.sum doneI inI
  rw [tick_filter, List.map_map, List.filter_filter]
  have key : ∀ l : List Nat, (∀ t ∈ l, t < a.tickets.length) → ((l.filter fun t => (a.ticket t).way == way).map fun t => (a.ticket t).amount).sum = ((l.filter fun t => (a.ticket t).way == way && (a.ticket t).state == 1).map fun t => (a.ticket t).amount).sum := by
    intro l
    induction l with
    | nil => intro _; rfl
    | cons t r ih =>
      intro h
      have ih := ih fun u hu => h u (List.mem_cons_of_mem _ hu)
      have ht := ok.tk _ (List.mem_of_getElem? (ticket_some (h t List.mem_cons_self)))
      rw [List.filter_cons, List.filter_cons]
      cases c : (a.ticket t).way == way with
      | false => simpa using ih
      | true =>
        cases c2 : (a.ticket t).state == 1 with
        | true => simp [ih]
        | false =>
          have e0 : (a.ticket t).amount = 0 := ht.2.2.2 (by simpa using c2)
          simp [ih, e0]
  exact key _ fun t ht => List.mem_range.mp ht
def sp_tell_totals (K : PySem.W.Frag) (cs : Cs) : Sp := fun vs H Q _ => ∃ L D a k, vs = [.ref (L .yard), nI k] ∧ Y cs H L D a ∧ Ok a ∧ Did cs H L D a (a.does (.totals k)) Q
theorem ok_tell_totals {P : Program} {w : World} {K : PySem.W.Frag} {mg : Str → Option Value} {base : Heap} {cs : Cs} (T : Txt K mg cs) : FOk P w K mg base 3 "tell_totals" ["yard", "kind"] (sp_tell_totals K cs) := by
  refine T.f_tell_totals.ok sc_tell_totals bd_tell_totals (fun vs H Q E h => ?_) (fun f cdv A outer s H vs Q E hr h => ?_)
  · obtain ⟨L, D, a, k, rfl, _⟩ := h; rfl
  · obtain ⟨L, D, a, k, rfl, hY, ok, d⟩ := h
    refine ⟨_, (pss_cons (ps_if (pt_not (pt_val (pm (pv 0) T.Yard.cl (ok_Yard_has_kind T) (hr.mono (by decide)) (pa_cons (pv 1) pa_nil)))) (pss_one (ps_ret (pe_lst (pa_cons (pgi T.g_NONE_SUCH) pa_nil)))) pss_nil) (pss_cons (ps_setLc (i := 2) (own := [("ticket", 4)]) (tt := (tTest (tOp rEq (tFld K (tVar 4) "kind") (tVar 1)))) (te := (tFld K (tVar 4) "net")) (g := (gName 4)) rfl sc_tell_totals.nd rfl rfl (sw_true rfl rfl rfl rfl) (pi_list (pf (ok_done_tickets T) (hr.mono (by decide)) (pa_cons (pv 0) (pa_cons (pgi T.g_BRINGS) pa_nil)))) (blkOk_by (by show blkC ["yard", "kind", "came", "went", "ticket"] (defScope s_tell_totals) _ [("ticket", 4)] = true; decide +kernel)) (fun _ _ _ _ _ => (pg_name (i := 4) sc_tell_totals.nd rfl (Or.inl rfl))) (fun _ _ _ _ _ => (pts_one (pt_cmpR op_eq (pe_fld (pv 4) rfl) (pv 1) (nomark _)))) (fun _ _ _ _ _ => (pe_fld (pv 4) rfl))) (pss_cons (ps_setLc (i := 3) (own := [("ticket", 4)]) (tt := (tTest (tOp rEq (tFld K (tVar 4) "kind") (tVar 1)))) (te := (tFld K (tVar 4) "net")) (g := (gName 4)) rfl sc_tell_totals.nd rfl rfl (sw_true rfl rfl rfl rfl) (pi_list (pf (ok_done_tickets T) (hr.mono (by decide)) (pa_cons (pv 0) (pa_cons (pgi T.g_FETCHES) pa_nil)))) (blkOk_by (by show blkC ["yard", "kind", "came", "went", "ticket"] (defScope s_tell_totals) _ [("ticket", 4)] = true; decide +kernel)) (fun _ _ _ _ _ => (pg_name (i := 4) sc_tell_totals.nd rfl (Or.inl rfl))) (fun _ _ _ _ _ => (pts_one (pt_cmpR op_eq (pe_fld (pv 4) rfl) (pv 1) (nomark _)))) (fun _ _ _ _ _ => (pe_fld (pv 4) rfl))) (pss_one (ps_ret (pe_lst (pa_cons pe_int (pa_cons (pb (cr_sum rfl) T.b_sum bt_sum (pa_cons (pv 2) pa_nil)) (pa_cons (pb (cr_sum rfl) T.b_sum bt_sum (pa_cons (pv 3) pa_nil)) (pa_cons (pb call_len_seq T.b_len bt_len (pa_cons (pv 2) pa_nil)) (pa_cons (pb call_len_seq T.b_len bt_len (pa_cons (pv 3) pa_nil)) pa_nil))))))))))), ?_⟩
    refine ⟨_, rfl, (L .yard), (D .yard), _, rfl, hY.yard, rfl, _, rfl, L, D, a, _, rfl, hY, _, rfl, ite2 (fun c => ?_) (fun c => ?_)⟩
    · exact ⟨(by show 1 ≤ sizeLine; decide), fun q hq => d.same hY (Same.refl H) (v := Kv319.say (-2)) (by simp only [Kv319.Abs.does]; rw [if_pos (by simpa using c)]) hq⟩
    have c1 : a.hasK k = true := by simpa using c
    have nl : ∀ w, (((doneI a w).filter fun t => (a.ticket t).kind == k).map fun t => V.int ((a.ticket t).net : Int)) = ((((doneI a w).filter fun t => (a.ticket t).kind == k).map fun t => ((a.ticket t).net : Int))).map V.int := fun w => by rw [List.map_map]; rfl
    refine ⟨_, rfl, L, D, a, 0, rfl, hY, ok.tl, fun H1 p s1 hp hp1 => ?_⟩
    have hY1 := hY.same s1
    refine ⟨_, rfl, ⟨_, SqL.of hp1⟩, fun D1 hD => ?_⟩
    refine lc_of (ys := doneI a 0) (r := fun t => V.ref (L (.ticket t))) (G := fun t => if ((a.ticket t).kind == k) = true then some (V.int ((a.ticket t).net : Int)) else none) hD (SqL.of hp1) ?_ ?_ ?_
    · exact Nat.lt_of_le_of_lt (Nat.le_trans (doneI_len a 0) ok.tl) (by decide)
    · intro t acc Nx ht ha h1 h2
      have hi := doneI_lt ht
      have hY3 := hY1.same (same_new (o := .lst acc) hD)
      have hk := hY3.ticket (ticket_some hi)
      refine ⟨rfl, _, rfl, _, cs.Ticket, _, _, _, rfl, hk, T.Ticket.cl, T.Ticket.n_kind, rfl, _, rfl, rfl, _, rfl, ite2 (fun c => ?_) (fun c => ?_)⟩
      · have c := dV.mp c
        refine ⟨_, rfl, _, cs.Ticket, _, _, _, rfl, hk, T.Ticket.cl, T.Ticket.n_net, rfl, acc, upd_same, ha, ?_⟩
        rw [upd_upd]
        exact h1 _ (if_pos (by rw [beq_iff_eq]; omega))
      · have c : ¬ ((a.ticket t).kind : Int) = (k : Int) := fun z => c (dV.mpr z)
        exact h2 (if_neg (by rw [beq_iff_eq]; omega))
    rw [fm_map, nl 0]
    generalize eC : ((doneI a 0).filter fun t => (a.ticket t).kind == k) = came
    have s2 := same_new (o := iL (came.map fun t => ((a.ticket t).net : Int))) hD
    have h2 : upd H1 D1 (iL (came.map fun t => ((a.ticket t).net : Int))) D1 = some (iL (came.map fun t => ((a.ticket t).net : Int))) := upd_same
    generalize eH2 : upd H1 D1 (iL (came.map fun t => ((a.ticket t).net : Int))) = H2 at s2 h2 ⊢
    have hY2 := hY1.same s2
    refine ⟨_, rfl, L, D, a, 1, rfl, hY2, ok.tl, fun H3 p3 s3 hp3 hp31 => ?_⟩
    have hY3 := hY2.same s3
    refine ⟨_, rfl, ⟨_, SqL.of hp31⟩, fun D4 hD4 => ?_⟩
    refine lc_of (ys := doneI a 1) (r := fun t => V.ref (L (.ticket t))) (G := fun t => if ((a.ticket t).kind == k) = true then some (V.int ((a.ticket t).net : Int)) else none) hD4 (SqL.of hp31) ?_ ?_ ?_
    · exact Nat.lt_of_le_of_lt (Nat.le_trans (doneI_len a 1) ok.tl) (by decide)
    · intro t acc Nx ht ha h1 h2
      have hi := doneI_lt ht
      have hY4 := hY3.same (same_new (o := .lst acc) hD4)
      have hk := hY4.ticket (ticket_some hi)
      refine ⟨rfl, _, rfl, _, cs.Ticket, _, _, _, rfl, hk, T.Ticket.cl, T.Ticket.n_kind, rfl, _, rfl, rfl, _, rfl, ite2 (fun c => ?_) (fun c => ?_)⟩
      · have c := dV.mp c
        refine ⟨_, rfl, _, cs.Ticket, _, _, _, rfl, hk, T.Ticket.cl, T.Ticket.n_net, rfl, acc, upd_same, ha, ?_⟩
        rw [upd_upd]
        exact h1 _ (if_pos (by rw [beq_iff_eq]; omega))
      · have c : ¬ ((a.ticket t).kind : Int) = (k : Int) := fun z => c (dV.mpr z)
        exact h2 (if_neg (by rw [beq_iff_eq]; omega))
    rw [fm_map, nl 1]
    generalize eW : ((doneI a 1).filter fun t => (a.ticket t).kind == k) = went
    have s4 := same_new (o := iL (went.map fun t => ((a.ticket t).net : Int))) hD4
    have h4 : upd H3 D4 (iL (went.map fun t => ((a.ticket t).net : Int))) D4 = some (iL (went.map fun t => ((a.ticket t).net : Int))) := upd_same
    generalize eH4 : upd H3 D4 (iL (went.map fun t => ((a.ticket t).net : Int))) = H4 at s4 h4 ⊢
    have g2 := s4 _ _ (s3 _ _ h2)
    refine ⟨_, rfl, _, _, rfl, SqL.of g2, _, rfl, _, _, rfl, SqL.of h4, _, rfl, _, _, rfl, .inl (SqL.of g2), _, rfl, _, _, rfl, .inl (SqL.of h4), (by show 5 ≤ sizeLine; decide), fun q hq => ?_⟩
    have f := d.same hY (((s1.trans s2).trans s3).trans s4) (v := ⟨0, Kv319.ints [Kv319.sum (a.those k 0) Kv319.Ticket.net, Kv319.sum (a.those k 1) Kv319.Ticket.net, (a.those k 0).length, (a.those k 1).length]⟩) (by simp only [Kv319.Abs.does]; rw [if_neg (by rw [c1]; exact Bool.noConfusion)]) hq
    have f : Q (.ref q) (upd H4 q (.lst [.int 0, nI (Kv319.sum (a.those k 0) Kv319.Ticket.net), nI (Kv319.sum (a.those k 1) Kv319.Ticket.net), nI (a.those k 0).length, nI (a.those k 1).length])) := f
    rw [those_by, those_by, eC, eW] at f
    unfold Kv319.sum at f
    rw [List.map_map, List.map_map, List.length_map, List.length_map] at f
    rw [int_sum, int_sum, List.length_map, List.length_map, List.length_map, List.length_map]
    exact f
def sp_all_amounts (K : PySem.W.Frag) (cs : Cs) : Sp := fun vs H Q _ => ∃ L D a l p, vs = [.ref p] ∧ Y cs H L D a ∧ H p = some (tks L l) ∧ (∀ t ∈ l, t < a.tickets.length) ∧ l.length ≤ 60 ∧ ∀ H', Same H H' → Q (nI (l.map fun t => (a.ticket t).amount).sum) H'
theorem ok_all_amounts {P : Program} {w : World} {K : PySem.W.Frag} {mg : Str → Option Value} {base : Heap} {cs : Cs} (T : Txt K mg cs) : FOk P w K mg base 1 "all_amounts" ["tickets"] (sp_all_amounts K cs) := by
  refine T.f_all_amounts.ok sc_all_amounts bd_all_amounts (fun vs H Q E h => ?_) (fun f cdv A outer s H vs Q E hr h => ?_)
  · obtain ⟨L, D, a, l, p, rfl, _⟩ := h; rfl
  · obtain ⟨L, D, a, l, p, rfl, hY, hp, hl, hz, q⟩ := h
    refine ⟨_, (pss_one (ps_ret (pb (cr_sum rfl) T.b_sum bt_sum (pa_cons (pe_lc (own := [("ticket", 1)]) (tt := tYes) (te := (tFld K (tVar 1) "amount")) (g := (gName 1)) rfl sc_all_amounts.nd (pi_list (pv 0)) (blkOk_by (by show blkC ["tickets", "ticket"] (defScope s_all_amounts) _ [("ticket", 1)] = true; decide +kernel)) (fun _ _ _ _ _ => (pg_name (i := 1) sc_all_amounts.nd rfl (Or.inl rfl))) (fun _ _ _ _ _ => pts_nil) (fun _ _ _ _ _ => (pe_fld (pv 1) rfl))) pa_nil)))), ?_⟩
    refine ⟨_, rfl, _, rfl, ⟨_, SqL.of hp⟩, fun D1 hD => ?_⟩
    refine lc_of (ys := l) (r := fun t => V.ref (L (.ticket t))) (G := fun t => some (V.int ((a.ticket t).amount : Int))) hD (SqL.of hp) ?_ ?_ ?_
    · exact Nat.lt_of_le_of_lt hz (by decide)
    · intro t acc Nx ht ha h1 h2
      have hY3 := hY.same (same_new (o := .lst acc) hD)
      have hk := hY3.ticket (ticket_some (hl t ht))
      refine ⟨rfl, _, rfl, _, cs.Ticket, _, _, _, rfl, hk, T.Ticket.cl, T.Ticket.n_amount, rfl, acc, upd_same, ha, ?_⟩
      rw [upd_upd]
      exact h1 _ rfl
    rw [show (fun t => some (V.int ((a.ticket t).amount : Int))) = some ∘ (fun t => V.int ((a.ticket t).amount : Int)) from rfl, List.filterMap_eq_map]
    have e1 : (l.map fun t => V.int ((a.ticket t).amount : Int)) = (l.map fun t => ((a.ticket t).amount : Int)).map V.int := by rw [List.map_map]; rfl
    rw [e1]
    refine ⟨_, _, rfl, SqL.of upd_same, ?_⟩
    rw [int_sum (fun t => (a.ticket t).amount)]
    exact q _ (same_new hD)
def sp_tell_money (K : PySem.W.Frag) (cs : Cs) : Sp := fun vs H Q _ => ∃ L D a, vs = [.ref (L .yard)] ∧ Y cs H L D a ∧ Ok a ∧ Did cs H L D a (a.does .money) Q
theorem ok_tell_money {P : Program} {w : World} {K : PySem.W.Frag} {mg : Str → Option Value} {base : Heap} {cs : Cs} (T : Txt K mg cs) : FOk P w K mg base 3 "tell_money" ["yard"] (sp_tell_money K cs) := by
  refine T.f_tell_money.ok sc_tell_money bd_tell_money (fun vs H Q E h => ?_) (fun f cdv A outer s H vs Q E hr h => ?_)
  · obtain ⟨L, D, a, rfl, _⟩ := h; rfl
  · obtain ⟨L, D, a, rfl, hY, ok, d⟩ := h
    refine ⟨_, (pss_one (ps_ret (pe_lst (pa_cons pe_int (pa_cons (pf (ok_all_amounts T) (hr.mono (by decide)) (pa_cons (pf (ok_done_tickets T) (hr.mono (by decide)) (pa_cons (pv 0) (pa_cons (pgi T.g_BRINGS) pa_nil))) pa_nil)) (pa_cons (pf (ok_all_amounts T) (hr.mono (by decide)) (pa_cons (pf (ok_done_tickets T) (hr.mono (by decide)) (pa_cons (pv 0) (pa_cons (pgi T.g_FETCHES) pa_nil))) pa_nil)) pa_nil)))))), ?_⟩
    refine ⟨_, rfl, L, D, a, 0, rfl, hY, ok.tl, fun H1 p s1 hp hp1 => ?_⟩
    have hY1 := hY.same s1
    refine ⟨L, D, a, _, p, rfl, hY1, hp1, fun t ht => doneI_lt ht, Nat.le_trans (doneI_len a 0) ok.tl, fun H2 s2 => ?_⟩
    have hY2 := hY1.same s2
    refine ⟨_, rfl, L, D, a, 1, rfl, hY2, ok.tl, fun H3 p3 s3 hp3 hp31 => ?_⟩
    have hY3 := hY2.same s3
    refine ⟨L, D, a, _, p3, rfl, hY3, hp31, fun t ht => doneI_lt ht, Nat.le_trans (doneI_len a 1) ok.tl, fun H4 s4 => ?_⟩
    refine ⟨(by show 3 ≤ sizeLine; decide), fun q hq => ?_⟩
    have f := d.same hY (((s1.trans s2).trans s3).trans s4) (v := ⟨0, Kv319.ints [Kv319.sum (a.tickets.filter fun x => x.way == 0) Kv319.Ticket.amount, Kv319.sum (a.tickets.filter fun x => x.way == 1) Kv319.Ticket.amount]⟩) rfl hq
    have f : Q (.ref q) (upd H4 q (.lst [.int 0, nI (Kv319.sum (a.tickets.filter fun x => x.way == 0) Kv319.Ticket.amount), nI (Kv319.sum (a.tickets.filter fun x => x.way == 1) Kv319.Ticket.amount)])) := f
    rw [brought_by ok, brought_by ok] at f
    exact f
/-! ### the heaviest -/
def hv (a : Kv319.Abs) (u t : Nat) : Nat := if (a.ticket u).net < (a.ticket t).net then t else u
def hvO (a : Kv319.Abs) (b : Option Nat) (t : Nat) : Option Nat := match b with
  | none => some t
  | some u => if (a.ticket u).net < (a.ticket t).net then some t else some u
theorem hvO_some (a : Kv319.Abs) : ∀ (l : List Nat) (u : Nat), l.foldl (hvO a) (some u) = some (l.foldl (hv a) u)
  | [], _ => rfl
  | t :: r, u => by
    rw [List.foldl_cons, List.foldl_cons, ← hvO_some a r]
    congr 1
    unfold hvO hv
    by_cases c : (a.ticket u).net < (a.ticket t).net
    · simp only [if_pos c]
    · simp only [if_neg c]
theorem hv_fold (a : Kv319.Abs) : ∀ (l : List Nat) (b : Option Nat), l.foldl (fun b t => if (a.ticket t).state = 1 then hvO a b t else b) b = (l.filter fun t => (a.ticket t).state == 1).foldl (hvO a) b
  | [], _ => rfl
  | t :: r, b => by
    rw [List.foldl_cons, List.filter_cons]
    by_cases c : (a.ticket t).state = 1
    · rw [if_pos c, if_pos (by rw [beq_iff_eq]; exact c), List.foldl_cons]
      exact hv_fold a r _
    · rw [if_neg c, if_neg (by rw [beq_iff_eq]; exact c)]
      exact hv_fold a r b
theorem hv_mem (a : Kv319.Abs) : ∀ (l : List Nat) (u : Nat), l.foldl (hv a) u = u ∨ l.foldl (hv a) u ∈ l
  | [], _ => .inl rfl
  | t :: r, u => by
    rw [List.foldl_cons]
    rcases hv_mem a r (hv a u t) with h | h
    · rw [h]
      unfold hv
      by_cases c : (a.ticket u).net < (a.ticket t).net
      · rw [if_pos c]; exact .inr List.mem_cons_self
      · rw [if_neg c]; exact .inl rfl
    · exact .inr (List.mem_cons_of_mem _ h)
theorem heaviest_eq (a : Kv319.Abs) : a.does .heaviest = match (inI a 1).foldl (hvO a) none with
    | none => (a, Kv319.say (-6))
    | some t => (a, ⟨(t : Nat), [((a.ticket t).net : Nat)]⟩) := by
  show (match (List.range a.tickets.length).foldl (fun b t => if (a.ticket t).state = 1 then hvO a b t else b) none with
    | none => (a, Kv319.say (-6))
    | some t => (a, ⟨(t : Nat), [((a.ticket t).net : Nat)]⟩)) = _
  rw [hv_fold]
  rfl
def sp_tell_heaviest (K : PySem.W.Frag) (cs : Cs) : Sp := fun vs H Q _ => ∃ L D a, vs = [.ref (L .yard)] ∧ Y cs H L D a ∧ Ok a ∧ Did cs H L D a (a.does .heaviest) Q
theorem ok_tell_heaviest {P : Program} {w : World} {K : PySem.W.Frag} {mg : Str → Option Value} {base : Heap} {cs : Cs} (T : Txt K mg cs) : FOk P w K mg base 2 "tell_heaviest" ["yard"] (sp_tell_heaviest K cs) := by
  refine T.f_tell_heaviest.ok sc_tell_heaviest bd_tell_heaviest (fun vs H Q E h => ?_) (fun f cdv A outer s H vs Q E hr h => ?_)
  · obtain ⟨L, D, a, rfl, _⟩ := h; rfl
  · obtain ⟨L, D, a, rfl, hY, ok, d⟩ := h
    refine ⟨_, (pss_cons (ps_set (i := 1) sc_tell_heaviest.nd rfl (Or.inl rfl) (pm (pv 0) T.Yard.cl (ok_Yard_tickets_in T) (hr.mono (by decide)) (pa_cons (pgi T.g_DONE) pa_nil))) (pss_cons (ps_if (pt_cmpR op_eq (pb call_len_seq T.b_len bt_len (pa_cons (pv 1) pa_nil)) pe_int (nomark _)) (pss_one (ps_ret (pe_lst (pa_cons (pgi T.g_NOTHING_THERE) pa_nil)))) pss_nil) (pss_cons (ps_set (i := 2) sc_tell_heaviest.nd rfl (Or.inl rfl) (pe_ix ix_list (pv 1) pe_int (fun _ _ => rfl))) (pss_cons (ps_for PassesOwn.never rfl (pi_list (pv 1)) (pg_name (i := 3) sc_tell_heaviest.nd rfl (Or.inl rfl)) (pss_one (ps_if (pt_cmpR op_gt (pe_fld (pe_ix ix_list (pe_fld (pv 0) rfl) (pv 3) (fun _ _ => rfl)) rfl) (pe_fld (pe_ix ix_list (pe_fld (pv 0) rfl) (pv 2) (fun _ _ => rfl)) rfl) (nomark _)) (pss_one (ps_set (i := 2) sc_tell_heaviest.nd rfl (Or.inl rfl) (pv 3))) pss_nil))) (pss_one (ps_ret (pe_lst (pa_cons (pv 2) (pa_cons (pe_fld (pe_ix ix_list (pe_fld (pv 0) rfl) (pv 2) (fun _ _ => rfl)) rfl) pa_nil))))))))), ?_⟩
    refine ⟨_, rfl, (L .yard), (D .yard), _, rfl, hY.yard, rfl, L, D, a, 1, rfl, hY, ok.tl, fun H1 p s1 hp hp1 => ?_⟩
    have hY1 := hY.same s1
    rw [heaviest_eq] at d
    have hlt : ∀ t ∈ inI a 1, t < a.tickets.length := fun t ht => inI_lt ht
    generalize inI a 1 = ds at d hp1 hlt
    refine ⟨_, rfl, _, _, rfl, .inl (SqL.of hp1), rfl, _, rfl, ite2 (fun c => ?_) (fun c => ?_)⟩
    · have c := dV.mp c
      rw [len_nL] at c
      have e : ds = [] := List.length_eq_zero_iff.mp (by omega)
      subst e
      exact ⟨(by show 1 ≤ sizeLine; decide), fun q hq => d.same hY s1 (v := Kv319.say (-6)) rfl hq⟩
    obtain ⟨x, r, e⟩ : ∃ x r, ds = x :: r := by
      cases ds with
      | nil => exact absurd rfl c
      | cons x r => exact ⟨x, r, rfl⟩
    have hx : x < a.tickets.length := hlt x (by rw [e]; exact List.mem_cons_self)
    have lth : ∀ i, (ds.take i).foldl (hv a) x < a.tickets.length := fun i => by
      rcases hv_mem a (ds.take i) x with h | h
      · rw [h]; exact hx
      · exact hlt _ (List.mem_of_mem_take h)
    refine ⟨_, rfl, _, _, _, _, rfl, rfl, SqL.of hp1, atI_nat (j := 0) (v := nI x) (by rw [e]; rfl), ?_⟩
    refine ⟨_, rfl, _, rfl, ⟨_, SqL.of hp1⟩, ?_⟩
    refine for_list (xs := (ds.map Int.ofNat).map V.int) (fun i σ H' => H' = H1 ∧ ∃ vn, σ = [some (.ref (L .yard)), some (.ref p), some (nI ((ds.take i).foldl (hv a) x)), vn]) ⟨rfl, none, rfl⟩ (fun i σ H' _ h => by rw [h.1]; exact SqL.of hp1) ?_ ?_
    · rintro i y σ H' hi ⟨rfl, vn, rfl⟩
      rw [List.getElem?_map, List.getElem?_map] at hi
      obtain ⟨y1, hy1, rfl⟩ := Option.map_eq_some_iff.mp hi
      obtain ⟨t, ht, rfl⟩ := Option.map_eq_some_iff.mp hy1
      have htl := hlt t (List.mem_of_getElem? ht)
      have hk := hY1.ticket (ticket_some htl)
      have hu := hY1.ticket (ticket_some (lth i))
      have e2 : (ds.take (i + 1)).foldl (hv a) x = hv a ((ds.take i).foldl (hv a) x) t := by
        rw [List.take_add_one, ht, List.foldl_append]; rfl
      refine ⟨_, rfl, (L .yard), cs.Yard, (D .yard), _, _, rfl, hY1.yard, T.Yard.cl, T.Yard.n_tickets, rfl, _, rfl, _, _, _, _, rfl, rfl, SqL.of hY1.tl, atI_nat (refs_at htl), _, cs.Ticket, _, _, _, rfl, hk, T.Ticket.cl, T.Ticket.n_net, rfl, _, rfl, (L .yard), cs.Yard, (D .yard), _, _, rfl, hY1.yard, T.Yard.cl, T.Yard.n_tickets, rfl, _, rfl, _, _, _, _, rfl, rfl, SqL.of hY1.tl, atI_nat (refs_at (lth i)), _, cs.Ticket, _, _, _, rfl, hu, T.Ticket.cl, T.Ticket.n_net, rfl, _, _, rfl, rfl, _, rfl, ite2 (fun c => ?_) (fun c => ?_)⟩
      · have c := of_decide_eq_true c
        refine ⟨_, rfl, rfl, some (V.int (Int.ofNat t)), ?_⟩
        rw [e2, hv, if_pos (by omega)]; rfl
      · have c : ¬ ((a.ticket ((ds.take i).foldl (hv a) x)).net : Int) < ((a.ticket t).net : Int) := fun h => c (decide_eq_true h)
        refine ⟨rfl, some (V.int (Int.ofNat t)), ?_⟩
        rw [e2, hv, if_neg (by omega)]; rfl
    · rintro σ H' ⟨rfl, vn, rfl⟩
      rw [len_nL, List.take_length]
      have lt0 := lth ds.length
      rw [List.take_length] at lt0
      have hu := hY1.ticket (ticket_some lt0)
      refine ⟨_, rfl, _, rfl, (L .yard), cs.Yard, (D .yard), _, _, rfl, hY1.yard, T.Yard.cl, T.Yard.n_tickets, rfl, _, rfl, _, _, _, _, rfl, rfl, SqL.of hY1.tl, atI_nat (refs_at lt0), _, cs.Ticket, _, _, _, rfl, hu, T.Ticket.cl, T.Ticket.n_net, rfl, (by show 2 ≤ sizeLine; decide), fun q hq => ?_⟩
      have e3 : ds.foldl (hvO a) none = some (ds.foldl (hv a) x) := by
        rw [e, List.foldl_cons, List.foldl_cons]
        show r.foldl (hvO a) (some x) = _
        rw [hvO_some, show hv a x x = x from if_neg (Nat.lt_irrefl _)]
      rw [e3] at d
      exact d.same hY s1 (v := ⟨((ds.foldl (hv a) x : Nat) : Int), [((a.ticket (ds.foldl (hv a) x)).net : Nat)]⟩) rfl hq
def sp_tell_sums (K : PySem.W.Frag) (cs : Cs) : Sp := fun vs H Q _ => ∃ L D a, vs = [.ref (L .yard)] ∧ Y cs H L D a ∧ Ok a ∧ Did cs H L D a (a.does .sums) Q
theorem ok_tell_sums {P : Program} {w : World} {K : PySem.W.Frag} {mg : Str → Option Value} {base : Heap} {cs : Cs} (T : Txt K mg cs) : FOk P w K mg base 2 "tell_sums" ["yard"] (sp_tell_sums K cs) := by
  refine T.f_tell_sums.ok sc_tell_sums bd_tell_sums (fun vs H Q E h => ?_) (fun f cdv A outer s H vs Q E hr h => ?_)
  · obtain ⟨L, D, a, rfl, _⟩ := h; rfl
  · obtain ⟨L, D, a, rfl, hY, ok, d⟩ := h
    refine ⟨_, (pss_cons (ps_set (i := 1) sc_tell_sums.nd rfl (Or.inl rfl) (pb (cr_sum rfl) T.b_sum bt_sum (pa_cons (pe_lc (own := [("goods", 2)]) (tt := tYes) (te := (tFld K (tVar 2) "stock")) (g := (gName 2)) rfl sc_tell_sums.nd (pi_list (pe_fld (pv 0) rfl)) (blkOk_by (by show blkC ["yard", "stock", "goods"] (defScope s_tell_sums) _ [("goods", 2)] = true; decide +kernel)) (fun _ _ _ _ _ => (pg_name (i := 2) sc_tell_sums.nd rfl (Or.inl rfl))) (fun _ _ _ _ _ => pts_nil) (fun _ _ _ _ _ => (pe_fld (pv 2) rfl))) pa_nil))) (pss_one (ps_ret (pe_lst (pa_cons pe_int (pa_cons (pv 1) (pa_cons (pb call_len_seq T.b_len bt_len (pa_cons (pm (pv 0) T.Yard.cl (ok_Yard_tickets_in T) (hr.mono (by decide)) (pa_cons (pgi T.g_DONE) pa_nil)) pa_nil)) (pa_cons (pb call_len_seq T.b_len bt_len (pa_cons (pm (pv 0) T.Yard.cl (ok_Yard_tickets_in T) (hr.mono (by decide)) (pa_cons (pgi T.g_CALLED_OFF) pa_nil)) pa_nil)) pa_nil)))))))), ?_⟩
    refine ⟨_, rfl, (L .yard), cs.Yard, (D .yard), _, _, rfl, hY.yard, T.Yard.cl, T.Yard.n_kinds, rfl, _, rfl, ⟨_, SqL.of hY.kl⟩, fun D1 hD => ?_⟩
    refine lc_of (ys := List.range a.kinds.length) (r := fun t => V.ref (L (.kind t))) (G := fun t => some (V.int ((a.kind t).stock : Int))) hD (SqL.of hY.kl) ?_ ?_ ?_
    · rw [List.length_range]; exact Nat.lt_of_le_of_lt ok.kl (by decide)
    · intro t acc Nx ht ha h1 h2
      have hY3 := hY.same (same_new (o := .lst acc) hD)
      have hk := hY3.kind (kind_some (List.mem_range.mp ht))
      refine ⟨rfl, _, rfl, _, cs.Goods, _, _, _, rfl, hk, T.Goods.cl, T.Goods.n_stock, rfl, acc, upd_same, ha, ?_⟩
      rw [upd_upd]
      exact h1 _ rfl
    rw [show (fun t => some (V.int ((a.kind t).stock : Int))) = some ∘ (fun t => V.int ((a.kind t).stock : Int)) from rfl, List.filterMap_eq_map]
    have e1 : ((List.range a.kinds.length).map fun t => V.int ((a.kind t).stock : Int)) = ((List.range a.kinds.length).map fun t => ((a.kind t).stock : Int)).map V.int := by rw [List.map_map]; rfl
    rw [e1]
    have s1 := same_new (o := iL ((List.range a.kinds.length).map fun t => ((a.kind t).stock : Int))) hD
    refine ⟨_, _, rfl, SqL.of upd_same, ?_⟩
    rw [int_sum (fun t => (a.kind t).stock)]
    have hY1 := hY.same s1
    refine ⟨_, rfl, _, rfl, (L .yard), (D .yard), _, rfl, hY1.yard, rfl, L, D, a, 1, rfl, hY1, ok.tl, fun H2 p2 s2 hp2 hp21 => ?_⟩
    have hY2 := hY1.same s2
    refine ⟨_, _, rfl, .inl (SqL.of hp21), _, rfl, (L .yard), (D .yard), _, rfl, hY2.yard, rfl, L, D, a, 2, rfl, hY2, ok.tl, fun H3 p3 s3 hp3 hp31 => ?_⟩
    refine ⟨_, _, rfl, .inl (SqL.of hp31), (by show 4 ≤ sizeLine; decide), fun q hq => ?_⟩
    have f := d.same hY ((s1.trans s2).trans s3) (v := ⟨0, Kv319.ints [(a.kinds.map Kv319.Kind.stock).sum, (a.tickets.filter fun x => x.state == 1).length, (a.tickets.filter fun x => x.state == 2).length]⟩) rfl hq
    have f : Q (.ref q) (upd H3 q (.lst [.int 0, nI (a.kinds.map Kv319.Kind.stock).sum, nI (a.tickets.filter fun x => x.state == 1).length, nI (a.tickets.filter fun x => x.state == 2).length])) := f
    have e2 : a.kinds.map Kv319.Kind.stock = (List.range a.kinds.length).map fun t => (a.kind t).stock := by
      conv => lhs; rw [kinds_by a]
      rw [List.map_map]; rfl
    rw [e2, tick_filter, tick_filter, List.length_map, List.length_map] at f
    rw [len_nL, len_nL]
    exact f
def sp_tell_state (K : PySem.W.Frag) (cs : Cs) : Sp := fun vs H Q _ => ∃ L D a, vs = [.ref (L .yard)] ∧ Y cs H L D a ∧ Ok a ∧ Did cs H L D a (a.does .state) Q
theorem ok_tell_state {P : Program} {w : World} {K : PySem.W.Frag} {mg : Str → Option Value} {base : Heap} {cs : Cs} (T : Txt K mg cs) : FOk P w K mg base 2 "tell_state" ["yard"] (sp_tell_state K cs) := by
  refine T.f_tell_state.ok sc_tell_state bd_tell_state (fun vs H Q E h => ?_) (fun f cdv A outer s H vs Q E hr h => ?_)
  · obtain ⟨L, D, a, rfl, _⟩ := h; rfl
  · obtain ⟨L, D, a, rfl, hY, ok, d⟩ := h
    refine ⟨_, (pss_cons (ps_set (i := 1) sc_tell_state.nd rfl (Or.inl rfl) (pe_lst (pa_cons (pb call_len_seq T.b_len bt_len (pa_cons (pe_fld (pv 0) rfl) pa_nil)) (pa_cons (pb call_len_seq T.b_len bt_len (pa_cons (pe_fld (pv 0) rfl) pa_nil)) (pa_cons (pb call_len_seq T.b_len bt_len (pa_cons (pe_fld (pv 0) rfl) pa_nil)) (pa_cons (pb call_len_seq T.b_len bt_len (pa_cons (pm (pv 0) T.Yard.cl (ok_Yard_tickets_in T) (hr.mono (by decide)) (pa_cons (pgi T.g_ON_YARD) pa_nil)) pa_nil)) pa_nil)))))) (pss_one (ps_ret (pe_op op_cat (pe_op op_cat (pe_lst (pa_cons pe_int (pa_cons (pe_fld (pv 0) rfl) pa_nil))) (pv 1)) (pe_lst (pa_cons (pm0 (pe_fld (pv 0) rfl) T.Plate.cl (ok_Plate_load T) (hr.mono (by decide))) (pa_cons (pe_fld (pe_fld (pv 0) rfl) rfl) pa_nil))))))), ?_⟩
    refine ⟨_, rfl, (L .yard), cs.Yard, (D .yard), _, _, rfl, hY.yard, T.Yard.cl, T.Yard.n_kinds, rfl, _, _, rfl, .inl (SqL.of hY.kl), _, rfl, (L .yard), cs.Yard, (D .yard), _, _, rfl, hY.yard, T.Yard.cl, T.Yard.n_lorries, rfl, _, _, rfl, .inl (SqL.of hY.ll), _, rfl, (L .yard), cs.Yard, (D .yard), _, _, rfl, hY.yard, T.Yard.cl, T.Yard.n_tickets, rfl, _, _, rfl, .inl (SqL.of hY.tl), _, rfl, (L .yard), (D .yard), _, rfl, hY.yard, rfl, L, D, a, 0, rfl, hY, ok.tl, fun H1 p1 s1 hp1 hp11 => ?_⟩
    rw [List.length_map, List.length_range, List.length_map, List.length_range, List.length_map, List.length_range]
    have hY1 := hY.same s1
    refine ⟨_, _, rfl, .inl (SqL.of hp11), (by show 4 ≤ sizeLine; decide), fun p2 n2 => ?_⟩
    rw [len_nL]
    have s2 := same_new (o := .lst [nI a.kinds.length, nI a.lorries.length, nI a.tickets.length, nI (inI a 0).length]) n2
    have h2 := upd_same (H := H1) (a := p2) (o := .lst [nI a.kinds.length, nI a.lorries.length, nI a.tickets.length, nI (inI a 0).length])
    have hY2 := hY1.same s2
    refine ⟨_, rfl, (L .yard), cs.Yard, (D .yard), _, _, rfl, hY2.yard, T.Yard.cl, T.Yard.n_day, rfl, (by show 2 ≤ sizeLine; decide), fun p3 n3 => ?_⟩
    have s3 := same_new (o := .lst [.int 0, nI a.today]) n3
    have hY3 := hY2.same s3
    refine ⟨_, rfl, _, _, _, _, rfl, rfl, upd_same, s3 _ _ h2, (by show 6 ≤ sizeLine; decide), fun p4 n4 => ?_⟩
    have s4 := same_new (o := .lst ([.int 0, nI a.today] ++ [nI a.kinds.length, nI a.lorries.length, nI a.tickets.length, nI (inI a 0).length])) n4
    have hY4 := hY3.same s4
    refine ⟨_, rfl, (L .yard), cs.Yard, (D .yard), _, _, rfl, hY4.yard, T.Yard.cl, T.Yard.n_plate, rfl, (L .plate), (D .plate), _, rfl, hY4.plate, rfl, _, a, rfl, hY4.plateAt, _, rfl, (L .yard), cs.Yard, (D .yard), _, _, rfl, hY4.yard, T.Yard.cl, T.Yard.n_plate, rfl, (L .plate), cs.Plate, (D .plate), _, _, rfl, hY4.plate, T.Plate.cl, T.Plate.n_zero, rfl, (by show 2 ≤ sizeLine; decide), fun p5 n5 => ?_⟩
    have s5 := same_new (o := .lst [nI a.load.sum, .int a.zero]) n5
    refine ⟨_, _, _, _, rfl, rfl, s5 _ _ upd_same, upd_same, (by show 8 ≤ sizeLine; decide), fun q hq => ?_⟩
    exact d.same hY ((((s1.trans s2).trans s3).trans s4).trans s5) (v := ⟨0, Kv319.ints [a.today, a.kinds.length, a.lorries.length, a.tickets.length, a.onYard.length, a.load.sum] ++ [a.zero]⟩) rfl hq
end Wb

end
section
set_option Elab.async false
set_option linter.all false
set_option maxRecDepth 100000
set_option maxHeartbeats 4000000
/-! What holds of a yard holds behind every call. -/
namespace Wb
open Kv319
theorem mem_mod {α : Type} {f : α → α} {x : α} : ∀ {l : List α} {k : Nat}, x ∈ l.modify k f → x ∈ l ∨ ∃ y, l[k]? = some y ∧ x = f y := by
  intro l k h
  obtain ⟨i, hi⟩ := List.mem_iff_getElem?.mp h
  by_cases c : i = k
  · subst c
    rw [mod_self] at hi
    obtain ⟨y, h1, h2⟩ := Option.map_eq_some_iff.mp hi
    exact .inr ⟨y, h1, h2.symm⟩
  · rw [mod_ne _ _ c] at hi
    exact .inl (List.mem_of_getElem? hi)
theorem Ok.moved {a : Abs} (ok : Ok a) {k way net : Nat} (h : a.stockWhy k way net = 0) : Ok (a.moved k way net) := by
  refine ⟨⟨ok.pl.s1, ok.pl.s2, ok.pl.n2, ok.pl.g1, ok.pl.g2⟩, ?_, ok.ll, ok.tl, fun z hz => ?_, ok.lt, fun t ht => ?_⟩
  · show (a.kinds.modify k _).length ≤ 6
    rw [List.length_modify]; exact ok.kl
  · rcases mem_mod (show z ∈ a.kinds.modify k _ from hz) with h1 | ⟨y, h1, rfl⟩
    · exact ok.kk z h1
    · obtain ⟨b1, b2, b3⟩ := ok.kk y (List.mem_of_getElem? h1)
      have e := kind_get h1
      unfold Abs.stockWhy at h
      rw [e] at h
      refine ⟨b1, b2, ?_⟩
      show (if way = 0 then y.stock + net else y.stock - net) ≤ y.most
      by_cases c : way = 0
      · rw [if_pos c] at h ⊢
        by_cases c2 : y.most < y.stock + net
        · rw [if_pos c2] at h; omega
        · omega
      · rw [if_neg c]; omega
  · have := ok.tk t ht
    refine ⟨this.1, ?_, this.2.2⟩
    show _ < (a.kinds.modify k _).length
    rw [List.length_modify]; exact this.2.1
theorem Ok.tared {a : Abs} (ok : Ok a) {l w : Nat} : Ok (a.tared l w) := by
  refine ⟨⟨ok.pl.s1, ok.pl.s2, ok.pl.n2, ok.pl.g1, ok.pl.g2⟩, ok.kl, ?_, ok.tl, ok.kk, fun z hz => ?_, fun t ht => ?_⟩
  · show (a.lorries.modify l _).length ≤ 12
    rw [List.length_modify]; exact ok.ll
  · rcases mem_mod (show z ∈ a.lorries.modify l _ from hz) with h1 | ⟨y, h1, rfl⟩
    · exact ok.lt z h1
    · exact ⟨List.length_take_le _ _, Nat.le_refl _⟩
  · have := ok.tk t ht
    refine ⟨?_, this.2⟩
    show _ < (a.lorries.modify l _).length
    rw [List.length_modify]; exact this.1
theorem Ok.tickets {a : Abs} (ok : Ok a) {ts : List Ticket} (h1 : ts.length ≤ 60) (h2 : ∀ t ∈ ts, t ∈ a.tickets ∨ (t.lorry < a.lorries.length ∧ t.kind < a.kinds.length ∧ t.way ≤ 1 ∧ (t.state ≠ 1 → t.amount = 0))) : Ok { a with tickets := ts } :=
  ⟨⟨ok.pl.s1, ok.pl.s2, ok.pl.n2, ok.pl.g1, ok.pl.g2⟩, ok.kl, ok.ll, h1, ok.kk, ok.lt, fun t ht => (h2 t ht).elim (ok.tk t) id⟩
theorem ok_begun {d n y g : Nat} (h : ¬ (d = 0 ∨ 100 < d ∨ n < 100 ∨ 5000 < n ∨ y = 0 ∨ 8 < y ∨ 365 < g)) : Ok (begun d n y g) :=
  ⟨⟨show 1 ≤ d by omega, show d ≤ 100 by omega, show n ≤ 5000 by omega, show (-20 : Int) ≤ 0 by omega, show (0 : Int) ≤ 20 by omega⟩, Nat.zero_le _, Nat.zero_le _, Nat.zero_le _, fun _ h => (List.not_mem_nil h).elim, fun _ h => (List.not_mem_nil h).elim, fun _ h => (List.not_mem_nil h).elim⟩
theorem ok_does {a : Abs} (ok : Ok a) (c : Call) : Ok (a.does c).1 := by
  have pl := ok.pl
  cases c with
  | begin_ d n y g =>
    simp only [Abs.does]
    split
    · exact ok
    · exact ok_begun (by assumption)
  | kind p w m =>
    simp only [Abs.does]
    split
    · exact ok
    split
    · exact ok
    refine ⟨⟨pl.s1, pl.s2, pl.n2, pl.g1, pl.g2⟩, ?_, ok.ll, ok.tl, fun z hz => ?_, ok.lt, fun t ht => ?_⟩
    · show (a.kinds ++ [_]).length ≤ 6
      rw [List.length_append]; simp; omega
    · rcases List.mem_append.mp (show z ∈ a.kinds ++ [_] from hz) with h | h
      · exact ok.kk z h
      · rw [List.mem_singleton.mp h]
        exact ⟨show p ≤ 100000 by omega, show w ≤ 50 by omega, Nat.zero_le _⟩
    · have := ok.tk t ht
      refine ⟨this.1, ?_, this.2.2⟩
      show _ < (a.kinds ++ [_]).length
      rw [List.length_append]; exact Nat.lt_of_lt_of_le this.2.1 (Nat.le_add_right _ _)
  | lorry x g =>
    simp only [Abs.does]
    split
    · exact ok
    split
    · exact ok
    refine ⟨⟨pl.s1, pl.s2, pl.n2, pl.g1, pl.g2⟩, ok.kl, ?_, ok.tl, ok.kk, fun z hz => ?_, fun t ht => ?_⟩
    · show (a.lorries ++ [_]).length ≤ 12
      rw [List.length_append]; simp; omega
    · rcases List.mem_append.mp (show z ∈ a.lorries ++ [_] from hz) with h | h
      · exact ok.lt z h
      · rw [List.mem_singleton.mp h]
        exact ⟨Nat.zero_le _, Nat.zero_le _⟩
    · have := ok.tk t ht
      refine ⟨?_, this.2⟩
      show _ < (a.lorries ++ [_]).length
      rw [List.length_append]; exact Nat.lt_of_lt_of_le this.1 (Nat.le_add_right _ _)
  | drift g o =>
    simp only [Abs.does]
    split
    · exact ok
    exact ⟨⟨pl.s1, pl.s2, pl.n2, show (-20 : Int) ≤ g by omega, show g ≤ 20 by omega⟩, ok.kl, ok.ll, ok.tl, ok.kk, ok.lt, ok.tk⟩
  | on_ l =>
    simp only [Abs.does]
    split
    · exact ok
    split
    · exact ok
    exact ⟨⟨pl.s1, pl.s2, pl.n2, pl.g1, pl.g2⟩, ok.kl, ok.ll, ok.tl, ok.kk, ok.lt, ok.tk⟩
  | off =>
    simp only [Abs.does]
    split
    · exact ok
    exact ⟨⟨pl.s1, pl.s2, pl.n2, pl.g1, pl.g2⟩, ok.kl, ok.ll, ok.tl, ok.kk, ok.lt, ok.tk⟩
  | zero =>
    simp only [Abs.does]
    split
    · exact ok
    split
    · exact ok
    exact ⟨⟨pl.s1, pl.s2, pl.n2, pl.g1, pl.g2⟩, ok.kl, ok.ll, ok.tl, ok.kk, ok.lt, ok.tk⟩
  | arrive l k w =>
    by_cases c : arriveI a l k w = 0
    · rw [arrive_yes c]
      unfold arriveI at c
      by_cases c1 : comingI a l k w 0 ≠ 0
      · rw [if_pos c1] at c; exact absurd c c1
      rw [if_neg c1] at c
      obtain ⟨h1, h2, h3, _⟩ := coming0 (Decidable.not_not.mp c1)
      by_cases c7 : a.yard ≤ a.onYard.length
      · rw [if_pos c7] at c; omega
      rw [if_neg c7] at c
      by_cases c8 : 60 ≤ a.tickets.length
      · rw [if_pos c8] at c; omega
      refine ok.tickets ?_ fun t ht => ?_
      · rw [List.length_append]; simp; omega
      · rcases List.mem_append.mp ht with h | h
        · exact .inl h
        · rw [List.mem_singleton.mp h]
          exact .inr ⟨of_decide_eq_true h1, of_decide_eq_true h2, h3, fun _ => rfl⟩
    · rw [arrive_no c]; exact ok
  | leave n m =>
    by_cases c : leaveI a n m = 0
    · have lo := leave_ok c
      rw [leave_yes lo]
      have b := ok.ticket lo.lt
      have ok2 := (ok.moved lo.stock).tared (l := (a.ticket n).lorry) (w := min (a.ticket n).first a.weight)
      refine ok2.tickets ?_ fun t ht => ?_
      · rw [List.length_set]; exact ok.tl
      · rcases List.mem_or_eq_of_mem_set ht with h | h
        · exact .inl h
        · rw [h]
          refine .inr ⟨?_, ?_, b.2.2, fun z => absurd rfl z⟩
          · show (a.ticket n).lorry < (a.lorries.modify _ _).length
            rw [List.length_modify]; exact b.1
          · show (a.ticket n).kind < (a.kinds.modify _ _).length
            rw [List.length_modify]; exact b.2.1
    · rw [leave_no c]; exact ok
  | quick l k w m =>
    by_cases c : quickI a l k w m = 0
    · have qo := quick_ok c
      have hw : w ≤ 1 := by
        unfold quickI at c
        by_cases c1 : comingI a l k w m ≠ 0
        · rw [if_pos c1] at c; exact absurd c c1
        · exact (coming0 (Decidable.not_not.mp c1)).2.2.1
      rw [qo.eq]
      refine (ok.moved qo.stock).tickets ?_ fun t ht => ?_
      · rw [List.length_append]; have := qo.tl; simp; omega
      · rcases List.mem_append.mp ht with h | h
        · exact .inl h
        · rw [List.mem_singleton.mp h]
          refine .inr ⟨qo.hl, ?_, hw, fun z => absurd rfl z⟩
          show k < (a.kinds.modify _ _).length
          rw [List.length_modify]; exact qo.hk
    · rw [quick_no c]; exact ok
  | cancel n =>
    by_cases c : standI a n = 0
    · obtain ⟨h1, h2⟩ := stand0 c
      rw [cancel_yes c]
      refine ok.tickets ?_ fun t ht => ?_
      · rw [List.length_modify]; exact ok.tl
      · rcases mem_mod ht with h | ⟨y, h, rfl⟩
        · exact .inl h
        · have b := ok.tk y (List.mem_of_getElem? h)
          refine .inr ⟨b.1, b.2.1, b.2.2.1, fun _ => b.2.2.2 ?_⟩
          rw [ticket_get h] at h2
          omega
    · rw [cancel_no c]; exact ok
  | days n =>
    simp only [Abs.does]
    split
    · exact ok
    exact ⟨⟨pl.s1, pl.s2, pl.n2, pl.g1, pl.g2⟩, ok.kl, ok.ll, ok.tl, ok.kk, fun l hl => ⟨(ok.lt l hl).1, Nat.le_trans (ok.lt l hl).2 (Nat.le_add_right _ _)⟩, ok.tk⟩
  | show_ => simp only [Abs.does]; split <;> exact ok
  | test w => simp only [Abs.does]; repeat (first | exact ok | split)
  | allowed w => exact ok
  | tare l => simp only [Abs.does]; repeat (first | exact ok | split)
  | odd l => simp only [Abs.does]; repeat (first | exact ok | split)
  | excess l => simp only [Abs.does]; repeat (first | exact ok | split)
  | fits l => simp only [Abs.does]; repeat (first | exact ok | split)
  | dry k n m => simp only [Abs.does]; repeat (first | exact ok | split)
  | yard => exact ok
  | look t => simp only [Abs.does]; repeat (first | exact ok | split)
  | stock k => simp only [Abs.does]; repeat (first | exact ok | split)
  | enough k n => simp only [Abs.does]; repeat (first | exact ok | split)
  | totals k => simp only [Abs.does]; repeat (first | exact ok | split)
  | trips l => simp only [Abs.does]; repeat (first | exact ok | split)
  | money => exact ok
  | heaviest => simp only [Abs.does]; repeat (first | exact ok | split)
  | sums => exact ok
  | state => exact ok
end Wb

end
section
set_option Elab.async false
set_option linter.all false
set_option maxRecDepth 100000
set_option maxHeartbeats 4000000
/-! One call of a line: its place, its numbers. -/
namespace Wb
/-- the place p with the numbers behind it tells the call -/
inductive CallAs : Int → List Int → Kv319.Call → Prop
  | begin_ (x0 x1 x2 x3 : Nat) : CallAs 0 [(x0 : Int), (x1 : Int), (x2 : Int), (x3 : Int)] (.begin_ x0 x1 x2 x3)
  | kind (x0 x1 x2 : Nat) : CallAs 1 [(x0 : Int), (x1 : Int), (x2 : Int)] (.kind x0 x1 x2)
  | lorry (x0 x1 : Nat) : CallAs 2 [(x0 : Int), (x1 : Int)] (.lorry x0 x1)
  | drift (x0 x1 : Int) : CallAs 3 [x0, x1] (.drift x0 x1)
  | on_ (l : List Nat) : CallAs 4 ((l.length : Int) :: l.map Int.ofNat) (.on_ l)
  | off : CallAs 5 [] .off
  | show_ : CallAs 6 [] .show_
  | zero : CallAs 7 [] .zero
  | test (x0 : Nat) : CallAs 8 [(x0 : Int)] (.test x0)
  | allowed (x0 : Nat) : CallAs 9 [(x0 : Int)] (.allowed x0)
  | arrive (x0 x1 x2 : Nat) : CallAs 10 [(x0 : Int), (x1 : Int), (x2 : Int)] (.arrive x0 x1 x2)
  | leave (x0 x1 : Nat) : CallAs 11 [(x0 : Int), (x1 : Int)] (.leave x0 x1)
  | quick (x0 x1 x2 x3 : Nat) : CallAs 12 [(x0 : Int), (x1 : Int), (x2 : Int), (x3 : Int)] (.quick x0 x1 x2 x3)
  | cancel (x0 : Nat) : CallAs 13 [(x0 : Int)] (.cancel x0)
  | days (x0 : Nat) : CallAs 14 [(x0 : Int)] (.days x0)
  | tare (x0 : Nat) : CallAs 15 [(x0 : Int)] (.tare x0)
  | odd (x0 : Nat) : CallAs 16 [(x0 : Int)] (.odd x0)
  | excess (x0 : Nat) : CallAs 17 [(x0 : Int)] (.excess x0)
  | fits (x0 : Nat) : CallAs 18 [(x0 : Int)] (.fits x0)
  | dry (x0 x1 x2 : Nat) : CallAs 19 [(x0 : Int), (x1 : Int), (x2 : Int)] (.dry x0 x1 x2)
  | yard : CallAs 20 [] .yard
  | look (x0 : Nat) : CallAs 21 [(x0 : Int)] (.look x0)
  | stock (x0 : Nat) : CallAs 22 [(x0 : Int)] (.stock x0)
  | enough (x0 x1 : Nat) : CallAs 23 [(x0 : Int), (x1 : Int)] (.enough x0 x1)
  | totals (x0 : Nat) : CallAs 24 [(x0 : Int)] (.totals x0)
  | trips (x0 : Nat) : CallAs 25 [(x0 : Int)] (.trips x0)
  | money : CallAs 26 [] .money
  | heaviest : CallAs 27 [] .heaviest
  | sums : CallAs 28 [] .sums
  | state : CallAs 29 [] .state
def widths : List Int := [4, 3, 2, 2, 1, 0, 0, 0, 1, 1, 3, 2, 4, 1, 1, 1, 1, 1, 1, 3, 0, 1, 1, 2, 1, 1, 0, 0, 0, 0]
theorem call0 {p : Int} {r : List Int} {c : List (List Int)} {t : List Int} {n : Nat} (hs : PyKv319.shape p = some (n, 0)) (h : PyFlat.call PyKv319.shape (p :: r) = some (c, t)) : n ≤ r.length ∧ c = [p :: r.take n] ∧ t = r.drop n := by
  unfold PyFlat.call at h
  dsimp only at h
  rw [hs] at h
  dsimp only at h
  by_cases c1 : r.length < n
  · rw [if_pos c1] at h; cases h
  · rw [if_neg c1] at h
    unfold PyFlat.rows at h
    injection h with h
    injection h with h1 h2
    exact ⟨by omega, h1.symm, h2.symm⟩
theorem call1 {p : Int} {r : List Int} {c : List (List Int)} {t : List Int} (hs : PyKv319.shape p = some (0, 1)) (h : PyFlat.call PyKv319.shape (p :: r) = some (c, t)) : ∃ m g, r = m :: (g ++ t) ∧ (g.length : Int) = m ∧ c = [[p], g] := by
  unfold PyFlat.call at h
  dsimp only at h
  rw [hs] at h
  dsimp only at h
  rw [if_neg (Nat.not_lt_zero _)] at h
  unfold PyFlat.rows PyFlat.row at h
  cases r with
  | nil => cases h
  | cons m r =>
    rw [List.drop_zero] at h
    dsimp only at h
    by_cases c1 : 0 ≤ m ∧ m.toNat ≤ r.length
    · rw [if_pos c1] at h
      unfold PyFlat.rows at h
      dsimp only at h
      injection h with h
      injection h with h1 h2
      refine ⟨m, r.take m.toNat, ?_, ?_, ?_⟩
      · rw [← h2, List.take_append_drop]
      · rw [List.length_take, Nat.min_eq_left c1.2]; omega
      · rw [← h1]; rfl
    · rw [if_neg c1] at h; cases h
theorem shape_in {p : Int} (h : PyKv319.shape p ≠ none) : 0 ≤ p ∧ p < 30 := by
  by_cases c : 0 ≤ p ∧ p < 30
  · exact c
  · refine absurd ?_ h
    unfold PyKv319.shape
    rw [if_neg (by omega), if_neg (by omega), if_neg (by omega), if_neg (by omega), if_neg (by omega), if_neg (by omega), if_neg (by omega), if_neg (by omega), if_neg (by omega), if_neg (by omega), if_neg (by omega), if_neg (by omega), if_neg (by omega), if_neg (by omega), if_neg (by omega), if_neg (by omega), if_neg (by omega), if_neg (by omega), if_neg (by omega), if_neg (by omega), if_neg (by omega), if_neg (by omega), if_neg (by omega), if_neg (by omega), if_neg (by omega), if_neg (by omega), if_neg (by omega), if_neg (by omega), if_neg (by omega), if_neg (by omega)]
theorem ints_of : ∀ {l : List Int}, (∀ x ∈ l, 0 ≤ x) → (l.map Int.toNat).map Int.ofNat = l
  | [], _ => rfl
  | x :: r, h => by
    rw [List.map_cons, List.map_cons, ints_of fun y hy => h y (List.mem_cons_of_mem _ hy)]
    congr 1
    exact Int.toNat_of_nonneg (h x List.mem_cons_self)
structure Parsed (p : Int) (r t : List Int) (c : List (List Int)) (cc : Kv319.Call) (giv : List Int) : Prop where
  of_ : Kv319Neutral.callOf (PyKv319.whole c) = some cc
  as_ : CallAs p giv cc
  split : r = giv ++ t
  wide : p ≠ 4 → widths[p.toNat]? = some (giv.length : Int)
  row : p = 4 → ∃ m g, giv = m :: g ∧ (g.length : Int) = m
theorem parse_0 {r : List Int} {c : List (List Int)} {t : List Int} (h : PyFlat.call PyKv319.shape (0 :: r) = some (c, t)) (hb : PyInside.call PyKv319.bound c = true) : ∃ cc giv, Parsed 0 r t c cc giv := by
  obtain ⟨h1, rfl, rfl⟩ := call0 (n := 4) rfl h
  match r, h1, hb with
  | x0 :: x1 :: x2 :: x3 :: r, _, hb =>
    have hb : ((PyInside.within 0 4294967295 x0 && (PyInside.within 0 4294967295 x1 && (PyInside.within 0 4294967295 x2 && (PyInside.within 0 4294967295 x3 && true)))) && true) = true := hb
    simp only [Bool.and_eq_true, PyInside.within, decide_eq_true_eq] at hb
    refine ⟨.begin_ x0.toNat x1.toNat x2.toNat x3.toNat, [x0, x1, x2, x3], rfl, ?_, rfl, fun _ => rfl, fun e => absurd e (by decide)⟩
    have := CallAs.begin_ x0.toNat x1.toNat x2.toNat x3.toNat
    rw [Int.toNat_of_nonneg (show 0 ≤ x0 by omega), Int.toNat_of_nonneg (show 0 ≤ x1 by omega), Int.toNat_of_nonneg (show 0 ≤ x2 by omega), Int.toNat_of_nonneg (show 0 ≤ x3 by omega)] at this
    exact this
theorem parse_1 {r : List Int} {c : List (List Int)} {t : List Int} (h : PyFlat.call PyKv319.shape (1 :: r) = some (c, t)) (hb : PyInside.call PyKv319.bound c = true) : ∃ cc giv, Parsed 1 r t c cc giv := by
  obtain ⟨h1, rfl, rfl⟩ := call0 (n := 3) rfl h
  match r, h1, hb with
  | x0 :: x1 :: x2 :: r, _, hb =>
    have hb : ((PyInside.within 0 4294967295 x0 && (PyInside.within 0 4294967295 x1 && (PyInside.within 0 4294967295 x2 && true))) && true) = true := hb
    simp only [Bool.and_eq_true, PyInside.within, decide_eq_true_eq] at hb
    refine ⟨.kind x0.toNat x1.toNat x2.toNat, [x0, x1, x2], rfl, ?_, rfl, fun _ => rfl, fun e => absurd e (by decide)⟩
    have := CallAs.kind x0.toNat x1.toNat x2.toNat
    rw [Int.toNat_of_nonneg (show 0 ≤ x0 by omega), Int.toNat_of_nonneg (show 0 ≤ x1 by omega), Int.toNat_of_nonneg (show 0 ≤ x2 by omega)] at this
    exact this
theorem parse_2 {r : List Int} {c : List (List Int)} {t : List Int} (h : PyFlat.call PyKv319.shape (2 :: r) = some (c, t)) (hb : PyInside.call PyKv319.bound c = true) : ∃ cc giv, Parsed 2 r t c cc giv := by
  obtain ⟨h1, rfl, rfl⟩ := call0 (n := 2) rfl h
  match r, h1, hb with
  | x0 :: x1 :: r, _, hb =>
    have hb : ((PyInside.within 0 4294967295 x0 && (PyInside.within 0 4294967295 x1 && true)) && true) = true := hb
    simp only [Bool.and_eq_true, PyInside.within, decide_eq_true_eq] at hb
    refine ⟨.lorry x0.toNat x1.toNat, [x0, x1], rfl, ?_, rfl, fun _ => rfl, fun e => absurd e (by decide)⟩
    have := CallAs.lorry x0.toNat x1.toNat
    rw [Int.toNat_of_nonneg (show 0 ≤ x0 by omega), Int.toNat_of_nonneg (show 0 ≤ x1 by omega)] at this
    exact this
theorem parse_3 {r : List Int} {c : List (List Int)} {t : List Int} (h : PyFlat.call PyKv319.shape (3 :: r) = some (c, t)) (hb : PyInside.call PyKv319.bound c = true) : ∃ cc giv, Parsed 3 r t c cc giv := by
  obtain ⟨h1, rfl, rfl⟩ := call0 (n := 2) rfl h
  match r, h1, hb with
  | x0 :: x1 :: r, _, hb =>
    exact ⟨.drift x0 x1, [x0, x1], rfl, .drift x0 x1, rfl, fun _ => rfl, fun e => absurd e (by decide)⟩
theorem parse_4 {r : List Int} {c : List (List Int)} {t : List Int} (h : PyFlat.call PyKv319.shape (4 :: r) = some (c, t)) (hb : PyInside.call PyKv319.bound c = true) : ∃ cc giv, Parsed 4 r t c cc giv := by
  obtain ⟨m, g, rfl, e, rfl⟩ := call1 rfl h
  have hb : ((true && (decide (0 ≤ g.length) && decide (g.length ≤ 40) && g.all (PyInside.within 0 65535) && true)) = true) := hb
  simp only [Bool.and_eq_true, List.all_eq_true] at hb
  have hg : ∀ x ∈ g, 0 ≤ x := fun x hx => by
    have := hb.2.1.2 x hx
    unfold PyInside.within at this
    simp only [Bool.and_eq_true, decide_eq_true_eq] at this
    exact this.1
  refine ⟨.on_ (g.map Int.toNat), m :: g, rfl, ?_, rfl, fun h => absurd rfl h, fun _ => ⟨m, g, rfl, e⟩⟩
  have := CallAs.on_ (g.map Int.toNat)
  rw [ints_of hg, List.length_map, e] at this
  exact this
theorem parse_5 {r : List Int} {c : List (List Int)} {t : List Int} (h : PyFlat.call PyKv319.shape (5 :: r) = some (c, t)) (hb : PyInside.call PyKv319.bound c = true) : ∃ cc giv, Parsed 5 r t c cc giv := by
  obtain ⟨h1, rfl, rfl⟩ := call0 (n := 0) rfl h
  exact ⟨.off, [], rfl, .off, rfl, fun _ => rfl, fun e => absurd e (by decide)⟩
theorem parse_6 {r : List Int} {c : List (List Int)} {t : List Int} (h : PyFlat.call PyKv319.shape (6 :: r) = some (c, t)) (hb : PyInside.call PyKv319.bound c = true) : ∃ cc giv, Parsed 6 r t c cc giv := by
  obtain ⟨h1, rfl, rfl⟩ := call0 (n := 0) rfl h
  exact ⟨.show_, [], rfl, .show_, rfl, fun _ => rfl, fun e => absurd e (by decide)⟩
theorem parse_7 {r : List Int} {c : List (List Int)} {t : List Int} (h : PyFlat.call PyKv319.shape (7 :: r) = some (c, t)) (hb : PyInside.call PyKv319.bound c = true) : ∃ cc giv, Parsed 7 r t c cc giv := by
  obtain ⟨h1, rfl, rfl⟩ := call0 (n := 0) rfl h
  exact ⟨.zero, [], rfl, .zero, rfl, fun _ => rfl, fun e => absurd e (by decide)⟩
theorem parse_8 {r : List Int} {c : List (List Int)} {t : List Int} (h : PyFlat.call PyKv319.shape (8 :: r) = some (c, t)) (hb : PyInside.call PyKv319.bound c = true) : ∃ cc giv, Parsed 8 r t c cc giv := by
  obtain ⟨h1, rfl, rfl⟩ := call0 (n := 1) rfl h
  match r, h1, hb with
  | x0 :: r, _, hb =>
    have hb : ((PyInside.within 0 4294967295 x0 && true) && true) = true := hb
    simp only [Bool.and_eq_true, PyInside.within, decide_eq_true_eq] at hb
    refine ⟨.test x0.toNat, [x0], rfl, ?_, rfl, fun _ => rfl, fun e => absurd e (by decide)⟩
    have := CallAs.test x0.toNat
    rw [Int.toNat_of_nonneg (show 0 ≤ x0 by omega)] at this
    exact this
theorem parse_9 {r : List Int} {c : List (List Int)} {t : List Int} (h : PyFlat.call PyKv319.shape (9 :: r) = some (c, t)) (hb : PyInside.call PyKv319.bound c = true) : ∃ cc giv, Parsed 9 r t c cc giv := by
  obtain ⟨h1, rfl, rfl⟩ := call0 (n := 1) rfl h
  match r, h1, hb with
  | x0 :: r, _, hb =>
    have hb : ((PyInside.within 0 4294967295 x0 && true) && true) = true := hb
    simp only [Bool.and_eq_true, PyInside.within, decide_eq_true_eq] at hb
    refine ⟨.allowed x0.toNat, [x0], rfl, ?_, rfl, fun _ => rfl, fun e => absurd e (by decide)⟩
    have := CallAs.allowed x0.toNat
    rw [Int.toNat_of_nonneg (show 0 ≤ x0 by omega)] at this
    exact this
theorem parse_10 {r : List Int} {c : List (List Int)} {t : List Int} (h : PyFlat.call PyKv319.shape (10 :: r) = some (c, t)) (hb : PyInside.call PyKv319.bound c = true) : ∃ cc giv, Parsed 10 r t c cc giv := by
  obtain ⟨h1, rfl, rfl⟩ := call0 (n := 3) rfl h
  match r, h1, hb with
  | x0 :: x1 :: x2 :: r, _, hb =>
    have hb : ((PyInside.within 0 4294967295 x0 && (PyInside.within 0 4294967295 x1 && (PyInside.within 0 4294967295 x2 && true))) && true) = true := hb
    simp only [Bool.and_eq_true, PyInside.within, decide_eq_true_eq] at hb
    refine ⟨.arrive x0.toNat x1.toNat x2.toNat, [x0, x1, x2], rfl, ?_, rfl, fun _ => rfl, fun e => absurd e (by decide)⟩
    have := CallAs.arrive x0.toNat x1.toNat x2.toNat
    rw [Int.toNat_of_nonneg (show 0 ≤ x0 by omega), Int.toNat_of_nonneg (show 0 ≤ x1 by omega), Int.toNat_of_nonneg (show 0 ≤ x2 by omega)] at this
    exact this
theorem parse_11 {r : List Int} {c : List (List Int)} {t : List Int} (h : PyFlat.call PyKv319.shape (11 :: r) = some (c, t)) (hb : PyInside.call PyKv319.bound c = true) : ∃ cc giv, Parsed 11 r t c cc giv := by
  obtain ⟨h1, rfl, rfl⟩ := call0 (n := 2) rfl h
  match r, h1, hb with
  | x0 :: x1 :: r, _, hb =>
    have hb : ((PyInside.within 0 4294967295 x0 && (PyInside.within 0 4294967295 x1 && true)) && true) = true := hb
    simp only [Bool.and_eq_true, PyInside.within, decide_eq_true_eq] at hb
    refine ⟨.leave x0.toNat x1.toNat, [x0, x1], rfl, ?_, rfl, fun _ => rfl, fun e => absurd e (by decide)⟩
    have := CallAs.leave x0.toNat x1.toNat
    rw [Int.toNat_of_nonneg (show 0 ≤ x0 by omega), Int.toNat_of_nonneg (show 0 ≤ x1 by omega)] at this
    exact this
theorem parse_12 {r : List Int} {c : List (List Int)} {t : List Int} (h : PyFlat.call PyKv319.shape (12 :: r) = some (c, t)) (hb : PyInside.call PyKv319.bound c = true) : ∃ cc giv, Parsed 12 r t c cc giv := by
  obtain ⟨h1, rfl, rfl⟩ := call0 (n := 4) rfl h
  match r, h1, hb with
  | x0 :: x1 :: x2 :: x3 :: r, _, hb =>
    have hb : ((PyInside.within 0 4294967295 x0 && (PyInside.within 0 4294967295 x1 && (PyInside.within 0 4294967295 x2 && (PyInside.within 0 4294967295 x3 && true)))) && true) = true := hb
    simp only [Bool.and_eq_true, PyInside.within, decide_eq_true_eq] at hb
    refine ⟨.quick x0.toNat x1.toNat x2.toNat x3.toNat, [x0, x1, x2, x3], rfl, ?_, rfl, fun _ => rfl, fun e => absurd e (by decide)⟩
    have := CallAs.quick x0.toNat x1.toNat x2.toNat x3.toNat
    rw [Int.toNat_of_nonneg (show 0 ≤ x0 by omega), Int.toNat_of_nonneg (show 0 ≤ x1 by omega), Int.toNat_of_nonneg (show 0 ≤ x2 by omega), Int.toNat_of_nonneg (show 0 ≤ x3 by omega)] at this
    exact this
theorem parse_13 {r : List Int} {c : List (List Int)} {t : List Int} (h : PyFlat.call PyKv319.shape (13 :: r) = some (c, t)) (hb : PyInside.call PyKv319.bound c = true) : ∃ cc giv, Parsed 13 r t c cc giv := by
  obtain ⟨h1, rfl, rfl⟩ := call0 (n := 1) rfl h
  match r, h1, hb with
  | x0 :: r, _, hb =>
    have hb : ((PyInside.within 0 4294967295 x0 && true) && true) = true := hb
    simp only [Bool.and_eq_true, PyInside.within, decide_eq_true_eq] at hb
    refine ⟨.cancel x0.toNat, [x0], rfl, ?_, rfl, fun _ => rfl, fun e => absurd e (by decide)⟩
    have := CallAs.cancel x0.toNat
    rw [Int.toNat_of_nonneg (show 0 ≤ x0 by omega)] at this
    exact this
theorem parse_14 {r : List Int} {c : List (List Int)} {t : List Int} (h : PyFlat.call PyKv319.shape (14 :: r) = some (c, t)) (hb : PyInside.call PyKv319.bound c = true) : ∃ cc giv, Parsed 14 r t c cc giv := by
  obtain ⟨h1, rfl, rfl⟩ := call0 (n := 1) rfl h
  match r, h1, hb with
  | x0 :: r, _, hb =>
    have hb : ((PyInside.within 0 4294967295 x0 && true) && true) = true := hb
    simp only [Bool.and_eq_true, PyInside.within, decide_eq_true_eq] at hb
    refine ⟨.days x0.toNat, [x0], rfl, ?_, rfl, fun _ => rfl, fun e => absurd e (by decide)⟩
    have := CallAs.days x0.toNat
    rw [Int.toNat_of_nonneg (show 0 ≤ x0 by omega)] at this
    exact this
theorem parse_15 {r : List Int} {c : List (List Int)} {t : List Int} (h : PyFlat.call PyKv319.shape (15 :: r) = some (c, t)) (hb : PyInside.call PyKv319.bound c = true) : ∃ cc giv, Parsed 15 r t c cc giv := by
  obtain ⟨h1, rfl, rfl⟩ := call0 (n := 1) rfl h
  match r, h1, hb with
  | x0 :: r, _, hb =>
    have hb : ((PyInside.within 0 4294967295 x0 && true) && true) = true := hb
    simp only [Bool.and_eq_true, PyInside.within, decide_eq_true_eq] at hb
    refine ⟨.tare x0.toNat, [x0], rfl, ?_, rfl, fun _ => rfl, fun e => absurd e (by decide)⟩
    have := CallAs.tare x0.toNat
    rw [Int.toNat_of_nonneg (show 0 ≤ x0 by omega)] at this
    exact this
theorem parse_16 {r : List Int} {c : List (List Int)} {t : List Int} (h : PyFlat.call PyKv319.shape (16 :: r) = some (c, t)) (hb : PyInside.call PyKv319.bound c = true) : ∃ cc giv, Parsed 16 r t c cc giv := by
  obtain ⟨h1, rfl, rfl⟩ := call0 (n := 1) rfl h
  match r, h1, hb with
  | x0 :: r, _, hb =>
    have hb : ((PyInside.within 0 4294967295 x0 && true) && true) = true := hb
    simp only [Bool.and_eq_true, PyInside.within, decide_eq_true_eq] at hb
    refine ⟨.odd x0.toNat, [x0], rfl, ?_, rfl, fun _ => rfl, fun e => absurd e (by decide)⟩
    have := CallAs.odd x0.toNat
    rw [Int.toNat_of_nonneg (show 0 ≤ x0 by omega)] at this
    exact this
theorem parse_17 {r : List Int} {c : List (List Int)} {t : List Int} (h : PyFlat.call PyKv319.shape (17 :: r) = some (c, t)) (hb : PyInside.call PyKv319.bound c = true) : ∃ cc giv, Parsed 17 r t c cc giv := by
  obtain ⟨h1, rfl, rfl⟩ := call0 (n := 1) rfl h
  match r, h1, hb with
  | x0 :: r, _, hb =>
    have hb : ((PyInside.within 0 4294967295 x0 && true) && true) = true := hb
    simp only [Bool.and_eq_true, PyInside.within, decide_eq_true_eq] at hb
    refine ⟨.excess x0.toNat, [x0], rfl, ?_, rfl, fun _ => rfl, fun e => absurd e (by decide)⟩
    have := CallAs.excess x0.toNat
    rw [Int.toNat_of_nonneg (show 0 ≤ x0 by omega)] at this
    exact this
theorem parse_18 {r : List Int} {c : List (List Int)} {t : List Int} (h : PyFlat.call PyKv319.shape (18 :: r) = some (c, t)) (hb : PyInside.call PyKv319.bound c = true) : ∃ cc giv, Parsed 18 r t c cc giv := by
  obtain ⟨h1, rfl, rfl⟩ := call0 (n := 1) rfl h
  match r, h1, hb with
  | x0 :: r, _, hb =>
    have hb : ((PyInside.within 0 4294967295 x0 && true) && true) = true := hb
    simp only [Bool.and_eq_true, PyInside.within, decide_eq_true_eq] at hb
    refine ⟨.fits x0.toNat, [x0], rfl, ?_, rfl, fun _ => rfl, fun e => absurd e (by decide)⟩
    have := CallAs.fits x0.toNat
    rw [Int.toNat_of_nonneg (show 0 ≤ x0 by omega)] at this
    exact this
theorem parse_19 {r : List Int} {c : List (List Int)} {t : List Int} (h : PyFlat.call PyKv319.shape (19 :: r) = some (c, t)) (hb : PyInside.call PyKv319.bound c = true) : ∃ cc giv, Parsed 19 r t c cc giv := by
  obtain ⟨h1, rfl, rfl⟩ := call0 (n := 3) rfl h
  match r, h1, hb with
  | x0 :: x1 :: x2 :: r, _, hb =>
    have hb : ((PyInside.within 0 4294967295 x0 && (PyInside.within 0 4294967295 x1 && (PyInside.within 0 4294967295 x2 && true))) && true) = true := hb
    simp only [Bool.and_eq_true, PyInside.within, decide_eq_true_eq] at hb
    refine ⟨.dry x0.toNat x1.toNat x2.toNat, [x0, x1, x2], rfl, ?_, rfl, fun _ => rfl, fun e => absurd e (by decide)⟩
    have := CallAs.dry x0.toNat x1.toNat x2.toNat
    rw [Int.toNat_of_nonneg (show 0 ≤ x0 by omega), Int.toNat_of_nonneg (show 0 ≤ x1 by omega), Int.toNat_of_nonneg (show 0 ≤ x2 by omega)] at this
    exact this
theorem parse_20 {r : List Int} {c : List (List Int)} {t : List Int} (h : PyFlat.call PyKv319.shape (20 :: r) = some (c, t)) (hb : PyInside.call PyKv319.bound c = true) : ∃ cc giv, Parsed 20 r t c cc giv := by
  obtain ⟨h1, rfl, rfl⟩ := call0 (n := 0) rfl h
  exact ⟨.yard, [], rfl, .yard, rfl, fun _ => rfl, fun e => absurd e (by decide)⟩
theorem parse_21 {r : List Int} {c : List (List Int)} {t : List Int} (h : PyFlat.call PyKv319.shape (21 :: r) = some (c, t)) (hb : PyInside.call PyKv319.bound c = true) : ∃ cc giv, Parsed 21 r t c cc giv := by
  obtain ⟨h1, rfl, rfl⟩ := call0 (n := 1) rfl h
  match r, h1, hb with
  | x0 :: r, _, hb =>
    have hb : ((PyInside.within 0 4294967295 x0 && true) && true) = true := hb
    simp only [Bool.and_eq_true, PyInside.within, decide_eq_true_eq] at hb
    refine ⟨.look x0.toNat, [x0], rfl, ?_, rfl, fun _ => rfl, fun e => absurd e (by decide)⟩
    have := CallAs.look x0.toNat
    rw [Int.toNat_of_nonneg (show 0 ≤ x0 by omega)] at this
    exact this
theorem parse_22 {r : List Int} {c : List (List Int)} {t : List Int} (h : PyFlat.call PyKv319.shape (22 :: r) = some (c, t)) (hb : PyInside.call PyKv319.bound c = true) : ∃ cc giv, Parsed 22 r t c cc giv := by
  obtain ⟨h1, rfl, rfl⟩ := call0 (n := 1) rfl h
  match r, h1, hb with
  | x0 :: r, _, hb =>
    have hb : ((PyInside.within 0 4294967295 x0 && true) && true) = true := hb
    simp only [Bool.and_eq_true, PyInside.within, decide_eq_true_eq] at hb
    refine ⟨.stock x0.toNat, [x0], rfl, ?_, rfl, fun _ => rfl, fun e => absurd e (by decide)⟩
    have := CallAs.stock x0.toNat
    rw [Int.toNat_of_nonneg (show 0 ≤ x0 by omega)] at this
    exact this
theorem parse_23 {r : List Int} {c : List (List Int)} {t : List Int} (h : PyFlat.call PyKv319.shape (23 :: r) = some (c, t)) (hb : PyInside.call PyKv319.bound c = true) : ∃ cc giv, Parsed 23 r t c cc giv := by
  obtain ⟨h1, rfl, rfl⟩ := call0 (n := 2) rfl h
  match r, h1, hb with
  | x0 :: x1 :: r, _, hb =>
    have hb : ((PyInside.within 0 4294967295 x0 && (PyInside.within 0 4294967295 x1 && true)) && true) = true := hb
    simp only [Bool.and_eq_true, PyInside.within, decide_eq_true_eq] at hb
    refine ⟨.enough x0.toNat x1.toNat, [x0, x1], rfl, ?_, rfl, fun _ => rfl, fun e => absurd e (by decide)⟩
    have := CallAs.enough x0.toNat x1.toNat
    rw [Int.toNat_of_nonneg (show 0 ≤ x0 by omega), Int.toNat_of_nonneg (show 0 ≤ x1 by omega)] at this
    exact this
theorem parse_24 {r : List Int} {c : List (List Int)} {t : List Int} (h : PyFlat.call PyKv319.shape (24 :: r) = some (c, t)) (hb : PyInside.call PyKv319.bound c = true) : ∃ cc giv, Parsed 24 r t c cc giv := by
  obtain ⟨h1, rfl, rfl⟩ := call0 (n := 1) rfl h
  match r, h1, hb with
  | x0 :: r, _, hb =>
    have hb : ((PyInside.within 0 4294967295 x0 && true) && true) = true := hb
    simp only [Bool.and_eq_true, PyInside.within, decide_eq_true_eq] at hb
    refine ⟨.totals x0.toNat, [x0], rfl, ?_, rfl, fun _ => rfl, fun e => absurd e (by decide)⟩
    have := CallAs.totals x0.toNat
    rw [Int.toNat_of_nonneg (show 0 ≤ x0 by omega)] at this
    exact this
theorem parse_25 {r : List Int} {c : List (List Int)} {t : List Int} (h : PyFlat.call PyKv319.shape (25 :: r) = some (c, t)) (hb : PyInside.call PyKv319.bound c = true) : ∃ cc giv, Parsed 25 r t c cc giv := by
  obtain ⟨h1, rfl, rfl⟩ := call0 (n := 1) rfl h
  match r, h1, hb with
  | x0 :: r, _, hb =>
    have hb : ((PyInside.within 0 4294967295 x0 && true) && true) = true := hb
    simp only [Bool.and_eq_true, PyInside.within, decide_eq_true_eq] at hb
    refine ⟨.trips x0.toNat, [x0], rfl, ?_, rfl, fun _ => rfl, fun e => absurd e (by decide)⟩
    have := CallAs.trips x0.toNat
    rw [Int.toNat_of_nonneg (show 0 ≤ x0 by omega)] at this
    exact this
theorem parse_26 {r : List Int} {c : List (List Int)} {t : List Int} (h : PyFlat.call PyKv319.shape (26 :: r) = some (c, t)) (hb : PyInside.call PyKv319.bound c = true) : ∃ cc giv, Parsed 26 r t c cc giv := by
  obtain ⟨h1, rfl, rfl⟩ := call0 (n := 0) rfl h
  exact ⟨.money, [], rfl, .money, rfl, fun _ => rfl, fun e => absurd e (by decide)⟩
theorem parse_27 {r : List Int} {c : List (List Int)} {t : List Int} (h : PyFlat.call PyKv319.shape (27 :: r) = some (c, t)) (hb : PyInside.call PyKv319.bound c = true) : ∃ cc giv, Parsed 27 r t c cc giv := by
  obtain ⟨h1, rfl, rfl⟩ := call0 (n := 0) rfl h
  exact ⟨.heaviest, [], rfl, .heaviest, rfl, fun _ => rfl, fun e => absurd e (by decide)⟩
theorem parse_28 {r : List Int} {c : List (List Int)} {t : List Int} (h : PyFlat.call PyKv319.shape (28 :: r) = some (c, t)) (hb : PyInside.call PyKv319.bound c = true) : ∃ cc giv, Parsed 28 r t c cc giv := by
  obtain ⟨h1, rfl, rfl⟩ := call0 (n := 0) rfl h
  exact ⟨.sums, [], rfl, .sums, rfl, fun _ => rfl, fun e => absurd e (by decide)⟩
theorem parse_29 {r : List Int} {c : List (List Int)} {t : List Int} (h : PyFlat.call PyKv319.shape (29 :: r) = some (c, t)) (hb : PyInside.call PyKv319.bound c = true) : ∃ cc giv, Parsed 29 r t c cc giv := by
  obtain ⟨h1, rfl, rfl⟩ := call0 (n := 0) rfl h
  exact ⟨.state, [], rfl, .state, rfl, fun _ => rfl, fun e => absurd e (by decide)⟩
theorem parse1 {p : Int} {r : List Int} {c : List (List Int)} {t : List Int} (h : PyFlat.call PyKv319.shape (p :: r) = some (c, t)) (hb : PyInside.call PyKv319.bound c = true) : 0 ≤ p ∧ p < 30 ∧ ∃ cc giv, Parsed p r t c cc giv := by
  have hs : PyKv319.shape p ≠ none := fun e => by
    unfold PyFlat.call at h
    dsimp only at h
    rw [e] at h
    cases h
  obtain ⟨h0, h1⟩ := shape_in hs
  refine ⟨h0, h1, ?_⟩
  obtain ⟨n, rfl⟩ := Int.eq_ofNat_of_zero_le h0
  have h2 : n < 30 := by omega
  match n, h2 with
  | 0, _ => exact parse_0 h hb
  | 1, _ => exact parse_1 h hb
  | 2, _ => exact parse_2 h hb
  | 3, _ => exact parse_3 h hb
  | 4, _ => exact parse_4 h hb
  | 5, _ => exact parse_5 h hb
  | 6, _ => exact parse_6 h hb
  | 7, _ => exact parse_7 h hb
  | 8, _ => exact parse_8 h hb
  | 9, _ => exact parse_9 h hb
  | 10, _ => exact parse_10 h hb
  | 11, _ => exact parse_11 h hb
  | 12, _ => exact parse_12 h hb
  | 13, _ => exact parse_13 h hb
  | 14, _ => exact parse_14 h hb
  | 15, _ => exact parse_15 h hb
  | 16, _ => exact parse_16 h hb
  | 17, _ => exact parse_17 h hb
  | 18, _ => exact parse_18 h hb
  | 19, _ => exact parse_19 h hb
  | 20, _ => exact parse_20 h hb
  | 21, _ => exact parse_21 h hb
  | 22, _ => exact parse_22 h hb
  | 23, _ => exact parse_23 h hb
  | 24, _ => exact parse_24 h hb
  | 25, _ => exact parse_25 h hb
  | 26, _ => exact parse_26 h hb
  | 27, _ => exact parse_27 h hb
  | 28, _ => exact parse_28 h hb
  | 29, _ => exact parse_29 h hb
end Wb

end
section
set_option Elab.async false
set_option linter.all false
set_option maxRecDepth 100000
set_option maxHeartbeats 4000000
/-! The line: no yard before a begin that answers 0. -/
namespace Wb
open PySem PySem.Spec PyProof.Rows L2
/-- what the line owns: itself, and its yard's parts -/
def Own (cs : Cs) (n : Addr) (a : Kv319.Abs) (L D : Tag → Addr) : Addr → Prop := fun b => b = n ∨ ∃ t x, cont cs a L D t = some x ∧ b = L t
/-- the line at n stands for st; F: what it owns -/
def LineAt (cs : Cs) (H : Hp) (n : Addr) (st : Kv319.State) (F : Addr → Prop) : Prop :=
  match st with
  | none => (∃ dn, H n = some (.ins cs.Line dn [("yard", .non)])) ∧ F = fun b => b = n
  | some a => ∃ dn L D, H n = some (.ins cs.Line dn [("yard", .ref (L .yard))]) ∧ Y cs H L D a ∧ Ok a ∧ (∀ t x, cont cs a L D t = some x → n ≠ L t) ∧ F = Own cs n a L D
theorem LineAt.same {cs : Cs} {H H' : Hp} {n : Addr} {F : Addr → Prop} : ∀ {st : Kv319.State}, LineAt cs H n st F → Same H H' → LineAt cs H' n st F
  | none, ⟨⟨dn, h⟩, e⟩, s => ⟨⟨dn, s _ _ h⟩, e⟩
  | some a, ⟨dn, L, D, h, y, ok, ne, e⟩, s => ⟨dn, L, D, s _ _ h, y.same s, ok, ne, e⟩
theorem LineAt.self {cs : Cs} {H : Hp} {n : Addr} {F : Addr → Prop} : ∀ {st : Kv319.State}, LineAt cs H n st F → F n
  | none, ⟨_, e⟩ => by rw [e]
  | some a, ⟨_, _, _, _, _, _, _, e⟩ => by rw [e]; exact .inl rfl
theorem LineAt.live {cs : Cs} {H : Hp} {n : Addr} {F : Addr → Prop} : ∀ {st : Kv319.State}, LineAt cs H n st F → ∃ o, H n = some o
  | none, ⟨⟨_, h⟩, _⟩ => ⟨_, h⟩
  | some a, ⟨_, _, _, h, _⟩ => ⟨_, h⟩
/-- what a call of the line promises -/
def DidL (cs : Cs) (H : Hp) (n : Addr) (F : Addr → Prop) (r : Kv319.State × Kv319.Ans) (Q : VK) : Prop :=
  ∀ (H' : Hp) (F' : Addr → Prop) (q : Addr), LineAt cs H' n r.1 F' → (∀ b o, H b = some o → ¬ F b → H' b = some o) → (∀ b, F' b → F b ∨ H b = none) → H q = none → H' q = some (iL (r.2.ret :: r.2.nums)) → Q (.ref q) H'
theorem DidL.same {cs : Cs} {H H1 : Hp} {n : Addr} {F : Addr → Prop} {st : Kv319.State} {v : Kv319.Ans} {Q : VK} (d : DidL cs H n F (st, v) Q) (y : LineAt cs H n st F) (s : Same H H1) {q : Addr} (hq : H1 q = none) : Q (.ref q) (upd H1 q (iL (v.ret :: v.nums))) := by
  have s2 : Same H (upd H1 q (iL (v.ret :: v.nums))) := s.trans (same_new hq)
  exact d _ F q (y.same s2) (fun b o e _ => s2 b o e) (fun b h => .inl h) (s.free hq) upd_same
theorem DidL.yard {cs : Cs} {H : Hp} {n dn : Addr} {L D : Tag → Addr} {a : Kv319.Abs} {c : Kv319.Call} {Q : VK} (d : DidL cs H n (Own cs n a L D) (Kv319.act (some a) c) Q) (hn : H n = some (.ins cs.Line dn [("yard", .ref (L .yard))])) (ok : Ok a)
    (ne : ∀ t x, cont cs a L D t = some x → n ≠ L t) : Did cs H L D a (a.does c) Q := by
  intro H' L' D' q y st hq h'
  have ne' : ∀ t x, cont cs (a.does c).1 L' D' t = some x → n ≠ L' t := fun t x e z => by
    rcases st.own t x e with ⟨t0, x0, q0, e0⟩ | e0
    · exact ne t0 x0 q0 (z.trans e0)
    · rw [← z, hn] at e0; cases e0
  refine d H' (Own cs n (a.does c).1 L' D') q ⟨dn, L', D', ?_, y, ok_does ok c, ne', rfl⟩ (fun b o e f => st.keep b o e fun t x q0 z => f (.inr ⟨t, x, q0, z⟩)) (fun b h => ?_) hq h'
  · rw [st.home]
    exact st.keep n _ hn ne
  · rcases h with h | ⟨t, x, q0, e⟩
    · exact .inl (.inl h)
    · rcases st.own t x q0 with ⟨t0, x0, q1, e1⟩ | e1
      · exact .inl (.inr ⟨t0, x0, q1, e.trans e1⟩)
      · exact .inr (by rw [e]; exact e1)
theorem act_begin (st : Kv319.State) (d n y g : Nat) : Kv319.act st (.begin_ d n y g) = if rangeI d n y g = true then (some (Kv319.begun d n y g), Kv319.say 0) else (st, Kv319.say (-22)) := by
  have key : ∀ a : Kv319.Abs, a.does (.begin_ d n y g) = if rangeI d n y g = true then (Kv319.begun d n y g, Kv319.say 0) else (a, Kv319.say (-22)) := fun a => by
    simp only [Kv319.Abs.does, rangeI, decide_eq_true_eq]
    by_cases c : d = 0 ∨ 100 < d ∨ n < 100 ∨ 5000 < n ∨ y = 0 ∨ 8 < y ∨ 365 < g
    · rw [if_pos c, if_neg (by omega)]
    · rw [if_neg c, if_pos (by omega)]
  cases st with
  | none =>
    show (if ((Kv319.begun 1 100 1 0).does (.begin_ d n y g)).2.ret < 0 then (none, _) else _) = _
    rw [key]
    by_cases c : rangeI d n y g = true
    · rw [if_pos c, if_pos c]; rfl
    · rw [if_neg c, if_neg c]; rfl
  | some a =>
    show (some (a.does (.begin_ d n y g)).1, (a.does (.begin_ d n y g)).2) = _
    rw [key]
    by_cases c : rangeI d n y g = true
    · rw [if_pos c, if_pos c]
    · rw [if_neg c, if_neg c]
def sp_Line_begin (K : PySem.W.Frag) (cs : Cs) : Sp := fun vs H Q _ => ∃ n st F d m y g, vs = [.ref n, nI d, nI m, nI y, nI g] ∧ LineAt cs H n st F ∧ DidL cs H n F (Kv319.act st (.begin_ d m y g)) Q
theorem LineAt.obj {cs : Cs} {H : Hp} {n : Addr} {F : Addr → Prop} : ∀ {st : Kv319.State}, LineAt cs H n st F → ∃ dn v, H n = some (.ins cs.Line dn [("yard", v)])
  | none, ⟨⟨dn, h⟩, _⟩ => ⟨dn, _, h⟩
  | some a, ⟨dn, _, _, h, _⟩ => ⟨dn, _, h⟩
theorem ok_Line_begin {P : Program} {w : World} {K : PySem.W.Frag} {mg : Str → Option Value} {base : Heap} {cs : Cs} (T : Txt K mg cs) : MOk P w K mg base 3 cs.Line "begin" ["self", "step", "steps", "room", "good"] (sp_Line_begin K cs) := by
  refine T.Line.m_begin.ok sc_Line_begin bd_Line_begin (fun vs H Q E h => ?_) (fun f cdv A outer s H vs Q E hr h => ?_)
  · obtain ⟨n, st, F, d, m, y, g, rfl, _⟩ := h; rfl
  · obtain ⟨n, st, F, d, m, y, g, rfl, hL, dd⟩ := h
    obtain ⟨dn, v0, hn⟩ := hL.obj
    refine ⟨_, (pss_cons (ps_if (pt_not (pt_val (pf (ok_begin_in_range T) (hr.mono (by decide)) (pa_cons (pv 1) (pa_cons (pv 2) (pa_cons (pv 3) (pa_cons (pv 4) pa_nil))))))) (pss_one (ps_ret (pe_lst (pa_cons (pgi T.g_OUT_OF_RANGE) pa_nil)))) pss_nil) (pss_cons (ps_fld (pv 0) (pk (ok_Yard_init T) (hr.mono (by decide)) T.Yard.mgC (pa_cons (pk (ok_Plate_init T) (hr.mono (by decide)) T.Plate.mgC (pa_cons (pv 1) (pa_cons (pv 2) pa_nil))) (pa_cons (pv 3) (pa_cons (pv 4) pa_nil)))) rfl) (pss_one (ps_ret (pe_lst (pa_cons pe_int pa_nil)))))), ?_⟩
    rw [act_begin] at dd
    refine ⟨_, rfl, _, rfl, _, rfl, _, rfl, d, m, y, g, rfl, _, rfl, ite2 (fun c => ?_) (fun c => ?_)⟩
    · rw [if_neg (by simpa using c)] at dd
      exact ⟨(by show 1 ≤ sizeLine; decide), fun q hq => dd.same hL (Same.refl H) hq⟩
    have c1 : rangeI d m y g = true := by simpa using c
    rw [if_pos c1] at dd
    have c2 : 1 ≤ d ∧ d ≤ 100 ∧ 100 ≤ m ∧ m ≤ 5000 ∧ 1 ≤ y ∧ y ≤ 8 ∧ g ≤ 365 := of_decide_eq_true c1
    refine ⟨_, rfl, _, rfl, fun xp dp nxp ndp nep => ?_⟩
    refine ⟨xp, dp, d, m, y, g, rfl, upd_same, c2.2.1, fun ax nax => ⟨rfl, ?_⟩⟩
    refine ⟨_, rfl, _, rfl, fun xy dy nxy ndy ney => ?_⟩
    refine ⟨xy, dy, xp, y, g, rfl, upd_same, fun kl ll tl n1 n2 n3 b1 b2 b3 => ⟨rfl, ?_⟩⟩
    generalize eH1 : upd (upd H dp (.own xp)) xp (.ins cs.Plate dp []) = H1 at nax nxy ndy n1 n2 n3 ⊢
    have s1 : Same H H1 := by rw [← eH1]; exact fun b o e => by rw [upd_ne (ne_of_none e nxp), upd_ne (ne_of_none e ndp)]; exact e
    have p1 : H1 xp = some (.ins cs.Plate dp []) := by rw [← eH1]; exact upd_same
    have apx : xp ≠ ax := ne_of_none p1 nax
    generalize eH2 : upd (upd H1 ax (.lst [])) xp (.ins cs.Plate dp (pfs (Kv319.begun d m y g) ax)) = H2 at nxy ndy n1 n2 n3 ⊢
    have p2 : H2 xp = some (.ins cs.Plate dp (pfs (Kv319.begun d m y g) ax)) := by rw [← eH2]; exact upd_same
    have q2 : H2 ax = some (.lst []) := by rw [← eH2, upd_ne apx.symm]; exact upd_same
    have s2 : Same H H2 := fun b o e => by rw [← eH2, upd_ne (ne_of_none e nxp), upd_ne (ne_of_none (s1 b o e) nax)]; exact s1 b o e
    generalize eH3 : upd (upd H2 dy (.own xy)) xy (.ins cs.Yard dy []) = H3 at n1 n2 n3 ⊢
    have s23 : Same H2 H3 := by rw [← eH3]; exact fun b o e => by rw [upd_ne (ne_of_none e nxy), upd_ne (ne_of_none e ndy)]; exact e
    have y3 : H3 xy = some (.ins cs.Yard dy []) := by rw [← eH3]; exact upd_same
    generalize eH4 : upd (upd (upd H3 kl (.lst [])) ll (.lst [])) tl (.lst []) = H4
    have s34 : Same H3 H4 := by rw [← eH4]; exact fun b o e => by rw [upd_ne (ne_of_none e n3), upd_ne (ne_of_none e n2), upd_ne (ne_of_none e n1)]; exact e
    have k4 : H4 kl = some (.lst []) := by rw [← eH4, upd_ne b2, upd_ne b1]; exact upd_same
    have l4 : H4 ll = some (.lst []) := by rw [← eH4, upd_ne b3]; exact upd_same
    have t4 : H4 tl = some (.lst []) := by rw [← eH4]; exact upd_same
    have sH4 : Same H H4 := (s2.trans s23).trans s34
    have hn4 := sH4 _ _ hn
    have fr : ∀ b, H3 b = none → H b = none := fun b h => (s2.trans s23).free h
    have nny : n ≠ xy := ne_of_none (s2 _ _ hn) nxy
    have ykl : kl ≠ xy := fun e => by rw [e, y3] at n1; cases n1
    have yll : ll ≠ xy := fun e => by rw [e, y3] at n2; cases n2
    have ytl : tl ≠ xy := fun e => by rw [e, y3] at n3; cases n3
    have yxp : xp ≠ xy := ne_of_none p2 nxy
    have yax : ax ≠ xy := ne_of_none q2 nxy
    refine ⟨_, rfl, n, cs.Line, dn, _, rfl, (by rw [upd_ne nny]; exact hn4), T.Line.cl, T.Line.n_yard, (by show 1 < 1000; decide), (by show 1 ≤ sizeLine; decide), fun q hq => ?_⟩
    generalize eH5 : upd (upd H4 xy (.ins cs.Yard dy [("plate", .ref xp), ("room", nI y), ("good", nI g), ("day", .int 0), ("kinds", .ref kl), ("lorries", .ref ll), ("tickets", .ref tl)])) n (.ins cs.Line dn (putF "yard" (.ref xy) [("yard", v0)])) = H5 at hq ⊢
    have hn5 : H5 n = some (.ins cs.Line dn [("yard", .ref xy)]) := by rw [← eH5, upd_same]; rfl
    have hy5 : H5 xy = some (.ins cs.Yard dy [("plate", .ref xp), ("room", nI y), ("good", nI g), ("day", .int 0), ("kinds", .ref kl), ("lorries", .ref ll), ("tickets", .ref tl)]) := by rw [← eH5, upd_ne nny.symm]; exact upd_same
    have k5 : ∀ b o, H4 b = some o → b ≠ xy → b ≠ n → H5 b = some o := fun b o e e1 e2 => by rw [← eH5, upd_ne e2, upd_ne e1]; exact e
    have nxp' : n ≠ xp := ne_of_none hn nxp
    have nax' : n ≠ ax := ne_of_none (s1 _ _ hn) nax
    have nkl : n ≠ kl := ne_of_none ((s2.trans s23) _ _ hn) n1
    have nll : n ≠ ll := ne_of_none ((s2.trans s23) _ _ hn) n2
    have ntl : n ≠ tl := ne_of_none ((s2.trans s23) _ _ hn) n3
    have xpkl : xp ≠ kl := ne_of_none (s23 _ _ p2) n1
    have xpll : xp ≠ ll := ne_of_none (s23 _ _ p2) n2
    have xptl : xp ≠ tl := ne_of_none (s23 _ _ p2) n3
    have axkl : ax ≠ kl := ne_of_none (s23 _ _ q2) n1
    have axll : ax ≠ ll := ne_of_none (s23 _ _ q2) n2
    have axtl : ax ≠ tl := ne_of_none (s23 _ _ q2) n3
    let L : Tag → Addr := fun t => match t with | .yard => xy | .plate => xp | .axl => ax | .kl => kl | .ll => ll | .tl => tl | _ => 0
    let D : Tag → Addr := fun t => match t with | .yard => dy | .plate => dp | _ => 0
    have hY : Y cs H5 L D (Kv319.begun d m y g) := by
      refine ⟨fun t u x x' e e' h => ?_, fun t x e => ?_⟩
      · cases t <;> cases u <;> first | rfl | (cases e; done) | (cases e'; done) | exact absurd h (by assumption) | exact absurd h.symm (by assumption)
      · cases t with
        | yard => cases e; exact hy5
        | plate => cases e; exact k5 _ _ (s34 _ _ (s23 _ _ p2)) yxp nxp'.symm
        | axl => cases e; exact k5 _ _ (s34 _ _ (s23 _ _ q2)) yax nax'.symm
        | kl => cases e; exact k5 _ _ k4 ykl nkl.symm
        | ll => cases e; exact k5 _ _ l4 yll nll.symm
        | tl => cases e; exact k5 _ _ t4 ytl ntl.symm
        | kind i => cases e
        | lorry i => cases e
        | tares i => cases e
        | ticket i => cases e
    have ne : ∀ t x, cont cs (Kv319.begun d m y g) L D t = some x → n ≠ L t := fun t x e => by
      cases t <;> first | (cases e; done) | assumption
    have new : ∀ t x, cont cs (Kv319.begun d m y g) L D t = some x → H (L t) = none := fun t x e => by
      cases t with
      | yard => exact s2.free nxy
      | plate => exact nxp
      | axl => exact s1.free nax
      | kl => exact fr _ n1
      | ll => exact fr _ n2
      | tl => exact fr _ n3
      | kind i => cases e
      | lorry i => cases e
      | tares i => cases e
      | ticket i => cases e
    have s6 := same_new (o := .lst [.int 0]) hq
    refine dd _ (Own cs n (Kv319.begun d m y g) L D) q ⟨dn, L, D, s6 _ _ hn5, hY.same s6, ok_begun (by omega), ne, rfl⟩ (fun b o e f => ?_) (fun b h => ?_) ?_ upd_same
    · have e1 : b ≠ n := fun z => f (by rw [z]; exact hL.self)
      exact s6 _ _ (k5 b o (sH4 b o e) (ne_of_none (s2 _ _ e) nxy) e1)
    · rcases h with h | ⟨t, x, e, e2⟩
      · exact .inl (by rw [h]; exact hL.self)
      · exact .inr (by rw [e2]; exact new t x e)
    · cases e : H q with
      | none => rfl
      | some o =>
        by_cases z : q = n
        · rw [z, hn5] at hq; cases hq
        · have := k5 q o (sH4 q o e) (ne_of_none (s2 _ _ e) nxy) z
          rw [this] at hq; cases hq
end Wb

end
section
set_option Elab.async false
set_option linter.all false
set_option maxRecDepth 100000
set_option maxHeartbeats 4000000
/-! The line's loop. -/
namespace Wb
open PySem PySem.Spec PyProof.Rows L2
theorem drop_at {α : Type} {l : List α} {i : Nat} {p : α} {r : List α} (h : l.drop i = p :: r) : l[i]? = some p ∧ i < l.length := by
  have e : (l.drop i)[0]? = some p := by rw [h]; rfl
  rw [List.getElem?_drop] at e
  exact ⟨e, (List.getElem?_eq_some_iff.mp e).1⟩
theorem drop_next {α : Type} {l : List α} {i : Nat} {p : α} {g t : List α} (h : l.drop i = p :: (g ++ t)) : l.drop (i + 1 + g.length) = t := by
  rw [Nat.add_assoc, ← List.drop_drop, h, Nat.add_comm 1 g.length]
  show (g ++ t).drop g.length = t
  simp
theorem drop_in {α : Type} {l : List α} {i : Nat} {p : α} {g t : List α} (h : l.drop i = p :: (g ++ t)) : i + 1 + g.length ≤ l.length := by
  have e := congrArg List.length h
  rw [List.length_drop, List.length_cons, List.length_append] at e
  omega
theorem cut_mid {l : List Int} {i : Nat} {p : Int} {g t : List Int} (h : l.drop i = p :: (g ++ t)) : cutV (l.map V.int) (some ((i : Int) + 1)) (some (((i + 1 + g.length : Nat)) : Int)) = g.map V.int := by
  have hl := drop_in h
  unfold cutV
  have e1 : HT.sIx (l.map V.int).length 0 (some ((i : Int) + 1)) = i + 1 := by
    rw [List.length_map, show (i : Int) + 1 = ((i + 1 : Nat) : Int) by omega, HT.sIx_nat]
    omega
  have e2 : HT.sIx (l.map V.int).length (l.map V.int).length (some (((i + 1 + g.length : Nat)) : Int)) = i + 1 + g.length := by
    rw [List.length_map, HT.sIx_nat]
    omega
  rw [e1, e2, ← List.map_drop, ← List.map_take, ← List.drop_drop, h]
  show List.map V.int (List.take (i + 1 + g.length - (i + 1)) (g ++ t)) = _
  rw [show i + 1 + g.length - (i + 1) = g.length by omega]
  simp
/-- what is handed in stays to be read -/
def Kept (K : PySem.W.Frag) (H : Hp) (a : Addr) (xs : List V) (F : Addr → Prop) (A : Addr) : Prop :=
  (Rd H a (.lst xs) ∧ ¬ F a ∧ a ≠ A) ∨ ∀ H' : Hp, SqL K H' a xs
theorem Kept.seq {K : PySem.W.Frag} {H : Hp} {a : Addr} {xs : List V} {F : Addr → Prop} {A : Addr} (h : Kept K H a xs F A) : SqL K H a xs := h.elim (fun h => .inl h.1) fun h => h H
theorem Kept.next {K : PySem.W.Frag} {H H' : Hp} {a : Addr} {xs : List V} {F F' : Addr → Prop} {A : Addr} (h : Kept K H a xs F A) (keep : ∀ b o, H b = some o → ¬ F b → b ≠ A → H' b = some o) (own : ∀ b, F' b → F b ∨ H b = none) : Kept K H' a xs F' A := by
  rcases h with ⟨h1, h2, h3⟩ | h
  · refine .inl ⟨?_, fun z => ?_, h3⟩
    · rcases h1 with h1 | ⟨o, h1⟩
      · exact .inl (keep _ _ h1 h2 h3)
      · exact .inr ⟨o, keep _ _ h1 h2 h3⟩
    · rcases own a z with z | z
      · exact h2 z
      · rcases h1 with h1 | ⟨o, h1⟩ <;> rw [h1] at z <;> cases z
  · exact .inr h
structure Wide (p : Int) (giv : List Int) : Prop where
  lo : 0 ≤ p
  hi : p < 30
  wide : p ≠ 4 → widths[p.toNat]? = some (giv.length : Int)
  row : p = 4 → ∃ m g, giv = m :: g ∧ (g.length : Int) = m
def sp_end_of_call (K : PySem.W.Frag) (cs : Cs) : Sp := fun vs H Q _ => ∃ (a : Addr) (l : List Int) (i : Nat) (p : Int) (giv t : List Int), vs = [.ref a, nI i] ∧ SqL K H a (l.map V.int) ∧ l.drop i = p :: (giv ++ t) ∧ Wide p giv ∧ Q (nI (i + 1 + giv.length)) H
theorem at_int {l : List Int} {i : Nat} {p : Int} (h : l[i]? = some p) : atI (l.map V.int) (i : Int) = some (V.int p) := atI_nat (by rw [List.getElem?_map, h]; rfl)
theorem at_wide {p : Int} {w : Int} (h0 : 0 ≤ p) (h : widths[p.toNat]? = some w) : atI (widths.map V.int) p = some (V.int w) := by
  have e := at_int h
  rw [Int.toNat_of_nonneg h0] at e
  exact e
theorem ok_end_of_call {P : Program} {w : World} {K : PySem.W.Frag} {mg : Str → Option Value} {base : Heap} {cs : Cs} (T : Txt K mg cs) : FOk P w K mg base 1 "end_of_call" ["calls", "start"] (sp_end_of_call K cs) := by
  refine T.f_end_of_call.ok sc_end_of_call bd_end_of_call (fun vs H Q E h => ?_) (fun f cdv A outer s H vs Q E hr h => ?_)
  · obtain ⟨a, l, i, p, giv, t, rfl, _⟩ := h; rfl
  · obtain ⟨a, l, i, p, giv, t, rfl, hS, hd, hw, q⟩ := h
    refine ⟨_, (pss_cons (ps_set (i := 2) sc_end_of_call.nd rfl (Or.inl rfl) (pe_op op_add (pe_op op_add (pv 1) pe_int) (pe_ix ix_tup (pgt T.g_WIDTHS) (pe_ix ix_list (pv 0) (pv 1) (fun _ _ => rfl)) (fun _ _ => rfl)))) (pss_cons (ps_if (pt_cmpR op_eq (pe_ix ix_list (pv 0) (pv 1) (fun _ _ => rfl)) (pgi T.g_ON) (nomark _)) (pss_one (ps_ret (pe_op op_add (pv 2) (pe_ix ix_list (pv 0) (pe_op op_add (pv 1) pe_int) (fun _ _ => rfl))))) pss_nil) (pss_one (ps_ret (pv 2))))), ?_⟩
    obtain ⟨e0, hlt⟩ := drop_at hd
    by_cases c4 : p = 4
    · obtain ⟨m, g, rfl, em⟩ := hw.row c4
      subst c4
      have e1 : l[i + 1]? = some m := by
        have := (drop_at (l := l) (i := i + 1) (p := m) (r := g ++ t) (by
          rw [← List.drop_drop, hd]; rfl)).1
        exact this
      refine ⟨_, rfl, _, _, rfl, rfl, fun wa hwa => ⟨_, rfl, _, rfl, _, _, _, _, rfl, rfl, hS, at_int e0, _, _, _, _, rfl, rfl, hwa, at_wide (p := 4) (w := 1) (by decide) rfl, _, _, rfl, rfl, ?_⟩⟩
      refine ⟨_, rfl, _, rfl, _, _, _, _, rfl, rfl, hS, at_int e0, rfl, _, rfl, iteT ?_⟩
      refine ⟨_, rfl, _, rfl, _, rfl, _, _, rfl, rfl, _, _, _, _, rfl, rfl, hS, at_int (i := i + 1) e1, _, _, rfl, rfl, ?_⟩
      have q : Q (.int ((i : Int) + 1 + 1 + m)) H := by
        rw [← em]
        have e : (i : Int) + 1 + 1 + (g.length : Int) = ((i + 1 + (m :: g).length : Nat) : Int) := by rw [List.length_cons]; omega
        rw [e]; exact q
      exact q
    · refine ⟨_, rfl, _, _, rfl, rfl, fun wa hwa => ⟨_, rfl, _, rfl, _, _, _, _, rfl, rfl, hS, at_int e0, _, _, _, _, rfl, rfl, hwa, at_wide hw.lo (hw.wide c4), _, _, rfl, rfl, ?_⟩⟩
      refine ⟨_, rfl, _, rfl, _, _, _, _, rfl, rfl, hS, at_int e0, rfl, _, rfl, ite2 (fun c => absurd (dV.mp c) c4) (fun c => ?_)⟩
      refine ⟨_, rfl, ?_⟩
      have e : (i : Int) + 1 + (giv.length : Int) = ((i + 1 + giv.length : Nat) : Int) := by omega
      have q : Q (.int ((i : Int) + 1 + (giv.length : Int))) H := by rw [e]; exact q
      exact q
end Wb

end
section
set_option Elab.async false
set_option linter.all false
set_option maxRecDepth 100000
set_option maxHeartbeats 4000000
/-! A call is handed on by its number. -/
namespace Wb
open PySem PySem.Spec PyProof.Rows L2
theorem Did.after {cs : Cs} {H H2 : Hp} {L D : Tag → Addr} {a : Kv319.Abs} {r : Kv319.Abs × Kv319.Ans} {Q : VK} (d : Did cs H L D a r Q) (y : Y cs H L D a) (s : Same H H2) : Did cs H2 L D a r Q :=
  fun H' L' D' q y' st hq h' => d H' L' D' q y' ((Step.same s).trans st) (s.free hq) h'
theorem cut_tail (l : List Nat) : cutV (((l.length : Int) :: l.map Int.ofNat).map V.int) (some 1) none = (l.map Int.ofNat).map V.int := by
  unfold cutV
  have e1 : HT.sIx (((l.length : Int) :: l.map Int.ofNat).map V.int).length 0 (some 1) = 1 := by
    rw [show (1 : Int) = ((1 : Nat) : Int) from rfl, HT.sIx_nat]
    simp
  rw [e1, HT.sIx_none]
  simp only [List.map_cons, List.drop_succ_cons, List.drop_zero, List.length_cons, List.length_map, Nat.add_sub_cancel]
  exact List.take_of_length_le (by simp)
theorem allowed_eq (a : Kv319.Abs) (w : Nat) : allowedI a (w : Int) = ((a.allowed w : Nat) : Int) := by
  unfold allowedI Kv319.Abs.allowed
  by_cases c : w ≤ 500 * a.step
  · rw [if_pos c, if_pos (by omega)]; rfl
  · rw [if_neg c, if_neg (by omega)]
    by_cases c : w ≤ 2000 * a.step
    · rw [if_pos c, if_pos (by omega)]; rfl
    · rw [if_neg c, if_neg (by omega)]; rfl
def sp_ask_plate (K : PySem.W.Frag) (cs : Cs) : Sp := fun vs H Q _ => ∃ L D a num g giv c, vs = [.ref (L .plate), .int num, .ref g] ∧ Y cs H L D a ∧ Ok a ∧ H g = some (iL giv) ∧ CallAs num giv c ∧ num ∈ ([3, 4, 5, 6, 7, 8, 9] : List Int) ∧ Did cs H L D a (a.does c) Q
theorem ok_ask_plate {P : Program} {w : World} {K : PySem.W.Frag} {mg : Str → Option Value} {base : Heap} {cs : Cs} (T : Txt K mg cs) : FOk P w K mg base 6 "ask_plate" ["plate", "number", "given"] (sp_ask_plate K cs) := by
  refine T.f_ask_plate.ok sc_ask_plate bd_ask_plate (fun vs H Q E h => ?_) (fun f cdv A outer s H vs Q E hr h => ?_)
  · obtain ⟨L, D, a, num, g, giv, c, rfl, _⟩ := h; rfl
  · obtain ⟨L, D, a, num, g, giv, c, rfl, hY, ok, hg, as_, hS, d⟩ := h
    refine ⟨_, (pss_cons (ps_if (pt_cmpR op_eq (pv 1) (pgi T.g_DRIFT) (nomark _)) (pss_one (ps_ret (pf (ok_set_errors T) (hr.mono (by decide)) (pa_cons (pv 0) (pa_cons (pe_ix ix_list (pv 2) pe_int (fun _ _ => rfl)) (pa_cons (pe_ix ix_list (pv 2) pe_int (fun _ _ => rfl)) pa_nil)))))) pss_nil) (pss_cons (ps_if (pt_cmpR op_eq (pv 1) (pgi T.g_ON) (nomark _)) (pss_one (ps_ret (pf (ok_put_on T) (hr.mono (by decide)) (pa_cons (pv 0) (pa_cons (pe_slice sl_list (pv 2) (po_some pe_int) po_none) pa_nil))))) pss_nil) (pss_cons (ps_if (pt_cmpR op_eq (pv 1) (pgi T.g_OFF) (nomark _)) (pss_one (ps_ret (pf (ok_take_off T) (hr.mono (by decide)) (pa_cons (pv 0) pa_nil)))) pss_nil) (pss_cons (ps_if (pt_cmpR op_eq (pv 1) (pgi T.g_SHOW) (nomark _)) (pss_one (ps_ret (pf (ok_show_reading T) (hr.mono (by decide)) (pa_cons (pv 0) pa_nil)))) pss_nil) (pss_cons (ps_if (pt_cmpR op_eq (pv 1) (pgi T.g_ZERO) (nomark _)) (pss_one (ps_ret (pf (ok_set_zero T) (hr.mono (by decide)) (pa_cons (pv 0) pa_nil)))) pss_nil) (pss_cons (ps_if (pt_cmpR op_eq (pv 1) (pgi T.g_TEST) (nomark _)) (pss_one (ps_ret (pf (ok_try_weight T) (hr.mono (by decide)) (pa_cons (pv 0) (pa_cons (pe_ix ix_list (pv 2) pe_int (fun _ _ => rfl)) pa_nil))))) pss_nil) (pss_one (ps_ret (pe_lst (pa_cons (pm (pv 0) T.Plate.cl (ok_Plate_halves_allowed T) (hr.mono (by decide)) (pa_cons (pe_ix ix_list (pv 2) pe_int (fun _ _ => rfl)) pa_nil)) pa_nil)))))))))), ?_⟩
    have as0 := as_
    cases as_ with
    | begin_ x0 x1 x2 x3 =>
      exact absurd hS (by decide)
    | kind x0 x1 x2 =>
      exact absurd hS (by decide)
    | lorry x0 x1 =>
      exact absurd hS (by decide)
    | drift x0 x1 =>
      refine ⟨_, rfl, rfl, _, rfl, iteT ?_⟩
      exact ⟨_, rfl, _, rfl, _, _, _, _, rfl, rfl, SqL.of hg, atI_nat (j := 0) rfl, _, rfl, _, _, _, _, rfl, rfl, SqL.of hg, atI_nat (j := 1) rfl, L, D, a, _, _, rfl, hY, d⟩
    | on_ x0 =>
      refine ⟨_, rfl, rfl, _, rfl, iteF ?_⟩
      refine ⟨_, rfl, rfl, _, rfl, iteT ?_⟩
      refine ⟨_, rfl, _, rfl, _, rfl, _, _, rfl, SqL.of hg, fun g2 hg2 => ?_⟩
      have s2 := same_new (o := .lst (cutV (((x0.length : Int) :: x0.map Int.ofNat).map V.int) (some 1) none)) hg2
      exact ⟨L, D, a, g2, x0, rfl, hY.same s2, ok.pl, (by rw [upd_same, cut_tail]), d.after hY s2⟩
    | off =>
      refine ⟨_, rfl, rfl, _, rfl, iteF ?_⟩
      refine ⟨_, rfl, rfl, _, rfl, iteF ?_⟩
      refine ⟨_, rfl, rfl, _, rfl, iteT ?_⟩
      exact ⟨_, rfl, L, D, a, rfl, hY, ok.pl, d⟩
    | show_ =>
      refine ⟨_, rfl, rfl, _, rfl, iteF ?_⟩
      refine ⟨_, rfl, rfl, _, rfl, iteF ?_⟩
      refine ⟨_, rfl, rfl, _, rfl, iteF ?_⟩
      refine ⟨_, rfl, rfl, _, rfl, iteT ?_⟩
      exact ⟨_, rfl, L, D, a, rfl, hY, ok.pl, d⟩
    | zero =>
      refine ⟨_, rfl, rfl, _, rfl, iteF ?_⟩
      refine ⟨_, rfl, rfl, _, rfl, iteF ?_⟩
      refine ⟨_, rfl, rfl, _, rfl, iteF ?_⟩
      refine ⟨_, rfl, rfl, _, rfl, iteF ?_⟩
      refine ⟨_, rfl, rfl, _, rfl, iteT ?_⟩
      exact ⟨_, rfl, L, D, a, rfl, hY, ok.pl, d⟩
    | test x0 =>
      refine ⟨_, rfl, rfl, _, rfl, iteF ?_⟩
      refine ⟨_, rfl, rfl, _, rfl, iteF ?_⟩
      refine ⟨_, rfl, rfl, _, rfl, iteF ?_⟩
      refine ⟨_, rfl, rfl, _, rfl, iteF ?_⟩
      refine ⟨_, rfl, rfl, _, rfl, iteF ?_⟩
      refine ⟨_, rfl, rfl, _, rfl, iteT ?_⟩
      exact ⟨_, rfl, _, rfl, _, _, _, _, rfl, rfl, SqL.of hg, atI_nat (j := 0) rfl, L, D, a, _, rfl, hY, ok.pl, d⟩
    | allowed x0 =>
      refine ⟨_, rfl, rfl, _, rfl, iteF ?_⟩
      refine ⟨_, rfl, rfl, _, rfl, iteF ?_⟩
      refine ⟨_, rfl, rfl, _, rfl, iteF ?_⟩
      refine ⟨_, rfl, rfl, _, rfl, iteF ?_⟩
      refine ⟨_, rfl, rfl, _, rfl, iteF ?_⟩
      refine ⟨_, rfl, rfl, _, rfl, iteF ?_⟩
      exact ⟨_, rfl, (L .plate), (D .plate), _, rfl, hY.plate, rfl, _, rfl, _, _, _, _, rfl, rfl, SqL.of hg, atI_nat (j := 0) rfl, _, a, _, rfl, hY.plateAt, ok.pl, (by show 1 ≤ sizeLine; decide), fun q hq => d.same hY (Same.refl H) (v := Kv319.say (allowedI a x0)) (by rw [allowed_eq]; rfl) hq⟩
    | arrive x0 x1 x2 =>
      exact absurd hS (by decide)
    | leave x0 x1 =>
      exact absurd hS (by decide)
    | quick x0 x1 x2 x3 =>
      exact absurd hS (by decide)
    | cancel x0 =>
      exact absurd hS (by decide)
    | days x0 =>
      exact absurd hS (by decide)
    | tare x0 =>
      exact absurd hS (by decide)
    | odd x0 =>
      exact absurd hS (by decide)
    | excess x0 =>
      exact absurd hS (by decide)
    | fits x0 =>
      exact absurd hS (by decide)
    | dry x0 x1 x2 =>
      exact absurd hS (by decide)
    | yard =>
      exact absurd hS (by decide)
    | look x0 =>
      exact absurd hS (by decide)
    | stock x0 =>
      exact absurd hS (by decide)
    | enough x0 x1 =>
      exact absurd hS (by decide)
    | totals x0 =>
      exact absurd hS (by decide)
    | trips x0 =>
      exact absurd hS (by decide)
    | money =>
      exact absurd hS (by decide)
    | heaviest =>
      exact absurd hS (by decide)
    | sums =>
      exact absurd hS (by decide)
    | state =>
      exact absurd hS (by decide)
def sp_ask_yard (K : PySem.W.Frag) (cs : Cs) : Sp := fun vs H Q _ => ∃ L D a num g giv c, vs = [.ref (L .yard), .int num, .ref g] ∧ Y cs H L D a ∧ Ok a ∧ H g = some (iL giv) ∧ CallAs num giv c ∧ num ∈ ([1, 2, 10, 11, 12, 13, 14, 3, 4, 5, 6, 7, 8, 9] : List Int) ∧ Did cs H L D a (a.does c) Q
theorem ok_ask_yard {P : Program} {w : World} {K : PySem.W.Frag} {mg : Str → Option Value} {base : Heap} {cs : Cs} (T : Txt K mg cs) : FOk P w K mg base 9 "ask_yard" ["yard", "number", "given"] (sp_ask_yard K cs) := by
  refine T.f_ask_yard.ok sc_ask_yard bd_ask_yard (fun vs H Q E h => ?_) (fun f cdv A outer s H vs Q E hr h => ?_)
  · obtain ⟨L, D, a, num, g, giv, c, rfl, _⟩ := h; rfl
  · obtain ⟨L, D, a, num, g, giv, c, rfl, hY, ok, hg, as_, hS, d⟩ := h
    refine ⟨_, (pss_cons (ps_if (pt_cmpR op_eq (pv 1) (pgi T.g_KIND) (nomark _)) (pss_one (ps_ret (pf (ok_add_kind T) (hr.mono (by decide)) (pa_cons (pv 0) (pa_cons (pe_ix ix_list (pv 2) pe_int (fun _ _ => rfl)) (pa_cons (pe_ix ix_list (pv 2) pe_int (fun _ _ => rfl)) (pa_cons (pe_ix ix_list (pv 2) pe_int (fun _ _ => rfl)) pa_nil))))))) pss_nil) (pss_cons (ps_if (pt_cmpR op_eq (pv 1) (pgi T.g_LORRY) (nomark _)) (pss_one (ps_ret (pf (ok_add_lorry T) (hr.mono (by decide)) (pa_cons (pv 0) (pa_cons (pe_ix ix_list (pv 2) pe_int (fun _ _ => rfl)) (pa_cons (pe_ix ix_list (pv 2) pe_int (fun _ _ => rfl)) pa_nil)))))) pss_nil) (pss_cons (ps_if (pt_cmpR op_eq (pv 1) (pgi T.g_ARRIVE) (nomark _)) (pss_one (ps_ret (pf (ok_arrive T) (hr.mono (by decide)) (pa_cons (pv 0) (pa_cons (pe_ix ix_list (pv 2) pe_int (fun _ _ => rfl)) (pa_cons (pe_ix ix_list (pv 2) pe_int (fun _ _ => rfl)) (pa_cons (pe_ix ix_list (pv 2) pe_int (fun _ _ => rfl)) pa_nil))))))) pss_nil) (pss_cons (ps_if (pt_cmpR op_eq (pv 1) (pgi T.g_LEAVE) (nomark _)) (pss_one (ps_ret (pf (ok_leave T) (hr.mono (by decide)) (pa_cons (pv 0) (pa_cons (pe_ix ix_list (pv 2) pe_int (fun _ _ => rfl)) (pa_cons (pe_ix ix_list (pv 2) pe_int (fun _ _ => rfl)) pa_nil)))))) pss_nil) (pss_cons (ps_if (pt_cmpR op_eq (pv 1) (pgi T.g_QUICK) (nomark _)) (pss_one (ps_ret (pf (ok_quick T) (hr.mono (by decide)) (pa_cons (pv 0) (pa_cons (pe_ix ix_list (pv 2) pe_int (fun _ _ => rfl)) (pa_cons (pe_ix ix_list (pv 2) pe_int (fun _ _ => rfl)) (pa_cons (pe_ix ix_list (pv 2) pe_int (fun _ _ => rfl)) (pa_cons (pe_ix ix_list (pv 2) pe_int (fun _ _ => rfl)) pa_nil)))))))) pss_nil) (pss_cons (ps_if (pt_cmpR op_eq (pv 1) (pgi T.g_CANCEL) (nomark _)) (pss_one (ps_ret (pf (ok_cancel T) (hr.mono (by decide)) (pa_cons (pv 0) (pa_cons (pe_ix ix_list (pv 2) pe_int (fun _ _ => rfl)) pa_nil))))) pss_nil) (pss_cons (ps_if (pt_cmpR op_eq (pv 1) (pgi T.g_DAYS) (nomark _)) (pss_one (ps_ret (pf (ok_pass_days T) (hr.mono (by decide)) (pa_cons (pv 0) (pa_cons (pe_ix ix_list (pv 2) pe_int (fun _ _ => rfl)) pa_nil))))) pss_nil) (pss_one (ps_ret (pf (ok_ask_plate T) (hr.mono (by decide)) (pa_cons (pe_fld (pv 0) rfl) (pa_cons (pv 1) (pa_cons (pv 2) pa_nil))))))))))))), ?_⟩
    have as0 := as_
    cases as_ with
    | begin_ x0 x1 x2 x3 =>
      exact absurd hS (by decide)
    | kind x0 x1 x2 =>
      refine ⟨_, rfl, rfl, _, rfl, iteT ?_⟩
      exact ⟨_, rfl, _, rfl, _, _, _, _, rfl, rfl, SqL.of hg, atI_nat (j := 0) rfl, _, rfl, _, _, _, _, rfl, rfl, SqL.of hg, atI_nat (j := 1) rfl, _, rfl, _, _, _, _, rfl, rfl, SqL.of hg, atI_nat (j := 2) rfl, L, D, a, _, _, _, rfl, hY, ok, d⟩
    | lorry x0 x1 =>
      refine ⟨_, rfl, rfl, _, rfl, iteF ?_⟩
      refine ⟨_, rfl, rfl, _, rfl, iteT ?_⟩
      exact ⟨_, rfl, _, rfl, _, _, _, _, rfl, rfl, SqL.of hg, atI_nat (j := 0) rfl, _, rfl, _, _, _, _, rfl, rfl, SqL.of hg, atI_nat (j := 1) rfl, L, D, a, _, _, rfl, hY, ok, d⟩
    | drift x0 x1 =>
      refine ⟨_, rfl, rfl, _, rfl, iteF ?_⟩
      refine ⟨_, rfl, rfl, _, rfl, iteF ?_⟩
      refine ⟨_, rfl, rfl, _, rfl, iteF ?_⟩
      refine ⟨_, rfl, rfl, _, rfl, iteF ?_⟩
      refine ⟨_, rfl, rfl, _, rfl, iteF ?_⟩
      refine ⟨_, rfl, rfl, _, rfl, iteF ?_⟩
      refine ⟨_, rfl, rfl, _, rfl, iteF ?_⟩
      exact ⟨_, rfl, (L .yard), cs.Yard, (D .yard), _, _, rfl, hY.yard, T.Yard.cl, T.Yard.n_plate, rfl, _, rfl, _, rfl, L, D, a, _, _, _, _, rfl, hY, ok, hg, as0, (by decide), d⟩
    | on_ x0 =>
      refine ⟨_, rfl, rfl, _, rfl, iteF ?_⟩
      refine ⟨_, rfl, rfl, _, rfl, iteF ?_⟩
      refine ⟨_, rfl, rfl, _, rfl, iteF ?_⟩
      refine ⟨_, rfl, rfl, _, rfl, iteF ?_⟩
      refine ⟨_, rfl, rfl, _, rfl, iteF ?_⟩
      refine ⟨_, rfl, rfl, _, rfl, iteF ?_⟩
      refine ⟨_, rfl, rfl, _, rfl, iteF ?_⟩
      exact ⟨_, rfl, (L .yard), cs.Yard, (D .yard), _, _, rfl, hY.yard, T.Yard.cl, T.Yard.n_plate, rfl, _, rfl, _, rfl, L, D, a, _, _, _, _, rfl, hY, ok, hg, as0, (by decide), d⟩
    | off =>
      refine ⟨_, rfl, rfl, _, rfl, iteF ?_⟩
      refine ⟨_, rfl, rfl, _, rfl, iteF ?_⟩
      refine ⟨_, rfl, rfl, _, rfl, iteF ?_⟩
      refine ⟨_, rfl, rfl, _, rfl, iteF ?_⟩
      refine ⟨_, rfl, rfl, _, rfl, iteF ?_⟩
      refine ⟨_, rfl, rfl, _, rfl, iteF ?_⟩
      refine ⟨_, rfl, rfl, _, rfl, iteF ?_⟩
      exact ⟨_, rfl, (L .yard), cs.Yard, (D .yard), _, _, rfl, hY.yard, T.Yard.cl, T.Yard.n_plate, rfl, _, rfl, _, rfl, L, D, a, _, _, _, _, rfl, hY, ok, hg, as0, (by decide), d⟩
    | show_ =>
      refine ⟨_, rfl, rfl, _, rfl, iteF ?_⟩
      refine ⟨_, rfl, rfl, _, rfl, iteF ?_⟩
      refine ⟨_, rfl, rfl, _, rfl, iteF ?_⟩
      refine ⟨_, rfl, rfl, _, rfl, iteF ?_⟩
      refine ⟨_, rfl, rfl, _, rfl, iteF ?_⟩
      refine ⟨_, rfl, rfl, _, rfl, iteF ?_⟩
      refine ⟨_, rfl, rfl, _, rfl, iteF ?_⟩
      exact ⟨_, rfl, (L .yard), cs.Yard, (D .yard), _, _, rfl, hY.yard, T.Yard.cl, T.Yard.n_plate, rfl, _, rfl, _, rfl, L, D, a, _, _, _, _, rfl, hY, ok, hg, as0, (by decide), d⟩
    | zero =>
      refine ⟨_, rfl, rfl, _, rfl, iteF ?_⟩
      refine ⟨_, rfl, rfl, _, rfl, iteF ?_⟩
      refine ⟨_, rfl, rfl, _, rfl, iteF ?_⟩
      refine ⟨_, rfl, rfl, _, rfl, iteF ?_⟩
      refine ⟨_, rfl, rfl, _, rfl, iteF ?_⟩
      refine ⟨_, rfl, rfl, _, rfl, iteF ?_⟩
      refine ⟨_, rfl, rfl, _, rfl, iteF ?_⟩
      exact ⟨_, rfl, (L .yard), cs.Yard, (D .yard), _, _, rfl, hY.yard, T.Yard.cl, T.Yard.n_plate, rfl, _, rfl, _, rfl, L, D, a, _, _, _, _, rfl, hY, ok, hg, as0, (by decide), d⟩
    | test x0 =>
      refine ⟨_, rfl, rfl, _, rfl, iteF ?_⟩
      refine ⟨_, rfl, rfl, _, rfl, iteF ?_⟩
      refine ⟨_, rfl, rfl, _, rfl, iteF ?_⟩
      refine ⟨_, rfl, rfl, _, rfl, iteF ?_⟩
      refine ⟨_, rfl, rfl, _, rfl, iteF ?_⟩
      refine ⟨_, rfl, rfl, _, rfl, iteF ?_⟩
      refine ⟨_, rfl, rfl, _, rfl, iteF ?_⟩
      exact ⟨_, rfl, (L .yard), cs.Yard, (D .yard), _, _, rfl, hY.yard, T.Yard.cl, T.Yard.n_plate, rfl, _, rfl, _, rfl, L, D, a, _, _, _, _, rfl, hY, ok, hg, as0, (by decide), d⟩
    | allowed x0 =>
      refine ⟨_, rfl, rfl, _, rfl, iteF ?_⟩
      refine ⟨_, rfl, rfl, _, rfl, iteF ?_⟩
      refine ⟨_, rfl, rfl, _, rfl, iteF ?_⟩
      refine ⟨_, rfl, rfl, _, rfl, iteF ?_⟩
      refine ⟨_, rfl, rfl, _, rfl, iteF ?_⟩
      refine ⟨_, rfl, rfl, _, rfl, iteF ?_⟩
      refine ⟨_, rfl, rfl, _, rfl, iteF ?_⟩
      exact ⟨_, rfl, (L .yard), cs.Yard, (D .yard), _, _, rfl, hY.yard, T.Yard.cl, T.Yard.n_plate, rfl, _, rfl, _, rfl, L, D, a, _, _, _, _, rfl, hY, ok, hg, as0, (by decide), d⟩
    | arrive x0 x1 x2 =>
      refine ⟨_, rfl, rfl, _, rfl, iteF ?_⟩
      refine ⟨_, rfl, rfl, _, rfl, iteF ?_⟩
      refine ⟨_, rfl, rfl, _, rfl, iteT ?_⟩
      exact ⟨_, rfl, _, rfl, _, _, _, _, rfl, rfl, SqL.of hg, atI_nat (j := 0) rfl, _, rfl, _, _, _, _, rfl, rfl, SqL.of hg, atI_nat (j := 1) rfl, _, rfl, _, _, _, _, rfl, rfl, SqL.of hg, atI_nat (j := 2) rfl, L, D, a, _, _, _, rfl, hY, ok, d⟩
    | leave x0 x1 =>
      refine ⟨_, rfl, rfl, _, rfl, iteF ?_⟩
      refine ⟨_, rfl, rfl, _, rfl, iteF ?_⟩
      refine ⟨_, rfl, rfl, _, rfl, iteF ?_⟩
      refine ⟨_, rfl, rfl, _, rfl, iteT ?_⟩
      exact ⟨_, rfl, _, rfl, _, _, _, _, rfl, rfl, SqL.of hg, atI_nat (j := 0) rfl, _, rfl, _, _, _, _, rfl, rfl, SqL.of hg, atI_nat (j := 1) rfl, L, D, a, _, _, rfl, hY, ok, d⟩
    | quick x0 x1 x2 x3 =>
      refine ⟨_, rfl, rfl, _, rfl, iteF ?_⟩
      refine ⟨_, rfl, rfl, _, rfl, iteF ?_⟩
      refine ⟨_, rfl, rfl, _, rfl, iteF ?_⟩
      refine ⟨_, rfl, rfl, _, rfl, iteF ?_⟩
      refine ⟨_, rfl, rfl, _, rfl, iteT ?_⟩
      exact ⟨_, rfl, _, rfl, _, _, _, _, rfl, rfl, SqL.of hg, atI_nat (j := 0) rfl, _, rfl, _, _, _, _, rfl, rfl, SqL.of hg, atI_nat (j := 1) rfl, _, rfl, _, _, _, _, rfl, rfl, SqL.of hg, atI_nat (j := 2) rfl, _, rfl, _, _, _, _, rfl, rfl, SqL.of hg, atI_nat (j := 3) rfl, L, D, a, _, _, _, _, rfl, hY, ok, d⟩
    | cancel x0 =>
      refine ⟨_, rfl, rfl, _, rfl, iteF ?_⟩
      refine ⟨_, rfl, rfl, _, rfl, iteF ?_⟩
      refine ⟨_, rfl, rfl, _, rfl, iteF ?_⟩
      refine ⟨_, rfl, rfl, _, rfl, iteF ?_⟩
      refine ⟨_, rfl, rfl, _, rfl, iteF ?_⟩
      refine ⟨_, rfl, rfl, _, rfl, iteT ?_⟩
      exact ⟨_, rfl, _, rfl, _, _, _, _, rfl, rfl, SqL.of hg, atI_nat (j := 0) rfl, L, D, a, _, rfl, hY, ok, d⟩
    | days x0 =>
      refine ⟨_, rfl, rfl, _, rfl, iteF ?_⟩
      refine ⟨_, rfl, rfl, _, rfl, iteF ?_⟩
      refine ⟨_, rfl, rfl, _, rfl, iteF ?_⟩
      refine ⟨_, rfl, rfl, _, rfl, iteF ?_⟩
      refine ⟨_, rfl, rfl, _, rfl, iteF ?_⟩
      refine ⟨_, rfl, rfl, _, rfl, iteF ?_⟩
      refine ⟨_, rfl, rfl, _, rfl, iteT ?_⟩
      exact ⟨_, rfl, _, rfl, _, _, _, _, rfl, rfl, SqL.of hg, atI_nat (j := 0) rfl, L, D, a, _, rfl, hY, d⟩
    | tare x0 =>
      exact absurd hS (by decide)
    | odd x0 =>
      exact absurd hS (by decide)
    | excess x0 =>
      exact absurd hS (by decide)
    | fits x0 =>
      exact absurd hS (by decide)
    | dry x0 x1 x2 =>
      exact absurd hS (by decide)
    | yard =>
      exact absurd hS (by decide)
    | look x0 =>
      exact absurd hS (by decide)
    | stock x0 =>
      exact absurd hS (by decide)
    | enough x0 x1 =>
      exact absurd hS (by decide)
    | totals x0 =>
      exact absurd hS (by decide)
    | trips x0 =>
      exact absurd hS (by decide)
    | money =>
      exact absurd hS (by decide)
    | heaviest =>
      exact absurd hS (by decide)
    | sums =>
      exact absurd hS (by decide)
    | state =>
      exact absurd hS (by decide)
def sp_look_up (K : PySem.W.Frag) (cs : Cs) : Sp := fun vs H Q _ => ∃ L D a num g giv c, vs = [.ref (L .yard), .int num, .ref g] ∧ Y cs H L D a ∧ Ok a ∧ H g = some (iL giv) ∧ CallAs num giv c ∧ num ∈ ([15, 16, 17, 18, 19, 20, 21, 22, 23, 24, 25, 26, 27, 28, 29] : List Int) ∧ Did cs H L D a (a.does c) Q
theorem ok_look_up {P : Program} {w : World} {K : PySem.W.Frag} {mg : Str → Option Value} {base : Heap} {cs : Cs} (T : Txt K mg cs) : FOk P w K mg base 8 "look_up" ["yard", "number", "given"] (sp_look_up K cs) := by
  refine T.f_look_up.ok sc_look_up bd_look_up (fun vs H Q E h => ?_) (fun f cdv A outer s H vs Q E hr h => ?_)
  · obtain ⟨L, D, a, num, g, giv, c, rfl, _⟩ := h; rfl
  · obtain ⟨L, D, a, num, g, giv, c, rfl, hY, ok, hg, as_, hS, d⟩ := h
    refine ⟨_, (pss_cons (ps_if (pt_cmpR op_eq (pv 1) (pgi T.g_TARE) (nomark _)) (pss_one (ps_ret (pf (ok_tell_tare T) (hr.mono (by decide)) (pa_cons (pv 0) (pa_cons (pe_ix ix_list (pv 2) pe_int (fun _ _ => rfl)) pa_nil))))) pss_nil) (pss_cons (ps_if (pt_cmpR op_eq (pv 1) (pgi T.g_ODD) (nomark _)) (pss_one (ps_ret (pf (ok_tell_odd T) (hr.mono (by decide)) (pa_cons (pv 0) (pa_cons (pe_ix ix_list (pv 2) pe_int (fun _ _ => rfl)) pa_nil))))) pss_nil) (pss_cons (ps_if (pt_cmpR op_eq (pv 1) (pgi T.g_EXCESS) (nomark _)) (pss_one (ps_ret (pf (ok_tell_excess T) (hr.mono (by decide)) (pa_cons (pv 0) (pa_cons (pe_ix ix_list (pv 2) pe_int (fun _ _ => rfl)) pa_nil))))) pss_nil) (pss_cons (ps_if (pt_cmpR op_eq (pv 1) (pgi T.g_FITS) (nomark _)) (pss_one (ps_ret (pf (ok_tell_fits T) (hr.mono (by decide)) (pa_cons (pv 0) (pa_cons (pe_ix ix_list (pv 2) pe_int (fun _ _ => rfl)) pa_nil))))) pss_nil) (pss_cons (ps_if (pt_cmpR op_eq (pv 1) (pgi T.g_DRY) (nomark _)) (pss_one (ps_ret (pf (ok_tell_dry T) (hr.mono (by decide)) (pa_cons (pv 0) (pa_cons (pe_ix ix_list (pv 2) pe_int (fun _ _ => rfl)) (pa_cons (pe_ix ix_list (pv 2) pe_int (fun _ _ => rfl)) (pa_cons (pe_ix ix_list (pv 2) pe_int (fun _ _ => rfl)) pa_nil))))))) pss_nil) (pss_cons (ps_if (pt_cmpR op_eq (pv 1) (pgi T.g_YARD) (nomark _)) (pss_one (ps_ret (pf (ok_tell_yard T) (hr.mono (by decide)) (pa_cons (pv 0) pa_nil)))) pss_nil) (pss_cons (ps_if (pt_cmpR op_eq (pv 1) (pgi T.g_LOOK) (nomark _)) (pss_one (ps_ret (pf (ok_tell_ticket T) (hr.mono (by decide)) (pa_cons (pv 0) (pa_cons (pe_ix ix_list (pv 2) pe_int (fun _ _ => rfl)) pa_nil))))) pss_nil) (pss_cons (ps_if (pt_cmpR op_eq (pv 1) (pgi T.g_STOCK) (nomark _)) (pss_one (ps_ret (pf (ok_tell_stock T) (hr.mono (by decide)) (pa_cons (pv 0) (pa_cons (pe_ix ix_list (pv 2) pe_int (fun _ _ => rfl)) pa_nil))))) pss_nil) (pss_cons (ps_if (pt_cmpR op_eq (pv 1) (pgi T.g_ENOUGH) (nomark _)) (pss_one (ps_ret (pf (ok_tell_enough T) (hr.mono (by decide)) (pa_cons (pv 0) (pa_cons (pe_ix ix_list (pv 2) pe_int (fun _ _ => rfl)) (pa_cons (pe_ix ix_list (pv 2) pe_int (fun _ _ => rfl)) pa_nil)))))) pss_nil) (pss_cons (ps_if (pt_cmpR op_eq (pv 1) (pgi T.g_TOTALS) (nomark _)) (pss_one (ps_ret (pf (ok_tell_totals T) (hr.mono (by decide)) (pa_cons (pv 0) (pa_cons (pe_ix ix_list (pv 2) pe_int (fun _ _ => rfl)) pa_nil))))) pss_nil) (pss_cons (ps_if (pt_cmpR op_eq (pv 1) (pgi T.g_TRIPS) (nomark _)) (pss_one (ps_ret (pf (ok_tell_trips T) (hr.mono (by decide)) (pa_cons (pv 0) (pa_cons (pe_ix ix_list (pv 2) pe_int (fun _ _ => rfl)) pa_nil))))) pss_nil) (pss_cons (ps_if (pt_cmpR op_eq (pv 1) (pgi T.g_MONEY) (nomark _)) (pss_one (ps_ret (pf (ok_tell_money T) (hr.mono (by decide)) (pa_cons (pv 0) pa_nil)))) pss_nil) (pss_cons (ps_if (pt_cmpR op_eq (pv 1) (pgi T.g_HEAVIEST) (nomark _)) (pss_one (ps_ret (pf (ok_tell_heaviest T) (hr.mono (by decide)) (pa_cons (pv 0) pa_nil)))) pss_nil) (pss_cons (ps_if (pt_cmpR op_eq (pv 1) (pgi T.g_SUMS) (nomark _)) (pss_one (ps_ret (pf (ok_tell_sums T) (hr.mono (by decide)) (pa_cons (pv 0) pa_nil)))) pss_nil) (pss_one (ps_ret (pf (ok_tell_state T) (hr.mono (by decide)) (pa_cons (pv 0) pa_nil)))))))))))))))))), ?_⟩
    have as0 := as_
    cases as_ with
    | begin_ x0 x1 x2 x3 =>
      exact absurd hS (by decide)
    | kind x0 x1 x2 =>
      exact absurd hS (by decide)
    | lorry x0 x1 =>
      exact absurd hS (by decide)
    | drift x0 x1 =>
      exact absurd hS (by decide)
    | on_ x0 =>
      exact absurd hS (by decide)
    | off =>
      exact absurd hS (by decide)
    | show_ =>
      exact absurd hS (by decide)
    | zero =>
      exact absurd hS (by decide)
    | test x0 =>
      exact absurd hS (by decide)
    | allowed x0 =>
      exact absurd hS (by decide)
    | arrive x0 x1 x2 =>
      exact absurd hS (by decide)
    | leave x0 x1 =>
      exact absurd hS (by decide)
    | quick x0 x1 x2 x3 =>
      exact absurd hS (by decide)
    | cancel x0 =>
      exact absurd hS (by decide)
    | days x0 =>
      exact absurd hS (by decide)
    | tare x0 =>
      refine ⟨_, rfl, rfl, _, rfl, iteT ?_⟩
      exact ⟨_, rfl, _, rfl, _, _, _, _, rfl, rfl, SqL.of hg, atI_nat (j := 0) rfl, L, D, a, _, rfl, hY, ok, d⟩
    | odd x0 =>
      refine ⟨_, rfl, rfl, _, rfl, iteF ?_⟩
      refine ⟨_, rfl, rfl, _, rfl, iteT ?_⟩
      exact ⟨_, rfl, _, rfl, _, _, _, _, rfl, rfl, SqL.of hg, atI_nat (j := 0) rfl, L, D, a, _, rfl, hY, ok, d⟩
    | excess x0 =>
      refine ⟨_, rfl, rfl, _, rfl, iteF ?_⟩
      refine ⟨_, rfl, rfl, _, rfl, iteF ?_⟩
      refine ⟨_, rfl, rfl, _, rfl, iteT ?_⟩
      exact ⟨_, rfl, _, rfl, _, _, _, _, rfl, rfl, SqL.of hg, atI_nat (j := 0) rfl, L, D, a, _, rfl, hY, ok, d⟩
    | fits x0 =>
      refine ⟨_, rfl, rfl, _, rfl, iteF ?_⟩
      refine ⟨_, rfl, rfl, _, rfl, iteF ?_⟩
      refine ⟨_, rfl, rfl, _, rfl, iteF ?_⟩
      refine ⟨_, rfl, rfl, _, rfl, iteT ?_⟩
      exact ⟨_, rfl, _, rfl, _, _, _, _, rfl, rfl, SqL.of hg, atI_nat (j := 0) rfl, L, D, a, _, rfl, hY, ok, d⟩
    | dry x0 x1 x2 =>
      refine ⟨_, rfl, rfl, _, rfl, iteF ?_⟩
      refine ⟨_, rfl, rfl, _, rfl, iteF ?_⟩
      refine ⟨_, rfl, rfl, _, rfl, iteF ?_⟩
      refine ⟨_, rfl, rfl, _, rfl, iteF ?_⟩
      refine ⟨_, rfl, rfl, _, rfl, iteT ?_⟩
      exact ⟨_, rfl, _, rfl, _, _, _, _, rfl, rfl, SqL.of hg, atI_nat (j := 0) rfl, _, rfl, _, _, _, _, rfl, rfl, SqL.of hg, atI_nat (j := 1) rfl, _, rfl, _, _, _, _, rfl, rfl, SqL.of hg, atI_nat (j := 2) rfl, L, D, a, _, _, _, rfl, hY, ok, d⟩
    | yard =>
      refine ⟨_, rfl, rfl, _, rfl, iteF ?_⟩
      refine ⟨_, rfl, rfl, _, rfl, iteF ?_⟩
      refine ⟨_, rfl, rfl, _, rfl, iteF ?_⟩
      refine ⟨_, rfl, rfl, _, rfl, iteF ?_⟩
      refine ⟨_, rfl, rfl, _, rfl, iteF ?_⟩
      refine ⟨_, rfl, rfl, _, rfl, iteT ?_⟩
      exact ⟨_, rfl, L, D, a, rfl, hY, ok, d⟩
    | look x0 =>
      refine ⟨_, rfl, rfl, _, rfl, iteF ?_⟩
      refine ⟨_, rfl, rfl, _, rfl, iteF ?_⟩
      refine ⟨_, rfl, rfl, _, rfl, iteF ?_⟩
      refine ⟨_, rfl, rfl, _, rfl, iteF ?_⟩
      refine ⟨_, rfl, rfl, _, rfl, iteF ?_⟩
      refine ⟨_, rfl, rfl, _, rfl, iteF ?_⟩
      refine ⟨_, rfl, rfl, _, rfl, iteT ?_⟩
      exact ⟨_, rfl, _, rfl, _, _, _, _, rfl, rfl, SqL.of hg, atI_nat (j := 0) rfl, L, D, a, _, rfl, hY, d⟩
    | stock x0 =>
      refine ⟨_, rfl, rfl, _, rfl, iteF ?_⟩
      refine ⟨_, rfl, rfl, _, rfl, iteF ?_⟩
      refine ⟨_, rfl, rfl, _, rfl, iteF ?_⟩
      refine ⟨_, rfl, rfl, _, rfl, iteF ?_⟩
      refine ⟨_, rfl, rfl, _, rfl, iteF ?_⟩
      refine ⟨_, rfl, rfl, _, rfl, iteF ?_⟩
      refine ⟨_, rfl, rfl, _, rfl, iteF ?_⟩
      refine ⟨_, rfl, rfl, _, rfl, iteT ?_⟩
      exact ⟨_, rfl, _, rfl, _, _, _, _, rfl, rfl, SqL.of hg, atI_nat (j := 0) rfl, L, D, a, _, rfl, hY, ok, d⟩
    | enough x0 x1 =>
      refine ⟨_, rfl, rfl, _, rfl, iteF ?_⟩
      refine ⟨_, rfl, rfl, _, rfl, iteF ?_⟩
      refine ⟨_, rfl, rfl, _, rfl, iteF ?_⟩
      refine ⟨_, rfl, rfl, _, rfl, iteF ?_⟩
      refine ⟨_, rfl, rfl, _, rfl, iteF ?_⟩
      refine ⟨_, rfl, rfl, _, rfl, iteF ?_⟩
      refine ⟨_, rfl, rfl, _, rfl, iteF ?_⟩
      refine ⟨_, rfl, rfl, _, rfl, iteF ?_⟩
      refine ⟨_, rfl, rfl, _, rfl, iteT ?_⟩
      exact ⟨_, rfl, _, rfl, _, _, _, _, rfl, rfl, SqL.of hg, atI_nat (j := 0) rfl, _, rfl, _, _, _, _, rfl, rfl, SqL.of hg, atI_nat (j := 1) rfl, L, D, a, _, _, rfl, hY, ok, d⟩
    | totals x0 =>
      refine ⟨_, rfl, rfl, _, rfl, iteF ?_⟩
      refine ⟨_, rfl, rfl, _, rfl, iteF ?_⟩
      refine ⟨_, rfl, rfl, _, rfl, iteF ?_⟩
      refine ⟨_, rfl, rfl, _, rfl, iteF ?_⟩
      refine ⟨_, rfl, rfl, _, rfl, iteF ?_⟩
      refine ⟨_, rfl, rfl, _, rfl, iteF ?_⟩
      refine ⟨_, rfl, rfl, _, rfl, iteF ?_⟩
      refine ⟨_, rfl, rfl, _, rfl, iteF ?_⟩
      refine ⟨_, rfl, rfl, _, rfl, iteF ?_⟩
      refine ⟨_, rfl, rfl, _, rfl, iteT ?_⟩
      exact ⟨_, rfl, _, rfl, _, _, _, _, rfl, rfl, SqL.of hg, atI_nat (j := 0) rfl, L, D, a, _, rfl, hY, ok, d⟩
    | trips x0 =>
      refine ⟨_, rfl, rfl, _, rfl, iteF ?_⟩
      refine ⟨_, rfl, rfl, _, rfl, iteF ?_⟩
      refine ⟨_, rfl, rfl, _, rfl, iteF ?_⟩
      refine ⟨_, rfl, rfl, _, rfl, iteF ?_⟩
      refine ⟨_, rfl, rfl, _, rfl, iteF ?_⟩
      refine ⟨_, rfl, rfl, _, rfl, iteF ?_⟩
      refine ⟨_, rfl, rfl, _, rfl, iteF ?_⟩
      refine ⟨_, rfl, rfl, _, rfl, iteF ?_⟩
      refine ⟨_, rfl, rfl, _, rfl, iteF ?_⟩
      refine ⟨_, rfl, rfl, _, rfl, iteF ?_⟩
      refine ⟨_, rfl, rfl, _, rfl, iteT ?_⟩
      exact ⟨_, rfl, _, rfl, _, _, _, _, rfl, rfl, SqL.of hg, atI_nat (j := 0) rfl, L, D, a, _, rfl, hY, ok, d⟩
    | money =>
      refine ⟨_, rfl, rfl, _, rfl, iteF ?_⟩
      refine ⟨_, rfl, rfl, _, rfl, iteF ?_⟩
      refine ⟨_, rfl, rfl, _, rfl, iteF ?_⟩
      refine ⟨_, rfl, rfl, _, rfl, iteF ?_⟩
      refine ⟨_, rfl, rfl, _, rfl, iteF ?_⟩
      refine ⟨_, rfl, rfl, _, rfl, iteF ?_⟩
      refine ⟨_, rfl, rfl, _, rfl, iteF ?_⟩
      refine ⟨_, rfl, rfl, _, rfl, iteF ?_⟩
      refine ⟨_, rfl, rfl, _, rfl, iteF ?_⟩
      refine ⟨_, rfl, rfl, _, rfl, iteF ?_⟩
      refine ⟨_, rfl, rfl, _, rfl, iteF ?_⟩
      refine ⟨_, rfl, rfl, _, rfl, iteT ?_⟩
      exact ⟨_, rfl, L, D, a, rfl, hY, ok, d⟩
    | heaviest =>
      refine ⟨_, rfl, rfl, _, rfl, iteF ?_⟩
      refine ⟨_, rfl, rfl, _, rfl, iteF ?_⟩
      refine ⟨_, rfl, rfl, _, rfl, iteF ?_⟩
      refine ⟨_, rfl, rfl, _, rfl, iteF ?_⟩
      refine ⟨_, rfl, rfl, _, rfl, iteF ?_⟩
      refine ⟨_, rfl, rfl, _, rfl, iteF ?_⟩
      refine ⟨_, rfl, rfl, _, rfl, iteF ?_⟩
      refine ⟨_, rfl, rfl, _, rfl, iteF ?_⟩
      refine ⟨_, rfl, rfl, _, rfl, iteF ?_⟩
      refine ⟨_, rfl, rfl, _, rfl, iteF ?_⟩
      refine ⟨_, rfl, rfl, _, rfl, iteF ?_⟩
      refine ⟨_, rfl, rfl, _, rfl, iteF ?_⟩
      refine ⟨_, rfl, rfl, _, rfl, iteT ?_⟩
      exact ⟨_, rfl, L, D, a, rfl, hY, ok, d⟩
    | sums =>
      refine ⟨_, rfl, rfl, _, rfl, iteF ?_⟩
      refine ⟨_, rfl, rfl, _, rfl, iteF ?_⟩
      refine ⟨_, rfl, rfl, _, rfl, iteF ?_⟩
      refine ⟨_, rfl, rfl, _, rfl, iteF ?_⟩
      refine ⟨_, rfl, rfl, _, rfl, iteF ?_⟩
      refine ⟨_, rfl, rfl, _, rfl, iteF ?_⟩
      refine ⟨_, rfl, rfl, _, rfl, iteF ?_⟩
      refine ⟨_, rfl, rfl, _, rfl, iteF ?_⟩
      refine ⟨_, rfl, rfl, _, rfl, iteF ?_⟩
      refine ⟨_, rfl, rfl, _, rfl, iteF ?_⟩
      refine ⟨_, rfl, rfl, _, rfl, iteF ?_⟩
      refine ⟨_, rfl, rfl, _, rfl, iteF ?_⟩
      refine ⟨_, rfl, rfl, _, rfl, iteF ?_⟩
      refine ⟨_, rfl, rfl, _, rfl, iteT ?_⟩
      exact ⟨_, rfl, L, D, a, rfl, hY, ok, d⟩
    | state =>
      refine ⟨_, rfl, rfl, _, rfl, iteF ?_⟩
      refine ⟨_, rfl, rfl, _, rfl, iteF ?_⟩
      refine ⟨_, rfl, rfl, _, rfl, iteF ?_⟩
      refine ⟨_, rfl, rfl, _, rfl, iteF ?_⟩
      refine ⟨_, rfl, rfl, _, rfl, iteF ?_⟩
      refine ⟨_, rfl, rfl, _, rfl, iteF ?_⟩
      refine ⟨_, rfl, rfl, _, rfl, iteF ?_⟩
      refine ⟨_, rfl, rfl, _, rfl, iteF ?_⟩
      refine ⟨_, rfl, rfl, _, rfl, iteF ?_⟩
      refine ⟨_, rfl, rfl, _, rfl, iteF ?_⟩
      refine ⟨_, rfl, rfl, _, rfl, iteF ?_⟩
      refine ⟨_, rfl, rfl, _, rfl, iteF ?_⟩
      refine ⟨_, rfl, rfl, _, rfl, iteF ?_⟩
      refine ⟨_, rfl, rfl, _, rfl, iteF ?_⟩
      exact ⟨_, rfl, L, D, a, rfl, hY, ok, d⟩
theorem act_none {c : Kv319.Call} (h : ∀ d n y g, c ≠ .begin_ d n y g) : Kv319.act none c = (none, Kv319.say (-11)) := by
  cases c <;> first | rfl | exact absurd rfl (h _ _ _ _)
def sp_ask (K : PySem.W.Frag) (cs : Cs) : Sp := fun vs H Q _ => ∃ n st F c num g giv, vs = [.ref n, .int num, .ref g] ∧ LineAt cs H n st F ∧ H g = some (iL giv) ∧ CallAs num giv c ∧ DidL cs H n F (Kv319.act st c) Q
theorem ok_ask {P : Program} {w : World} {K : PySem.W.Frag} {mg : Str → Option Value} {base : Heap} {cs : Cs} (T : Txt K mg cs) : FOk P w K mg base 10 "ask" ["line", "number", "given"] (sp_ask K cs) := by
  refine T.f_ask.ok sc_ask bd_ask (fun vs H Q E h => ?_) (fun f cdv A outer s H vs Q E hr h => ?_)
  · obtain ⟨n, st, F, c, num, g, giv, rfl, _⟩ := h; rfl
  · obtain ⟨n, st, F, c, num, g, giv, rfl, hL, hg, as_, d⟩ := h
    refine ⟨_, (pss_cons (ps_if (pt_cmpR op_eq (pv 1) (pgi T.g_BEGIN) (nomark _)) (pss_one (ps_ret (pm (pv 0) T.Line.cl (ok_Line_begin T) (hr.mono (by decide)) (pa_cons (pe_ix ix_list (pv 2) pe_int (fun _ _ => rfl)) (pa_cons (pe_ix ix_list (pv 2) pe_int (fun _ _ => rfl)) (pa_cons (pe_ix ix_list (pv 2) pe_int (fun _ _ => rfl)) (pa_cons (pe_ix ix_list (pv 2) pe_int (fun _ _ => rfl)) pa_nil))))))) pss_nil) (pss_cons (ps_if (pt_cmpR op_isN (pe_fld (pv 0) rfl) pe_non (nomark _)) (pss_one (ps_ret (pe_lst (pa_cons (pgi T.g_NOT_BEGUN) pa_nil)))) pss_nil) (pss_cons (ps_if (pt_cmpR op_ge (pv 1) (pgi T.g_TARE) (nomark _)) (pss_one (ps_ret (pf (ok_look_up T) (hr.mono (by decide)) (pa_cons (pe_fld (pv 0) rfl) (pa_cons (pv 1) (pa_cons (pv 2) pa_nil)))))) pss_nil) (pss_one (ps_ret (pf (ok_ask_yard T) (hr.mono (by decide)) (pa_cons (pe_fld (pv 0) rfl) (pa_cons (pv 1) (pa_cons (pv 2) pa_nil))))))))), ?_⟩
    by_cases c0 : num = 0
    · subst c0
      cases as_ with
      | begin_ x0 x1 x2 x3 =>
        obtain ⟨dn, v0, hn⟩ := hL.obj
        refine ⟨_, rfl, rfl, _, rfl, iteT ?_⟩
        exact ⟨_, rfl, _, _, _, rfl, hn, rfl, _, rfl, _, _, _, _, rfl, rfl, SqL.of hg, atI_nat (j := 0) rfl, _, rfl, _, _, _, _, rfl, rfl, SqL.of hg, atI_nat (j := 1) rfl, _, rfl, _, _, _, _, rfl, rfl, SqL.of hg, atI_nat (j := 2) rfl, _, rfl, _, _, _, _, rfl, rfl, SqL.of hg, atI_nat (j := 3) rfl,
          n, st, F, x0, x1, x2, x3, rfl, hL, d⟩
    · refine ⟨_, rfl, rfl, _, rfl, ite2 (fun z => absurd (dV.mp z) c0) (fun _ => ?_)⟩
      cases st with
      | none =>
        obtain ⟨⟨dn, hn⟩, eF⟩ := hL
        rw [act_none (by rintro _ _ _ _ rfl; cases as_; exact c0 rfl)] at d
        refine ⟨_, rfl, _, cs.Line, _, _, _, rfl, hn, T.Line.cl, T.Line.n_yard, rfl, rfl, _, rfl, iteT ?_⟩
        exact ⟨(by show 1 ≤ sizeLine; decide), fun q hq => d.same ⟨⟨dn, hn⟩, eF⟩ (Same.refl H) hq⟩
      | some a =>
        obtain ⟨dn, L, D, hn, hY, ok, ne, eF⟩ := hL
        subst eF
        refine ⟨_, rfl, _, cs.Line, _, _, _, rfl, hn, T.Line.cl, T.Line.n_yard, rfl, rfl, _, rfl, iteF ?_⟩
        refine ⟨_, rfl, _, _, rfl, rfl, _, rfl, ite2 (fun c => ?_) (fun c => ?_)⟩
        · have c := of_decide_eq_true c
          have hS : num ∈ ([15, 16, 17, 18, 19, 20, 21, 22, 23, 24, 25, 26, 27, 28, 29] : List Int) := by
            cases as_ <;> first | decide | exact absurd c (by decide)
          exact ⟨_, rfl, _, cs.Line, _, _, _, rfl, hn, T.Line.cl, T.Line.n_yard, rfl, _, rfl, _, rfl, L, D, a, _, _, _, _, rfl, hY, ok, hg, as_, hS, d.yard hn ok ne⟩
        · have c : ¬ (15 : Int) ≤ num := fun h => c (decide_eq_true h)
          have hS : num ∈ ([1, 2, 10, 11, 12, 13, 14, 3, 4, 5, 6, 7, 8, 9] : List Int) := by
            cases as_ <;> first | decide | exact absurd rfl c0 | exact absurd (by decide) c
          exact ⟨_, rfl, _, cs.Line, _, _, _, rfl, hn, T.Line.cl, T.Line.n_yard, rfl, _, rfl, _, rfl, L, D, a, _, _, _, _, rfl, hY, ok, hg, as_, hS, d.yard hn ok ne⟩
end Wb

end
section
set_option Elab.async false
set_option linter.all false
set_option maxRecDepth 100000
set_option maxHeartbeats 4000000
/-! answers: the loop over the line's calls. -/
namespace Wb
open PySem PySem.Spec PyProof.Rows L2
theorem LineAt.owned {cs : Cs} {H : Hp} {n : Addr} {F : Addr → Prop} : ∀ {st : Kv319.State}, LineAt cs H n st F → ∀ b, F b → ∃ o, H b = some o
  | none, ⟨⟨dn, h⟩, e⟩, b, f => by rw [e] at f; rw [f]; exact ⟨_, h⟩
  | some a, ⟨dn, L, D, h, y, ok, ne, e⟩, b, f => by
    rw [e] at f
    rcases f with f | ⟨t, x, q, f⟩
    · rw [f]; exact ⟨_, h⟩
    · rw [f]; exact ⟨_, y.at_ t x q⟩
theorem LineAt.frame {cs : Cs} {H H' : Hp} {n : Addr} {F : Addr → Prop} : ∀ {st : Kv319.State}, LineAt cs H n st F → (∀ b o, H b = some o → F b → H' b = some o) → LineAt cs H' n st F
  | none, ⟨⟨dn, h⟩, e⟩, s => ⟨⟨dn, s _ _ h (by rw [e])⟩, e⟩
  | some a, ⟨dn, L, D, h, y, ok, ne, e⟩, s => ⟨dn, L, D, s _ _ h (by rw [e]; exact .inl rfl), ⟨y.inj, fun t x q => s _ _ (y.at_ t x q) (by rw [e]; exact .inr ⟨t, x, q, rfl⟩)⟩, ok, ne, e⟩
theorem calls_cons {f : Nat} {p : Int} {r : List Int} {rest : List (List (List Int))} (h : PyFlat.calls PyKv319.shape f (p :: r) = some rest) : ∃ f' c t cs, PyFlat.call PyKv319.shape (p :: r) = some (c, t) ∧ PyFlat.calls PyKv319.shape f' t = some cs ∧ rest = c :: cs := by
  cases f with
  | zero => unfold PyFlat.calls at h; cases h
  | succ f =>
    unfold PyFlat.calls at h
    cases e : PyFlat.call PyKv319.shape (p :: r) with
    | none => rw [e] at h; cases h
    | some x =>
      obtain ⟨c, t⟩ := x
      rw [e] at h
      dsimp only at h
      cases e2 : PyFlat.calls PyKv319.shape f t with
      | none => rw [e2] at h; cases h
      | some cs =>
        rw [e2] at h
        injection h with h
        exact ⟨f, c, t, cs, rfl, e2, h.symm⟩
theorem calls_nil {f : Nat} {rest : List (List (List Int))} (h : PyFlat.calls PyKv319.shape f [] = some rest) : rest = [] := by
  unfold PyFlat.calls at h
  injection h with h
  exact h.symm
/-- between two turns: i, the state, what is left, what is answered -/
structure Turns (l : List Int) (i : Nat) (st : Kv319.State) (out : List Int) : Prop where
  ex : ∃ f rest, PyFlat.calls PyKv319.shape f (l.drop i) = some rest ∧ PyInside.calls PyKv319.bound rest = true ∧ PyKv319.answers l = out ++ PyFlat.told (PyFlat.played Kv319Neutral.step st (rest.map PyKv319.whole))
  le : i ≤ l.length
theorem Turns.done {l : List Int} {i : Nat} {st : Kv319.State} {out : List Int} (h : Turns l i st out) (e : ¬ i < l.length) : PyKv319.answers l = out := by
  obtain ⟨f, rest, h1, h2, h3⟩ := h.ex
  have := h.le
  rw [List.drop_eq_nil_of_le (by omega)] at h1
  rw [calls_nil h1] at h3
  rw [h3]
  show out ++ [] = out
  exact List.append_nil _
theorem Turns.step {l : List Int} {i : Nat} {st : Kv319.State} {out : List Int} (h : Turns l i st out) (e : i < l.length) : ∃ p giv t cc, l.drop i = p :: (giv ++ t) ∧ Wide p giv ∧ CallAs p giv cc ∧
    Turns l (i + 1 + giv.length) (Kv319.act st cc).1 (out ++ (((((Kv319.act st cc).2.ret :: (Kv319.act st cc).2.nums).length : Nat) : Int) :: (Kv319.act st cc).2.ret :: (Kv319.act st cc).2.nums)) := by
  obtain ⟨f, rest, h1, h2, h3⟩ := h.ex
  cases hd : l.drop i with
  | nil => have := congrArg List.length hd; rw [List.length_drop] at this; simp at this; omega
  | cons p r =>
    rw [hd] at h1
    obtain ⟨f', c, t, cs, g1, g2, rfl⟩ := calls_cons h1
    have h2 : (PyInside.call PyKv319.bound c && PyInside.calls PyKv319.bound cs) = true := h2
    rw [Bool.and_eq_true] at h2
    obtain ⟨b0, b1, cc, giv, P⟩ := parse1 g1 h2.1
    have hd2 : l.drop i = p :: (giv ++ t) := by rw [hd, P.split]
    refine ⟨p, giv, t, cc, by rw [P.split], ⟨b0, b1, P.wide, P.row⟩, P.as_, ⟨f', cs, by rw [drop_next hd2]; exact g2, h2.2, ?_⟩, drop_in hd2⟩
    rw [h3]
    have es : Kv319Neutral.step st (PyKv319.whole c) = ((Kv319.act st cc).1, (Kv319.act st cc).2.ret :: (Kv319.act st cc).2.nums) := by
      unfold Kv319Neutral.step
      rw [P.of_]
      rfl
    show out ++ (((((Kv319Neutral.step st (PyKv319.whole c)).2.length : Nat) : Int) :: (Kv319Neutral.step st (PyKv319.whole c)).2) ++ PyFlat.told (PyFlat.played Kv319Neutral.step (Kv319Neutral.step st (PyKv319.whole c)).1 (cs.map PyKv319.whole))) = _
    rw [es, List.append_assoc]
theorem turns_start {l : List Int} (h : PyKv319.answers_asked l = true) : Turns l 0 none [] ∧ (PyKv319.answers l).length ≤ 10000000 := by
  unfold PyKv319.answers_asked at h
  cases e : PyFlat.calls PyKv319.shape l.length l with
  | none => rw [e] at h; cases h
  | some raw =>
    rw [e] at h
    dsimp only at h
    simp only [Bool.and_eq_true] at h
    refine ⟨⟨⟨l.length, raw, e, h.1.1.2, ?_⟩, Nat.zero_le _⟩, of_decide_eq_true h.2⟩
    show PyKv319.answers l = PyFlat.told _
    unfold PyKv319.answers PyKv319.calls
    rw [e]
    rfl
def spTop (K : PySem.W.Frag) : Sp := fun vs H Q _ => ∃ (a : Addr) (l : List Int), vs = [.ref a] ∧ SqL K H a (l.map V.int) ∧ PyKv319.answers_asked l = true ∧
  ∀ (H' : Hp) (p : Addr), H' p = some (iL (PyKv319.answers l)) → Q (.ref p) H'
def sp_answers (K : PySem.W.Frag) (cs : Cs) : Sp := spTop K
theorem out_le {l : List Int} {i : Nat} {st : Kv319.State} {out : List Int} (h : Turns l i st out) (b : (PyKv319.answers l).length ≤ 10000000) : out.length ≤ 10000000 := by
  obtain ⟨f, rest, h1, h2, h3⟩ := h.ex
  rw [h3, List.length_append] at b
  omega
theorem body_answers {P : Program} {w : World} {K : PySem.W.Frag} {mg : Str → Option Value} {base : Heap} {cs : Cs} (T : Txt K mg cs) : Body P w K mg base ["calls", "line", "answered", "start", "end", "numbers"] "answers" s_answers 10 (sp_answers K cs) := by
  intro f cdv A outer s H vs Q E hr h
  · obtain ⟨a, l, rfl, hS, hask, k⟩ := h
    obtain ⟨t0, short⟩ := turns_start hask
    refine ⟨_, (pss_cons (ps_set (i := 1) sc_answers.nd rfl (Or.inl rfl) (pk0 (ok_Line_init T) (hr.mono (by decide)) T.Line.mgC)) (pss_cons (ps_set (i := 2) sc_answers.nd rfl (Or.inl rfl) (pe_lst pa_nil)) (pss_cons (ps_set (i := 3) sc_answers.nd rfl (Or.inl rfl) pe_int) (pss_cons (ps_while PassesOwn.never (pt_cmpR op_lt (pv 3) (pb call_len_seq T.b_len bt_len (pa_cons (pv 0) pa_nil)) (nomark _)) (pss_cons (ps_set (i := 4) sc_answers.nd rfl (Or.inl rfl) (pf (ok_end_of_call T) (hr.mono (by decide)) (pa_cons (pv 0) (pa_cons (pv 3) pa_nil)))) (pss_cons (ps_set (i := 5) sc_answers.nd rfl (Or.inl rfl) (pf (ok_ask T) (hr.mono (by decide)) (pa_cons (pv 1) (pa_cons (pe_ix ix_list (pv 0) (pv 3) (fun _ _ => rfl)) (pa_cons (pe_slice sl_list (pv 0) (po_some (pe_op op_add (pv 3) pe_int)) (po_some (pv 4))) pa_nil))))) (pss_cons (ps_expr (pe_bm PySem.F.plainAttrs_list PySem.F.slot_list_append PySem.F.type_list_append mt_append (pv 2) (pa_cons (pb call_len_seq T.b_len bt_len (pa_cons (pv 5) pa_nil)) pa_nil))) (pss_cons (ps_expr (pe_bm PySem.F.plainAttrs_list PySem.F.slot_list_extend PySem.F.type_list_extend mt_extend (pv 2) (pa_cons (pv 5) pa_nil))) (pss_one (ps_set (i := 3) sc_answers.nd rfl (Or.inl rfl) (pv 4)))))))) (pss_one (ps_ret (pv 2))))))), ?_⟩
    intro n dn nn nd ne
    refine ⟨n, dn, rfl, upd_same, rfl, ?_⟩
    generalize eH1 : upd (upd (upd H dn (.own n)) n (.ins cs.Line dn [])) n (.ins cs.Line dn [("yard", .non)]) = H1
    have s1 : Same H H1 := by rw [← eH1]; exact fun b o e => by rw [upd_ne (ne_of_none e nn), upd_ne (ne_of_none e nn), upd_ne (ne_of_none e nd)]; exact e
    have hn1 : H1 n = some (.ins cs.Line dn [("yard", .non)]) := by rw [← eH1]; exact upd_same
    refine ⟨Nat.zero_le _, fun A hA => ?_⟩
    have s2 := same_new (o := .lst []) hA
    have nA : n ≠ A := ne_of_none hn1 hA
    refine ⟨fun m σ H' => ∃ (i : Nat) (st : Kv319.State) (F : Addr → Prop) (out : List Int) (ve vn : Option V), m = l.length - i ∧ σ = [some (.ref a), some (.ref n), some (.ref A), some (nI i), ve, vn] ∧ LineAt cs H' n st F ∧ H' A = some (iL out) ∧ ¬ F A ∧ Kept K H' a (l.map V.int) F A ∧ Turns l i st out,
      ⟨_, 0, none, fun b => b = n, [], none, none, rfl, rfl, ⟨⟨dn, s2 _ _ hn1⟩, rfl⟩, upd_same, fun e => nA e.symm, ?_, t0⟩, ?_⟩
    · rcases hS with h | h
      · have na : ∀ o, H a = some o → a ≠ n ∧ a ≠ A := fun o e => ⟨ne_of_none e nn, ne_of_none (s1 _ _ e) hA⟩
        rcases h with h | ⟨o, h⟩
        · exact .inl ⟨.inl (s2 _ _ (s1 _ _ h)), (na _ h).1, (na _ h).2⟩
        · exact .inl ⟨.inr ⟨o, s2 _ _ (s1 _ _ h)⟩, (na _ h).1, (na _ h).2⟩
      · exact .inr fun H' => .inr h
    rintro m σ H' ⟨i, st, F, out, ve, vn, rfl, rfl, hL, hA', nF, hK, tu⟩
    have hS' := hK.seq
    refine ⟨_, rfl, _, rfl, _, _, rfl, .inl hS', _, _, rfl, rfl, _, rfl, ite2 (fun c => ?_) (fun c => ?_)⟩
    case refine_2 =>
      have c : ¬ i < l.length := fun z => c (decide_eq_true (by rw [List.length_map]; omega))
      rw [tu.done c] at k
      exact ⟨_, rfl, k H' A hA'⟩
    have c := of_decide_eq_true c
    rw [List.length_map] at c
    obtain ⟨p, giv, t, cc, hd, wd, as_, tu2⟩ := tu.step (by omega)
    have hle := drop_in hd
    refine ⟨fun σ' H'' => ∃ (i' : Nat) (st : Kv319.State) (F : Addr → Prop) (out : List Int) (ve vn : Option V), l.length - i' < l.length - i ∧ σ' = [some (.ref a), some (.ref n), some (.ref A), some (nI i'), ve, vn] ∧ LineAt cs H'' n st F ∧ H'' A = some (iL out) ∧ ¬ F A ∧ Kept K H'' a (l.map V.int) F A ∧ Turns l i' st out, ?_, ?_⟩
    · rintro σ' H'' ⟨i', st', F', out', ve', vn', hz, e1, e2, e3, e4, e5, e6⟩
      exact ⟨_, hz, i', st', F', out', ve', vn', rfl, e1, e2, e3, e4, e5, e6⟩
    refine ⟨_, rfl, _, rfl, a, l, i, p, giv, t, rfl, hS', hd, wd, ?_⟩
    refine ⟨_, rfl, _, rfl, _, rfl, _, _, _, _, rfl, rfl, hS', at_int (drop_at hd).1, _, rfl, _, rfl, _, _, rfl, rfl, _, rfl, _, rfl, _, rfl, _, _, rfl, hS', fun g hg => ?_⟩
    have s3 := same_new (o := .lst (cutV (l.map V.int) (some ((i : Int) + 1)) (some (((i + 1 + giv.length : Nat)) : Int)))) hg
    refine ⟨n, st, F, cc, p, g, giv, rfl, hL.same s3, (by rw [upd_same, cut_mid hd]), as_, fun H2 F2 q hL2 keep own hq hq2 => ?_⟩
    have hA2 : H2 A = some (iL out) := keep A _ (s3 _ _ hA') nF
    have nF2 : ¬ F2 A := fun z => by
      rcases own A z with z | z
      · exact nF z
      · rw [s3 _ _ hA'] at z; cases z
    have qA : q ≠ A := fun e => by rw [e, s3 _ _ hA'] at hq; cases hq
    have ol := out_le tu2 short
    rw [List.length_append, List.length_cons] at ol
    refine ⟨_, rfl, .inl ⟨rfl, _, SqL.of hA2⟩, _, rfl, _, _, rfl, .inl (SqL.of hq2), _, _, _, rfl, rfl, hA2, (by rw [List.length_map]; exact Nat.lt_of_le_of_lt (show out.length ≤ 10000000 by omega) (by decide)), ?_⟩
    refine ⟨_, rfl, .inl ⟨rfl, _, SqL.of upd_same⟩, _, rfl, _, _, _, _, rfl, rfl, upd_same, (by rw [upd_ne qA]; exact hq2), (by
      rw [List.length_append, List.length_map, List.length_map, List.length_cons, List.length_nil]
      exact Nat.le_trans (show _ ≤ 10000000 by omega) (by decide)), ?_⟩
    refine ⟨_, rfl, i + 1 + giv.length, (Kv319.act st cc).1, F2, _, _, _, (by omega), rfl, ?_, ?_, nF2, ?_, tu2⟩
    · exact hL2.frame fun b o e f => by
        have nb : b ≠ A := fun z => nF2 (z ▸ f)
        rw [upd_ne nb, upd_ne nb]; exact e
    · rw [upd_same]
      simp only [iL, List.map_append, List.map_cons, List.append_assoc, List.length_cons, List.length_map, List.cons_append, List.nil_append]
    · exact hK.next (fun b o e f nb => by rw [upd_ne nb, upd_ne nb]; exact keep b o (s3 _ _ e) f) (fun b f => (own b f).imp id fun z => s3.free z)
theorem whole {P : Program} {w : World} {K : PySem.W.Frag} {mg : Str → Option Value} {cs : Cs} {fa : Addr} (T : Txt K mg cs) (hfa : mg "answers" = some (.ref fa)) :
    ∃ fd : FuncData, (∀ (s : Shared) (us : List Value), us.length = (["calls"] : List Str).length → BindsTo s fd ⟨us, []⟩ ((["calls"] : List Str).zip us)) ∧ ∀ base : Heap, K.In base → base.Ns mainGlobals mg → FnOk P w K mg base CX0 40 fa fd ["calls"] (spTop K) := by
  obtain ⟨f, fd, hm, F⟩ := T.f_answers.ex
  obtain rfl : f = fa := by
    have e := hm.symm.trans hfa
    injection e with e; injection e
  refine ⟨fd, fun s us hu => ?_, fun base _ _ => ?_⟩
  · obtain ⟨oc, od, kV, doc, pm, an, cdv, ct, osl, rfl, lk, hcd⟩ := F.ex
    exact .of_eq (bd_answers _ _ _ _ _ _ us hu)
  · exact (F.ok (k := 11 - 1) sc_answers (fun vs H Q E h => by obtain ⟨a, l, rfl, _⟩ := h; rfl) fun cdv A outer s H vs Q E hr h => body_answers T f cdv A outer s H vs Q E hr h).mono (by decide)
end Wb

end
section
open PySem PySem.W PyProof.Rows
set_option Elab.async false
set_option maxRecDepth 100000
namespace Wb
theorem mk_tup2 {K : PySem.W.Frag} {h : Heap} {mg : Str → Option Value} {x : Str} {a : Addr} {vs : List Int} {o : Obj} {its : Array Value} {n : Nat} (X : K.In h) (G : h.Ns mainGlobals mg) (e : PySem.W.nsIn K mainGlobals x = some (some (.ref a)))
    (l : K.lookup a = some o) (c : o.cls = .type "tuple") (d : o.data = .seq its n) (z : its.size ≤ PySem.sizeLine) (r : L2.Vals (vs.map L2.V.int) its.toList) : HasTup K mg x vs :=
  ⟨a, PySem.W.mg_of X G e, fun H => .inr ⟨o, its, n, l, c, d, z, r⟩⟩
theorem bnd {A B : Prop} (h : A) (k : A → B) : B := k h
end Wb
def PySem.W.Fast.tw10273832303446237640 : Unit := ()
def PySem.W.Fast.tw10800979809449513291 : Unit := ()
def PySem.W.Fast.tw1086235717127411604 : Unit := ()
def PySem.W.Fast.tw11169474847851105344 : Unit := ()
def PySem.W.Fast.tw1120526044427167886 : Unit := ()
def PySem.W.Fast.tw11233764222528045385 : Unit := ()
def PySem.W.Fast.tw11383221207401839993 : Unit := ()
def PySem.W.Fast.tw11809316753105139766 : Unit := ()
def PySem.W.Fast.tw1212089873791802534 : Unit := ()
def PySem.W.Fast.tw12255007066069582091 : Unit := ()
def PySem.W.Fast.tw12432783337499823429 : Unit := ()
def PySem.W.Fast.tw12529683664823896938 : Unit := ()
def PySem.W.Fast.tw12730986285256476910 : Unit := ()
def PySem.W.Fast.tw12840979977349511754 : Unit := ()
def PySem.W.Fast.tw12853984767295354456 : Unit := ()
def PySem.W.Fast.tw12941625818357569504 : Unit := ()
def PySem.W.Fast.tw12958112834666069451 : Unit := ()
def PySem.W.Fast.tw13428520406530610954 : Unit := ()
def PySem.W.Fast.tw13449444060214393782 : Unit := ()
def PySem.W.Fast.tw13698589626871117425 : Unit := ()
def PySem.W.Fast.tw13841619112935727620 : Unit := ()
def PySem.W.Fast.tw14011365920420392566 : Unit := ()
def PySem.W.Fast.tw14099006640407887632 : Unit := ()
def PySem.W.Fast.tw14138248111868841326 : Unit := ()
def PySem.W.Fast.tw14259825181531635534 : Unit := ()
def PySem.W.Fast.tw14359552709835095997 : Unit := ()
def PySem.W.Fast.tw15090345719010095354 : Unit := ()
def PySem.W.Fast.tw15282925799682749534 : Unit := ()
def PySem.W.Fast.tw15328406013798966491 : Unit := ()
def PySem.W.Fast.tw15399744068681775093 : Unit := ()
def PySem.W.Fast.tw15455179866259442840 : Unit := ()
def PySem.W.Fast.tw15579591982402080402 : Unit := ()
def PySem.W.Fast.tw15683303437613851518 : Unit := ()
def PySem.W.Fast.tw1573776069828006053 : Unit := ()
def PySem.W.Fast.tw15927645738153716645 : Unit := ()
def PySem.W.Fast.tw15958020342218856642 : Unit := ()
def PySem.W.Fast.tw1601196802069071544 : Unit := ()
def PySem.W.Fast.tw16022439587955887195 : Unit := ()
def PySem.W.Fast.tw16144862942037307553 : Unit := ()
def PySem.W.Fast.tw16171199459097637706 : Unit := ()
def PySem.W.Fast.tw16183296577782210916 : Unit := ()
def PySem.W.Fast.tw1619215306860397337 : Unit := ()
def PySem.W.Fast.tw16321634353250475829 : Unit := ()
def PySem.W.Fast.tw16386394398910578967 : Unit := ()
def PySem.W.Fast.tw16423788025822912549 : Unit := ()
def PySem.W.Fast.tw16756990437171467315 : Unit := ()
def PySem.W.Fast.tw16760610929106874160 : Unit := ()
def PySem.W.Fast.tw16779637904477097633 : Unit := ()
def PySem.W.Fast.tw16822708287005070518 : Unit := ()
def PySem.W.Fast.tw17049930908718451438 : Unit := ()
def PySem.W.Fast.tw17166451748102744138 : Unit := ()
def PySem.W.Fast.tw17520338508215293694 : Unit := ()
def PySem.W.Fast.tw17660979761396477257 : Unit := ()
def PySem.W.Fast.tw18014410337140799186 : Unit := ()
def PySem.W.Fast.tw18199529196393995060 : Unit := ()
def PySem.W.Fast.tw18360634559622530834 : Unit := ()
def PySem.W.Fast.tw18399891171657895110 : Unit := ()
def PySem.W.Fast.tw1865806848416057234 : Unit := ()
def PySem.W.Fast.tw1952613207902011121 : Unit := ()
def PySem.W.Fast.tw2139851471805220794 : Unit := ()
def PySem.W.Fast.tw2180090679621972833 : Unit := ()
def PySem.W.Fast.tw2203368656817096064 : Unit := ()
def PySem.W.Fast.tw2227203460832235129 : Unit := ()
def PySem.W.Fast.tw2430004954872279496 : Unit := ()
def PySem.W.Fast.tw2455732683839691055 : Unit := ()
def PySem.W.Fast.tw2620319884306005277 : Unit := ()
def PySem.W.Fast.tw2833407869439977545 : Unit := ()
def PySem.W.Fast.tw2854586286531130703 : Unit := ()
def PySem.W.Fast.tw2897673702772553308 : Unit := ()
def PySem.W.Fast.tw3695420071456361353 : Unit := ()
def PySem.W.Fast.tw3994062284545207399 : Unit := ()
def PySem.W.Fast.tw4497271614209674671 : Unit := ()
def PySem.W.Fast.tw4509765742458107920 : Unit := ()
def PySem.W.Fast.tw4561309886979199285 : Unit := ()
def PySem.W.Fast.tw5026396910158217227 : Unit := ()
def PySem.W.Fast.tw502965304477768479 : Unit := ()
def PySem.W.Fast.tw5162775701823357136 : Unit := ()
def PySem.W.Fast.tw5219844159177163710 : Unit := ()
def PySem.W.Fast.tw5376868543089561048 : Unit := ()
def PySem.W.Fast.tw5459930505585623369 : Unit := ()
def PySem.W.Fast.tw5546482658573858869 : Unit := ()
def PySem.W.Fast.tw5611082464375442248 : Unit := ()
def PySem.W.Fast.tw5611564388605527776 : Unit := ()
def PySem.W.Fast.tw5842274925421045887 : Unit := ()
def PySem.W.Fast.tw5984859527606604661 : Unit := ()
def PySem.W.Fast.tw6354136382976268618 : Unit := ()
def PySem.W.Fast.tw6649810892118736473 : Unit := ()
def PySem.W.Fast.tw6662621868399065642 : Unit := ()
def PySem.W.Fast.tw7037021031508912580 : Unit := ()
def PySem.W.Fast.tw7065123536414424701 : Unit := ()
def PySem.W.Fast.tw73208767936752370 : Unit := ()
def PySem.W.Fast.tw7427266410909816368 : Unit := ()
def PySem.W.Fast.tw7564090476000487889 : Unit := ()
def PySem.W.Fast.tw772619463939030572 : Unit := ()
def PySem.W.Fast.tw802752461097001105 : Unit := ()
def PySem.W.Fast.tw8102572791415758211 : Unit := ()
def PySem.W.Fast.tw8241571479903564681 : Unit := ()
def PySem.W.Fast.tw8252713451665811782 : Unit := ()
def PySem.W.Fast.tw8273651423070085130 : Unit := ()
def PySem.W.Fast.tw837001384797448105 : Unit := ()
def PySem.W.Fast.tw8561885032445135996 : Unit := ()
def PySem.W.Fast.tw856975353022668930 : Unit := ()
def PySem.W.Fast.tw868390230775033719 : Unit := ()
def PySem.W.Fast.tw8789153649476118105 : Unit := ()
def PySem.W.Fast.tw8803752027312588791 : Unit := ()
def PySem.W.Fast.tw8877926865074643645 : Unit := ()
def PySem.W.Fast.tw8900129734892582977 : Unit := ()
def PySem.W.Fast.tw9015308603419324421 : Unit := ()
def PySem.W.Fast.tw9015633291660250842 : Unit := ()
def PySem.W.Fast.tw9297880281968450599 : Unit := ()
def PySem.W.Fast.tw943805275071503426 : Unit := ()
def PySem.W.Fast.tw9763694060213591419 : Unit := ()
def PySem.W.Fast.tw9910398053839375777 : Unit := ()
set_option maxHeartbeats 0 in
theorem PySem.Challenge.cw_weighbridge_s01_answers_holds : PySem.Challenge.rw_weighbridge_s01_answers.Holds := by
  w_on; k_headS; (case hw => exact ⟨[.list [.int 5]], by decide +kernel, by decide +kernel⟩)
  k_fillS
  refine L2.walk_specK (r := PySem.Challenge.rw_weighbridge_s01_answers) (k := 40) (CX := L2.CX0) (ps := ["calls"]) (sp := Wb.spTop) (by decide +kernel) rfl rfl ⟨rfl, by decide, by decide⟩ (fun w h Y => PySem.W.kIn_of Y) ?F ?S (fun _ _ _ _ z => z)
  case F =>
    intro w mg fa h Y KX G hmg
    refine' Wb.bnd (Wb.mk_Plate KX G ?Plate_aC ?Plate_pg ?Plate_hd ?Plate_po ?Plate_sa ?Plate_mk ?Plate_kc ?Plate_n_step ?Plate_n_capacity ?Plate_n_gain ?Plate_n_offset ?Plate_n_zero ?Plate_n_axles ?Plate_a0 ?Plate_i0 ?Plate_l0 ?Plate_c0 ?Plate_k0 ?Plate_a1 ?Plate_i1 ?Plate_l1 ?Plate_c1 ?Plate_k1 ?Plate_a2 ?Plate_i2 ?Plate_l2 ?Plate_c2 ?Plate_k2 ?Plate_a3 ?Plate_i3 ?Plate_l3 ?Plate_c3 ?Plate_k3 ?Plate_a4 ?Plate_i4 ?Plate_l4 ?Plate_c4 ?Plate_k4 ?Plate_a5 ?Plate_i5 ?Plate_l5 ?Plate_c5 ?Plate_k5 ?Plate_a6 ?Plate_i6 ?Plate_l6 ?Plate_c6 ?Plate_k6 ?Plate_a7 ?Plate_i7 ?Plate_l7 ?Plate_c7 ?Plate_k7 ?Plate_a8 ?Plate_i8 ?Plate_l8 ?Plate_c8 ?Plate_k8 ?Plate_a9 ?Plate_i9 ?Plate_l9 ?Plate_c9 ?Plate_k9 ?Plate_a10 ?Plate_i10 ?Plate_l10 ?Plate_c10 ?Plate_k10) ?_
    (case Plate_aC => k_is); (case Plate_pg => k_is); (case Plate_hd => k_is); (case Plate_po => k_is); (case Plate_sa => k_is); (case Plate_mk => k_is)
    (case Plate_kc => k_is); (case Plate_n_step => k_is); (case Plate_n_capacity => k_is); (case Plate_n_gain => k_is); (case Plate_n_offset => k_is); (case Plate_n_zero => k_is)
    (case Plate_n_axles => k_is); (case Plate_a0 => k_is); (case Plate_i0 => k_is); (case Plate_l0 => k_is); (case Plate_c0 => k_is); (case Plate_k0 => k_is)
    (case Plate_a1 => k_is); (case Plate_i1 => k_is); (case Plate_l1 => k_is); (case Plate_c1 => k_is); (case Plate_k1 => k_is); (case Plate_a2 => k_is)
    (case Plate_i2 => k_is); (case Plate_l2 => k_is); (case Plate_c2 => k_is); (case Plate_k2 => k_is); (case Plate_a3 => k_is); (case Plate_i3 => k_is)
    (case Plate_l3 => k_is); (case Plate_c3 => k_is); (case Plate_k3 => k_is); (case Plate_a4 => k_is); (case Plate_i4 => k_is); (case Plate_l4 => k_is)
    (case Plate_c4 => k_is); (case Plate_k4 => k_is); (case Plate_a5 => k_is); (case Plate_i5 => k_is); (case Plate_l5 => k_is); (case Plate_c5 => k_is)
    (case Plate_k5 => k_is); (case Plate_a6 => k_is); (case Plate_i6 => k_is); (case Plate_l6 => k_is); (case Plate_c6 => k_is); (case Plate_k6 => k_is)
    (case Plate_a7 => k_is); (case Plate_i7 => k_is); (case Plate_l7 => k_is); (case Plate_c7 => k_is); (case Plate_k7 => k_is); (case Plate_a8 => k_is)
    (case Plate_i8 => k_is); (case Plate_l8 => k_is); (case Plate_c8 => k_is); (case Plate_k8 => k_is); (case Plate_a9 => k_is); (case Plate_i9 => k_is)
    (case Plate_l9 => k_is); (case Plate_c9 => k_is); (case Plate_k9 => k_is); (case Plate_a10 => k_is); (case Plate_i10 => k_is); (case Plate_l10 => k_is)
    (case Plate_c10 => k_is); (case Plate_k10 => k_is)
    intro u_Plate
    refine' Wb.bnd (Wb.mk_Ticket KX G ?Ticket_aC ?Ticket_pg ?Ticket_hd ?Ticket_po ?Ticket_sa ?Ticket_mk ?Ticket_kc ?Ticket_n_lorry ?Ticket_n_kind ?Ticket_n_way ?Ticket_n_first ?Ticket_n_second ?Ticket_n_net ?Ticket_n_paid ?Ticket_n_amount ?Ticket_n_state ?Ticket_a0 ?Ticket_i0 ?Ticket_l0 ?Ticket_c0 ?Ticket_k0 ?Ticket_a1 ?Ticket_i1 ?Ticket_l1 ?Ticket_c1 ?Ticket_k1) ?_
    (case Ticket_aC => k_is); (case Ticket_pg => k_is); (case Ticket_hd => k_is); (case Ticket_po => k_is); (case Ticket_sa => k_is); (case Ticket_mk => k_is)
    (case Ticket_kc => k_is); (case Ticket_n_lorry => k_is); (case Ticket_n_kind => k_is); (case Ticket_n_way => k_is); (case Ticket_n_first => k_is); (case Ticket_n_second => k_is)
    (case Ticket_n_net => k_is); (case Ticket_n_paid => k_is); (case Ticket_n_amount => k_is); (case Ticket_n_state => k_is); (case Ticket_a0 => k_is); (case Ticket_i0 => k_is)
    (case Ticket_l0 => k_is); (case Ticket_c0 => k_is); (case Ticket_k0 => k_is); (case Ticket_a1 => k_is); (case Ticket_i1 => k_is); (case Ticket_l1 => k_is)
    (case Ticket_c1 => k_is); (case Ticket_k1 => k_is)
    intro u_Ticket
    refine' Wb.bnd (Wb.mk_Goods KX G ?Goods_aC ?Goods_pg ?Goods_hd ?Goods_po ?Goods_sa ?Goods_mk ?Goods_kc ?Goods_n_price ?Goods_n_wet ?Goods_n_most ?Goods_n_stock ?Goods_a0 ?Goods_i0 ?Goods_l0 ?Goods_c0 ?Goods_k0 ?Goods_a1 ?Goods_i1 ?Goods_l1 ?Goods_c1 ?Goods_k1 ?Goods_a2 ?Goods_i2 ?Goods_l2 ?Goods_c2 ?Goods_k2 ?Goods_a3 ?Goods_i3 ?Goods_l3 ?Goods_c3 ?Goods_k3 ?Goods_a4 ?Goods_i4 ?Goods_l4 ?Goods_c4 ?Goods_k4 ?Goods_a5 ?Goods_i5 ?Goods_l5 ?Goods_c5 ?Goods_k5) ?_
    (case Goods_aC => k_is); (case Goods_pg => k_is); (case Goods_hd => k_is); (case Goods_po => k_is); (case Goods_sa => k_is); (case Goods_mk => k_is)
    (case Goods_kc => k_is); (case Goods_n_price => k_is); (case Goods_n_wet => k_is); (case Goods_n_most => k_is); (case Goods_n_stock => k_is); (case Goods_a0 => k_is)
    (case Goods_i0 => k_is); (case Goods_l0 => k_is); (case Goods_c0 => k_is); (case Goods_k0 => k_is); (case Goods_a1 => k_is); (case Goods_i1 => k_is)
    (case Goods_l1 => k_is); (case Goods_c1 => k_is); (case Goods_k1 => k_is); (case Goods_a2 => k_is); (case Goods_i2 => k_is); (case Goods_l2 => k_is)
    (case Goods_c2 => k_is); (case Goods_k2 => k_is); (case Goods_a3 => k_is); (case Goods_i3 => k_is); (case Goods_l3 => k_is); (case Goods_c3 => k_is)
    (case Goods_k3 => k_is); (case Goods_a4 => k_is); (case Goods_i4 => k_is); (case Goods_l4 => k_is); (case Goods_c4 => k_is); (case Goods_k4 => k_is)
    (case Goods_a5 => k_is); (case Goods_i5 => k_is); (case Goods_l5 => k_is); (case Goods_c5 => k_is); (case Goods_k5 => k_is)
    intro u_Goods
    refine' Wb.bnd (Wb.mk_Lorry KX G ?Lorry_aC ?Lorry_pg ?Lorry_hd ?Lorry_po ?Lorry_sa ?Lorry_mk ?Lorry_kc ?Lorry_n_axle_most ?Lorry_n_gross_most ?Lorry_n_tares ?Lorry_n_tare_day ?Lorry_a0 ?Lorry_i0 ?Lorry_l0 ?Lorry_c0 ?Lorry_k0 ?Lorry_a1 ?Lorry_i1 ?Lorry_l1 ?Lorry_c1 ?Lorry_k1 ?Lorry_a2 ?Lorry_i2 ?Lorry_l2 ?Lorry_c2 ?Lorry_k2 ?Lorry_a3 ?Lorry_i3 ?Lorry_l3 ?Lorry_c3 ?Lorry_k3 ?Lorry_a4 ?Lorry_i4 ?Lorry_l4 ?Lorry_c4 ?Lorry_k4 ?Lorry_a5 ?Lorry_i5 ?Lorry_l5 ?Lorry_c5 ?Lorry_k5 ?Lorry_a6 ?Lorry_i6 ?Lorry_l6 ?Lorry_c6 ?Lorry_k6 ?Lorry_a7 ?Lorry_i7 ?Lorry_l7 ?Lorry_c7 ?Lorry_k7 ?Lorry_a8 ?Lorry_i8 ?Lorry_l8 ?Lorry_c8 ?Lorry_k8 ?Lorry_a9 ?Lorry_i9 ?Lorry_l9 ?Lorry_c9 ?Lorry_k9 ?Lorry_a10 ?Lorry_i10 ?Lorry_l10 ?Lorry_c10 ?Lorry_k10 ?Lorry_a11 ?Lorry_i11 ?Lorry_l11 ?Lorry_c11 ?Lorry_k11 ?Lorry_a12 ?Lorry_i12 ?Lorry_l12 ?Lorry_c12 ?Lorry_k12) ?_
    (case Lorry_aC => k_is); (case Lorry_pg => k_is); (case Lorry_hd => k_is); (case Lorry_po => k_is); (case Lorry_sa => k_is); (case Lorry_mk => k_is)
    (case Lorry_kc => k_is); (case Lorry_n_axle_most => k_is); (case Lorry_n_gross_most => k_is); (case Lorry_n_tares => k_is); (case Lorry_n_tare_day => k_is); (case Lorry_a0 => k_is)
    (case Lorry_i0 => k_is); (case Lorry_l0 => k_is); (case Lorry_c0 => k_is); (case Lorry_k0 => k_is); (case Lorry_a1 => k_is); (case Lorry_i1 => k_is)
    (case Lorry_l1 => k_is); (case Lorry_c1 => k_is); (case Lorry_k1 => k_is); (case Lorry_a2 => k_is); (case Lorry_i2 => k_is); (case Lorry_l2 => k_is)
    (case Lorry_c2 => k_is); (case Lorry_k2 => k_is); (case Lorry_a3 => k_is); (case Lorry_i3 => k_is); (case Lorry_l3 => k_is); (case Lorry_c3 => k_is)
    (case Lorry_k3 => k_is); (case Lorry_a4 => k_is); (case Lorry_i4 => k_is); (case Lorry_l4 => k_is); (case Lorry_c4 => k_is); (case Lorry_k4 => k_is)
    (case Lorry_a5 => k_is); (case Lorry_i5 => k_is); (case Lorry_l5 => k_is); (case Lorry_c5 => k_is); (case Lorry_k5 => k_is); (case Lorry_a6 => k_is)
    (case Lorry_i6 => k_is); (case Lorry_l6 => k_is); (case Lorry_c6 => k_is); (case Lorry_k6 => k_is); (case Lorry_a7 => k_is); (case Lorry_i7 => k_is)
    (case Lorry_l7 => k_is); (case Lorry_c7 => k_is); (case Lorry_k7 => k_is); (case Lorry_a8 => k_is); (case Lorry_i8 => k_is); (case Lorry_l8 => k_is)
    (case Lorry_c8 => k_is); (case Lorry_k8 => k_is); (case Lorry_a9 => k_is); (case Lorry_i9 => k_is); (case Lorry_l9 => k_is); (case Lorry_c9 => k_is)
    (case Lorry_k9 => k_is); (case Lorry_a10 => k_is); (case Lorry_i10 => k_is); (case Lorry_l10 => k_is); (case Lorry_c10 => k_is); (case Lorry_k10 => k_is)
    (case Lorry_a11 => k_is); (case Lorry_i11 => k_is); (case Lorry_l11 => k_is); (case Lorry_c11 => k_is); (case Lorry_k11 => k_is); (case Lorry_a12 => k_is)
    (case Lorry_i12 => k_is); (case Lorry_l12 => k_is); (case Lorry_c12 => k_is); (case Lorry_k12 => k_is)
    intro u_Lorry
    refine' Wb.bnd (Wb.mk_Yard KX G ?Yard_aC ?Yard_pg ?Yard_hd ?Yard_po ?Yard_sa ?Yard_mk ?Yard_kc ?Yard_n_plate ?Yard_n_room ?Yard_n_good ?Yard_n_day ?Yard_n_kinds ?Yard_n_lorries ?Yard_n_tickets ?Yard_a0 ?Yard_i0 ?Yard_l0 ?Yard_c0 ?Yard_k0 ?Yard_a1 ?Yard_i1 ?Yard_l1 ?Yard_c1 ?Yard_k1 ?Yard_a2 ?Yard_i2 ?Yard_l2 ?Yard_c2 ?Yard_k2 ?Yard_a3 ?Yard_i3 ?Yard_l3 ?Yard_c3 ?Yard_k3 ?Yard_a4 ?Yard_i4 ?Yard_l4 ?Yard_c4 ?Yard_k4 ?Yard_a5 ?Yard_i5 ?Yard_l5 ?Yard_c5 ?Yard_k5 ?Yard_a6 ?Yard_i6 ?Yard_l6 ?Yard_c6 ?Yard_k6 ?Yard_a7 ?Yard_i7 ?Yard_l7 ?Yard_c7 ?Yard_k7) ?_
    (case Yard_aC => k_is); (case Yard_pg => k_is); (case Yard_hd => k_is); (case Yard_po => k_is); (case Yard_sa => k_is); (case Yard_mk => k_is)
    (case Yard_kc => k_is); (case Yard_n_plate => k_is); (case Yard_n_room => k_is); (case Yard_n_good => k_is); (case Yard_n_day => k_is); (case Yard_n_kinds => k_is)
    (case Yard_n_lorries => k_is); (case Yard_n_tickets => k_is); (case Yard_a0 => k_is); (case Yard_i0 => k_is); (case Yard_l0 => k_is); (case Yard_c0 => k_is)
    (case Yard_k0 => k_is); (case Yard_a1 => k_is); (case Yard_i1 => k_is); (case Yard_l1 => k_is); (case Yard_c1 => k_is); (case Yard_k1 => k_is)
    (case Yard_a2 => k_is); (case Yard_i2 => k_is); (case Yard_l2 => k_is); (case Yard_c2 => k_is); (case Yard_k2 => k_is); (case Yard_a3 => k_is)
    (case Yard_i3 => k_is); (case Yard_l3 => k_is); (case Yard_c3 => k_is); (case Yard_k3 => k_is); (case Yard_a4 => k_is); (case Yard_i4 => k_is)
    (case Yard_l4 => k_is); (case Yard_c4 => k_is); (case Yard_k4 => k_is); (case Yard_a5 => k_is); (case Yard_i5 => k_is); (case Yard_l5 => k_is)
    (case Yard_c5 => k_is); (case Yard_k5 => k_is); (case Yard_a6 => k_is); (case Yard_i6 => k_is); (case Yard_l6 => k_is); (case Yard_c6 => k_is)
    (case Yard_k6 => k_is); (case Yard_a7 => k_is); (case Yard_i7 => k_is); (case Yard_l7 => k_is); (case Yard_c7 => k_is); (case Yard_k7 => k_is)
    intro u_Yard
    refine' Wb.bnd (Wb.mk_Line KX G ?Line_aC ?Line_pg ?Line_hd ?Line_po ?Line_sa ?Line_mk ?Line_kc ?Line_n_yard ?Line_a0 ?Line_i0 ?Line_l0 ?Line_c0 ?Line_k0 ?Line_a1 ?Line_i1 ?Line_l1 ?Line_c1 ?Line_k1) ?_
    (case Line_aC => k_is); (case Line_pg => k_is); (case Line_hd => k_is); (case Line_po => k_is); (case Line_sa => k_is); (case Line_mk => k_is)
    (case Line_kc => k_is); (case Line_n_yard => k_is); (case Line_a0 => k_is); (case Line_i0 => k_is); (case Line_l0 => k_is); (case Line_c0 => k_is)
    (case Line_k0 => k_is); (case Line_a1 => k_is); (case Line_i1 => k_is); (case Line_l1 => k_is); (case Line_c1 => k_is); (case Line_k1 => k_is)
    intro u_Line
    refine' Wb.bnd (Wb.mk_fun (x := "tell_tare") (st := Wb.s_tell_tare) KX G ?a_tell_tare ?l_tell_tare ?c_tell_tare ?k_tell_tare) ?_; (case a_tell_tare => k_is); (case l_tell_tare => k_is); (case c_tell_tare => k_is); (case k_tell_tare => k_is)
    intro f_tell_tare
    refine' Wb.bnd (Wb.mk_fun (x := "tell_odd") (st := Wb.s_tell_odd) KX G ?a_tell_odd ?l_tell_odd ?c_tell_odd ?k_tell_odd) ?_; (case a_tell_odd => k_is); (case l_tell_odd => k_is); (case c_tell_odd => k_is); (case k_tell_odd => k_is)
    intro f_tell_odd
    refine' Wb.bnd (Wb.mk_fun (x := "weighed_refusal") (st := Wb.s_weighed_refusal) KX G ?a_weighed_refusal ?l_weighed_refusal ?c_weighed_refusal ?k_weighed_refusal) ?_; (case a_weighed_refusal => k_is); (case l_weighed_refusal => k_is); (case c_weighed_refusal => k_is); (case k_weighed_refusal => k_is)
    intro f_weighed_refusal
    refine' Wb.bnd (Wb.mk_fun (x := "tell_excess") (st := Wb.s_tell_excess) KX G ?a_tell_excess ?l_tell_excess ?c_tell_excess ?k_tell_excess) ?_; (case a_tell_excess => k_is); (case l_tell_excess => k_is); (case c_tell_excess => k_is); (case k_tell_excess => k_is)
    intro f_tell_excess
    refine' Wb.bnd (Wb.mk_fun (x := "tell_fits") (st := Wb.s_tell_fits) KX G ?a_tell_fits ?l_tell_fits ?c_tell_fits ?k_tell_fits) ?_; (case a_tell_fits => k_is); (case l_tell_fits => k_is); (case c_tell_fits => k_is); (case k_tell_fits => k_is)
    intro f_tell_fits
    refine' Wb.bnd (Wb.mk_fun (x := "begin_in_range") (st := Wb.s_begin_in_range) KX G ?a_begin_in_range ?l_begin_in_range ?c_begin_in_range ?k_begin_in_range) ?_; (case a_begin_in_range => k_is); (case l_begin_in_range => k_is); (case c_begin_in_range => k_is); (case k_begin_in_range => k_is)
    intro f_begin_in_range
    refine' Wb.bnd (Wb.mk_fun (x := "add_kind") (st := Wb.s_add_kind) KX G ?a_add_kind ?l_add_kind ?c_add_kind ?k_add_kind) ?_; (case a_add_kind => k_is); (case l_add_kind => k_is); (case c_add_kind => k_is); (case k_add_kind => k_is)
    intro f_add_kind
    refine' Wb.bnd (Wb.mk_fun (x := "add_lorry") (st := Wb.s_add_lorry) KX G ?a_add_lorry ?l_add_lorry ?c_add_lorry ?k_add_lorry) ?_; (case a_add_lorry => k_is); (case l_add_lorry => k_is); (case c_add_lorry => k_is); (case k_add_lorry => k_is)
    intro f_add_lorry
    refine' Wb.bnd (Wb.mk_fun (x := "pass_days") (st := Wb.s_pass_days) KX G ?a_pass_days ?l_pass_days ?c_pass_days ?k_pass_days) ?_; (case a_pass_days => k_is); (case l_pass_days => k_is); (case c_pass_days => k_is); (case k_pass_days => k_is)
    intro f_pass_days
    refine' Wb.bnd (Wb.mk_fun (x := "tell_dry") (st := Wb.s_tell_dry) KX G ?a_tell_dry ?l_tell_dry ?c_tell_dry ?k_tell_dry) ?_; (case a_tell_dry => k_is); (case l_tell_dry => k_is); (case c_tell_dry => k_is); (case k_tell_dry => k_is)
    intro f_tell_dry
    refine' Wb.bnd (Wb.mk_fun (x := "tell_yard") (st := Wb.s_tell_yard) KX G ?a_tell_yard ?l_tell_yard ?c_tell_yard ?k_tell_yard) ?_; (case a_tell_yard => k_is); (case l_tell_yard => k_is); (case c_tell_yard => k_is); (case k_tell_yard => k_is)
    intro f_tell_yard
    refine' Wb.bnd (Wb.mk_fun (x := "tell_ticket") (st := Wb.s_tell_ticket) KX G ?a_tell_ticket ?l_tell_ticket ?c_tell_ticket ?k_tell_ticket) ?_; (case a_tell_ticket => k_is); (case l_tell_ticket => k_is); (case c_tell_ticket => k_is); (case k_tell_ticket => k_is)
    intro f_tell_ticket
    refine' Wb.bnd (Wb.mk_fun (x := "tell_stock") (st := Wb.s_tell_stock) KX G ?a_tell_stock ?l_tell_stock ?c_tell_stock ?k_tell_stock) ?_; (case a_tell_stock => k_is); (case l_tell_stock => k_is); (case c_tell_stock => k_is); (case k_tell_stock => k_is)
    intro f_tell_stock
    refine' Wb.bnd (Wb.mk_fun (x := "tell_enough") (st := Wb.s_tell_enough) KX G ?a_tell_enough ?l_tell_enough ?c_tell_enough ?k_tell_enough) ?_; (case a_tell_enough => k_is); (case l_tell_enough => k_is); (case c_tell_enough => k_is); (case k_tell_enough => k_is)
    intro f_tell_enough
    refine' Wb.bnd (Wb.mk_fun (x := "done_tickets") (st := Wb.s_done_tickets) KX G ?a_done_tickets ?l_done_tickets ?c_done_tickets ?k_done_tickets) ?_; (case a_done_tickets => k_is); (case l_done_tickets => k_is); (case c_done_tickets => k_is); (case k_done_tickets => k_is)
    intro f_done_tickets
    refine' Wb.bnd (Wb.mk_fun (x := "tell_totals") (st := Wb.s_tell_totals) KX G ?a_tell_totals ?l_tell_totals ?c_tell_totals ?k_tell_totals) ?_; (case a_tell_totals => k_is); (case l_tell_totals => k_is); (case c_tell_totals => k_is); (case k_tell_totals => k_is)
    intro f_tell_totals
    refine' Wb.bnd (Wb.mk_fun (x := "tell_trips") (st := Wb.s_tell_trips) KX G ?a_tell_trips ?l_tell_trips ?c_tell_trips ?k_tell_trips) ?_; (case a_tell_trips => k_is); (case l_tell_trips => k_is); (case c_tell_trips => k_is); (case k_tell_trips => k_is)
    intro f_tell_trips
    refine' Wb.bnd (Wb.mk_fun (x := "all_amounts") (st := Wb.s_all_amounts) KX G ?a_all_amounts ?l_all_amounts ?c_all_amounts ?k_all_amounts) ?_; (case a_all_amounts => k_is); (case l_all_amounts => k_is); (case c_all_amounts => k_is); (case k_all_amounts => k_is)
    intro f_all_amounts
    refine' Wb.bnd (Wb.mk_fun (x := "tell_money") (st := Wb.s_tell_money) KX G ?a_tell_money ?l_tell_money ?c_tell_money ?k_tell_money) ?_; (case a_tell_money => k_is); (case l_tell_money => k_is); (case c_tell_money => k_is); (case k_tell_money => k_is)
    intro f_tell_money
    refine' Wb.bnd (Wb.mk_fun (x := "tell_heaviest") (st := Wb.s_tell_heaviest) KX G ?a_tell_heaviest ?l_tell_heaviest ?c_tell_heaviest ?k_tell_heaviest) ?_; (case a_tell_heaviest => k_is); (case l_tell_heaviest => k_is); (case c_tell_heaviest => k_is); (case k_tell_heaviest => k_is)
    intro f_tell_heaviest
    refine' Wb.bnd (Wb.mk_fun (x := "tell_sums") (st := Wb.s_tell_sums) KX G ?a_tell_sums ?l_tell_sums ?c_tell_sums ?k_tell_sums) ?_; (case a_tell_sums => k_is); (case l_tell_sums => k_is); (case c_tell_sums => k_is); (case k_tell_sums => k_is)
    intro f_tell_sums
    refine' Wb.bnd (Wb.mk_fun (x := "tell_state") (st := Wb.s_tell_state) KX G ?a_tell_state ?l_tell_state ?c_tell_state ?k_tell_state) ?_; (case a_tell_state => k_is); (case l_tell_state => k_is); (case c_tell_state => k_is); (case k_tell_state => k_is)
    intro f_tell_state
    refine' Wb.bnd (Wb.mk_fun (x := "coming_refusal") (st := Wb.s_coming_refusal) KX G ?a_coming_refusal ?l_coming_refusal ?c_coming_refusal ?k_coming_refusal) ?_; (case a_coming_refusal => k_is); (case l_coming_refusal => k_is); (case c_coming_refusal => k_is); (case k_coming_refusal => k_is)
    intro f_coming_refusal
    refine' Wb.bnd (Wb.mk_fun (x := "arrive_refusal") (st := Wb.s_arrive_refusal) KX G ?a_arrive_refusal ?l_arrive_refusal ?c_arrive_refusal ?k_arrive_refusal) ?_; (case a_arrive_refusal => k_is); (case l_arrive_refusal => k_is); (case c_arrive_refusal => k_is); (case k_arrive_refusal => k_is)
    intro f_arrive_refusal
    refine' Wb.bnd (Wb.mk_fun (x := "arrive") (st := Wb.s_arrive) KX G ?a_arrive ?l_arrive ?c_arrive ?k_arrive) ?_; (case a_arrive => k_is); (case l_arrive => k_is); (case c_arrive => k_is); (case k_arrive => k_is)
    intro f_arrive
    refine' Wb.bnd (Wb.mk_fun (x := "is_too_heavy_now") (st := Wb.s_is_too_heavy_now) KX G ?a_is_too_heavy_now ?l_is_too_heavy_now ?c_is_too_heavy_now ?k_is_too_heavy_now) ?_; (case a_is_too_heavy_now => k_is); (case l_is_too_heavy_now => k_is); (case c_is_too_heavy_now => k_is); (case k_is_too_heavy_now => k_is)
    intro f_is_too_heavy_now
    refine' Wb.bnd (Wb.mk_fun (x := "settling_refusal") (st := Wb.s_settling_refusal) KX G ?a_settling_refusal ?l_settling_refusal ?c_settling_refusal ?k_settling_refusal) ?_; (case a_settling_refusal => k_is); (case l_settling_refusal => k_is); (case c_settling_refusal => k_is); (case k_settling_refusal => k_is)
    intro f_settling_refusal
    refine' Wb.bnd (Wb.mk_fun (x := "settle") (st := Wb.s_settle) KX G ?a_settle ?l_settle ?c_settle ?k_settle) ?_; (case a_settle => k_is); (case l_settle => k_is); (case c_settle => k_is); (case k_settle => k_is)
    intro f_settle
    refine' Wb.bnd (Wb.mk_fun (x := "standing_refusal") (st := Wb.s_standing_refusal) KX G ?a_standing_refusal ?l_standing_refusal ?c_standing_refusal ?k_standing_refusal) ?_; (case a_standing_refusal => k_is); (case l_standing_refusal => k_is); (case c_standing_refusal => k_is); (case k_standing_refusal => k_is)
    intro f_standing_refusal
    refine' Wb.bnd (Wb.mk_fun (x := "leave_refusal") (st := Wb.s_leave_refusal) KX G ?a_leave_refusal ?l_leave_refusal ?c_leave_refusal ?k_leave_refusal) ?_; (case a_leave_refusal => k_is); (case l_leave_refusal => k_is); (case c_leave_refusal => k_is); (case k_leave_refusal => k_is)
    intro f_leave_refusal
    refine' Wb.bnd (Wb.mk_fun (x := "leave") (st := Wb.s_leave) KX G ?a_leave ?l_leave ?c_leave ?k_leave) ?_; (case a_leave => k_is); (case l_leave => k_is); (case c_leave => k_is); (case k_leave => k_is)
    intro f_leave
    refine' Wb.bnd (Wb.mk_fun (x := "net_above_tare") (st := Wb.s_net_above_tare) KX G ?a_net_above_tare ?l_net_above_tare ?c_net_above_tare ?k_net_above_tare) ?_; (case a_net_above_tare => k_is); (case l_net_above_tare => k_is); (case c_net_above_tare => k_is); (case k_net_above_tare => k_is)
    intro f_net_above_tare
    refine' Wb.bnd (Wb.mk_fun (x := "quick_refusal") (st := Wb.s_quick_refusal) KX G ?a_quick_refusal ?l_quick_refusal ?c_quick_refusal ?k_quick_refusal) ?_; (case a_quick_refusal => k_is); (case l_quick_refusal => k_is); (case c_quick_refusal => k_is); (case k_quick_refusal => k_is)
    intro f_quick_refusal
    refine' Wb.bnd (Wb.mk_fun (x := "quick") (st := Wb.s_quick) KX G ?a_quick ?l_quick ?c_quick ?k_quick) ?_; (case a_quick => k_is); (case l_quick => k_is); (case c_quick => k_is); (case k_quick => k_is)
    intro f_quick
    refine' Wb.bnd (Wb.mk_fun (x := "cancel") (st := Wb.s_cancel) KX G ?a_cancel ?l_cancel ?c_cancel ?k_cancel) ?_; (case a_cancel => k_is); (case l_cancel => k_is); (case c_cancel => k_is); (case k_cancel => k_is)
    intro f_cancel
    refine' Wb.bnd (Wb.mk_fun (x := "set_errors") (st := Wb.s_set_errors) KX G ?a_set_errors ?l_set_errors ?c_set_errors ?k_set_errors) ?_; (case a_set_errors => k_is); (case l_set_errors => k_is); (case c_set_errors => k_is); (case k_set_errors => k_is)
    intro f_set_errors
    refine' Wb.bnd (Wb.mk_fun (x := "put_on") (st := Wb.s_put_on) KX G ?a_put_on ?l_put_on ?c_put_on ?k_put_on) ?_; (case a_put_on => k_is); (case l_put_on => k_is); (case c_put_on => k_is); (case k_put_on => k_is)
    intro f_put_on
    refine' Wb.bnd (Wb.mk_fun (x := "take_off") (st := Wb.s_take_off) KX G ?a_take_off ?l_take_off ?c_take_off ?k_take_off) ?_; (case a_take_off => k_is); (case l_take_off => k_is); (case c_take_off => k_is); (case k_take_off => k_is)
    intro f_take_off
    refine' Wb.bnd (Wb.mk_fun (x := "show_reading") (st := Wb.s_show_reading) KX G ?a_show_reading ?l_show_reading ?c_show_reading ?k_show_reading) ?_; (case a_show_reading => k_is); (case l_show_reading => k_is); (case c_show_reading => k_is); (case k_show_reading => k_is)
    intro f_show_reading
    refine' Wb.bnd (Wb.mk_fun (x := "set_zero") (st := Wb.s_set_zero) KX G ?a_set_zero ?l_set_zero ?c_set_zero ?k_set_zero) ?_; (case a_set_zero => k_is); (case l_set_zero => k_is); (case c_set_zero => k_is); (case k_set_zero => k_is)
    intro f_set_zero
    refine' Wb.bnd (Wb.mk_fun (x := "try_weight") (st := Wb.s_try_weight) KX G ?a_try_weight ?l_try_weight ?c_try_weight ?k_try_weight) ?_; (case a_try_weight => k_is); (case l_try_weight => k_is); (case c_try_weight => k_is); (case k_try_weight => k_is)
    intro f_try_weight
    refine' Wb.bnd (Wb.mk_fun (x := "ask_plate") (st := Wb.s_ask_plate) KX G ?a_ask_plate ?l_ask_plate ?c_ask_plate ?k_ask_plate) ?_; (case a_ask_plate => k_is); (case l_ask_plate => k_is); (case c_ask_plate => k_is); (case k_ask_plate => k_is)
    intro f_ask_plate
    refine' Wb.bnd (Wb.mk_fun (x := "ask_yard") (st := Wb.s_ask_yard) KX G ?a_ask_yard ?l_ask_yard ?c_ask_yard ?k_ask_yard) ?_; (case a_ask_yard => k_is); (case l_ask_yard => k_is); (case c_ask_yard => k_is); (case k_ask_yard => k_is)
    intro f_ask_yard
    refine' Wb.bnd (Wb.mk_fun (x := "look_up") (st := Wb.s_look_up) KX G ?a_look_up ?l_look_up ?c_look_up ?k_look_up) ?_; (case a_look_up => k_is); (case l_look_up => k_is); (case c_look_up => k_is); (case k_look_up => k_is)
    intro f_look_up
    refine' Wb.bnd (Wb.mk_fun (x := "ask") (st := Wb.s_ask) KX G ?a_ask ?l_ask ?c_ask ?k_ask) ?_; (case a_ask => k_is); (case l_ask => k_is); (case c_ask => k_is); (case k_ask => k_is)
    intro f_ask
    refine' Wb.bnd (Wb.mk_fun (x := "end_of_call") (st := Wb.s_end_of_call) KX G ?a_end_of_call ?l_end_of_call ?c_end_of_call ?k_end_of_call) ?_; (case a_end_of_call => k_is); (case l_end_of_call => k_is); (case c_end_of_call => k_is); (case k_end_of_call => k_is)
    intro f_end_of_call
    refine' Wb.bnd (Wb.mk_fun (x := "answers") (st := Wb.s_answers) KX G ?a_answers ?l_answers ?c_answers ?k_answers) ?_; (case a_answers => k_is); (case l_answers => k_is); (case c_answers => k_is); (case k_answers => k_is)
    intro f_answers
    refine' Wb.bnd (Wb.mk_int (x := "NONE_SUCH") (v := (-2)) KX G ?a_NONE_SUCH) ?_; (case a_NONE_SUCH => k_is)
    intro g_NONE_SUCH
    refine' Wb.bnd (Wb.mk_int (x := "NOTHING_THERE") (v := (-6)) KX G ?a_NOTHING_THERE) ?_; (case a_NOTHING_THERE => k_is)
    intro g_NOTHING_THERE
    refine' Wb.bnd (Wb.mk_int (x := "NOT_BEGUN") (v := (-11)) KX G ?a_NOT_BEGUN) ?_; (case a_NOT_BEGUN => k_is)
    intro g_NOT_BEGUN
    refine' Wb.bnd (Wb.mk_int (x := "SHOWS_NOTHING") (v := (-12)) KX G ?a_SHOWS_NOTHING) ?_; (case a_SHOWS_NOTHING => k_is)
    intro g_SHOWS_NOTHING
    refine' Wb.bnd (Wb.mk_int (x := "FULL") (v := (-13)) KX G ?a_FULL) ?_; (case a_FULL => k_is)
    intro g_FULL
    refine' Wb.bnd (Wb.mk_int (x := "NOT_NOW") (v := (-16)) KX G ?a_NOT_NOW) ?_; (case a_NOT_NOW => k_is)
    intro g_NOT_NOW
    refine' Wb.bnd (Wb.mk_int (x := "ALREADY") (v := (-17)) KX G ?a_ALREADY) ?_; (case a_ALREADY => k_is)
    intro g_ALREADY
    refine' Wb.bnd (Wb.mk_int (x := "OUT_OF_RANGE") (v := (-22)) KX G ?a_OUT_OF_RANGE) ?_; (case a_OUT_OF_RANGE => k_is)
    intro g_OUT_OF_RANGE
    refine' Wb.bnd (Wb.mk_int (x := "TOO_MUCH") (v := (-28)) KX G ?a_TOO_MUCH) ?_; (case a_TOO_MUCH => k_is)
    intro g_TOO_MUCH
    refine' Wb.bnd (Wb.mk_int (x := "NOT_SO_MUCH") (v := (-33)) KX G ?a_NOT_SO_MUCH) ?_; (case a_NOT_SO_MUCH => k_is)
    intro g_NOT_SO_MUCH
    refine' Wb.bnd (Wb.mk_int (x := "TOO_HEAVY") (v := (-40)) KX G ?a_TOO_HEAVY) ?_; (case a_TOO_HEAVY => k_is)
    intro g_TOO_HEAVY
    refine' Wb.bnd (Wb.mk_int (x := "NOTHING_NET") (v := (-44)) KX G ?a_NOTHING_NET) ?_; (case a_NOTHING_NET => k_is)
    intro g_NOTHING_NET
    refine' Wb.bnd (Wb.mk_int (x := "NO_GOOD_TARE") (v := (-61)) KX G ?a_NO_GOOD_TARE) ?_; (case a_NO_GOOD_TARE => k_is)
    intro g_NO_GOOD_TARE
    refine' Wb.bnd (Wb.mk_int (x := "NO_ROOM") (v := (-75)) KX G ?a_NO_ROOM) ?_; (case a_NO_ROOM => k_is)
    intro g_NO_ROOM
    refine' Wb.bnd (Wb.mk_int (x := "FINE") (v := (0)) KX G ?a_FINE) ?_; (case a_FINE => k_is)
    intro g_FINE
    refine' Wb.bnd (Wb.mk_int (x := "STEPS_ABOVE") (v := (9)) KX G ?a_STEPS_ABOVE) ?_; (case a_STEPS_ABOVE => k_is)
    intro g_STEPS_ABOVE
    refine' Wb.bnd (Wb.mk_int (x := "FINE_STEPS") (v := (500)) KX G ?a_FINE_STEPS) ?_; (case a_FINE_STEPS => k_is)
    intro g_FINE_STEPS
    refine' Wb.bnd (Wb.mk_int (x := "MIDDLE_STEPS") (v := (2000)) KX G ?a_MIDDLE_STEPS) ?_; (case a_MIDDLE_STEPS => k_is)
    intro g_MIDDLE_STEPS
    refine' Wb.bnd (Wb.mk_int (x := "BRINGS") (v := (0)) KX G ?a_BRINGS) ?_; (case a_BRINGS => k_is)
    intro g_BRINGS
    refine' Wb.bnd (Wb.mk_int (x := "FETCHES") (v := (1)) KX G ?a_FETCHES) ?_; (case a_FETCHES => k_is)
    intro g_FETCHES
    refine' Wb.bnd (Wb.mk_int (x := "ON_YARD") (v := (0)) KX G ?a_ON_YARD) ?_; (case a_ON_YARD => k_is)
    intro g_ON_YARD
    refine' Wb.bnd (Wb.mk_int (x := "DONE") (v := (1)) KX G ?a_DONE) ?_; (case a_DONE => k_is)
    intro g_DONE
    refine' Wb.bnd (Wb.mk_int (x := "CALLED_OFF") (v := (2)) KX G ?a_CALLED_OFF) ?_; (case a_CALLED_OFF => k_is)
    intro g_CALLED_OFF
    refine' Wb.bnd (Wb.mk_int (x := "MOST_TICKETS") (v := (60)) KX G ?a_MOST_TICKETS) ?_; (case a_MOST_TICKETS => k_is)
    intro g_MOST_TICKETS
    refine' Wb.bnd (Wb.mk_int (x := "MOST_KINDS") (v := (6)) KX G ?a_MOST_KINDS) ?_; (case a_MOST_KINDS => k_is)
    intro g_MOST_KINDS
    refine' Wb.bnd (Wb.mk_int (x := "MOST_MOIST") (v := (100)) KX G ?a_MOST_MOIST) ?_; (case a_MOST_MOIST => k_is)
    intro g_MOST_MOIST
    refine' Wb.bnd (Wb.mk_int (x := "MOST_LORRIES") (v := (12)) KX G ?a_MOST_LORRIES) ?_; (case a_MOST_LORRIES => k_is)
    intro g_MOST_LORRIES
    refine' Wb.bnd (Wb.mk_int (x := "TARES_KEPT") (v := (2)) KX G ?a_TARES_KEPT) ?_; (case a_TARES_KEPT => k_is)
    intro g_TARES_KEPT
    refine' Wb.bnd (Wb.mk_int (x := "ALIKE_HUNDREDTHS") (v := (2)) KX G ?a_ALIKE_HUNDREDTHS) ?_; (case a_ALIKE_HUNDREDTHS => k_is)
    intro g_ALIKE_HUNDREDTHS
    refine' Wb.bnd (Wb.mk_int (x := "MOST_NET") (v := (1000000)) KX G ?a_MOST_NET) ?_; (case a_MOST_NET => k_is)
    intro g_MOST_NET
    refine' Wb.bnd (Wb.mk_int (x := "MOST_AXLES") (v := (6)) KX G ?a_MOST_AXLES) ?_; (case a_MOST_AXLES => k_is)
    intro g_MOST_AXLES
    refine' Wb.bnd (Wb.mk_int (x := "MOST_ON_AXLE") (v := (50000)) KX G ?a_MOST_ON_AXLE) ?_; (case a_MOST_ON_AXLE => k_is)
    intro g_MOST_ON_AXLE
    refine' Wb.bnd (Wb.mk_int (x := "ZERO_PART") (v := (50)) KX G ?a_ZERO_PART) ?_; (case a_ZERO_PART => k_is)
    intro g_ZERO_PART
    refine' Wb.bnd (Wb.mk_int (x := "BEGIN") (v := (0)) KX G ?a_BEGIN) ?_; (case a_BEGIN => k_is)
    intro g_BEGIN
    refine' Wb.bnd (Wb.mk_int (x := "KIND") (v := (1)) KX G ?a_KIND) ?_; (case a_KIND => k_is)
    intro g_KIND
    refine' Wb.bnd (Wb.mk_int (x := "LORRY") (v := (2)) KX G ?a_LORRY) ?_; (case a_LORRY => k_is)
    intro g_LORRY
    refine' Wb.bnd (Wb.mk_int (x := "DRIFT") (v := (3)) KX G ?a_DRIFT) ?_; (case a_DRIFT => k_is)
    intro g_DRIFT
    refine' Wb.bnd (Wb.mk_int (x := "ON") (v := (4)) KX G ?a_ON) ?_; (case a_ON => k_is)
    intro g_ON
    refine' Wb.bnd (Wb.mk_int (x := "OFF") (v := (5)) KX G ?a_OFF) ?_; (case a_OFF => k_is)
    intro g_OFF
    refine' Wb.bnd (Wb.mk_int (x := "SHOW") (v := (6)) KX G ?a_SHOW) ?_; (case a_SHOW => k_is)
    intro g_SHOW
    refine' Wb.bnd (Wb.mk_int (x := "ZERO") (v := (7)) KX G ?a_ZERO) ?_; (case a_ZERO => k_is)
    intro g_ZERO
    refine' Wb.bnd (Wb.mk_int (x := "TEST") (v := (8)) KX G ?a_TEST) ?_; (case a_TEST => k_is)
    intro g_TEST
    refine' Wb.bnd (Wb.mk_int (x := "ARRIVE") (v := (10)) KX G ?a_ARRIVE) ?_; (case a_ARRIVE => k_is)
    intro g_ARRIVE
    refine' Wb.bnd (Wb.mk_int (x := "LEAVE") (v := (11)) KX G ?a_LEAVE) ?_; (case a_LEAVE => k_is)
    intro g_LEAVE
    refine' Wb.bnd (Wb.mk_int (x := "QUICK") (v := (12)) KX G ?a_QUICK) ?_; (case a_QUICK => k_is)
    intro g_QUICK
    refine' Wb.bnd (Wb.mk_int (x := "CANCEL") (v := (13)) KX G ?a_CANCEL) ?_; (case a_CANCEL => k_is)
    intro g_CANCEL
    refine' Wb.bnd (Wb.mk_int (x := "DAYS") (v := (14)) KX G ?a_DAYS) ?_; (case a_DAYS => k_is)
    intro g_DAYS
    refine' Wb.bnd (Wb.mk_int (x := "TARE") (v := (15)) KX G ?a_TARE) ?_; (case a_TARE => k_is)
    intro g_TARE
    refine' Wb.bnd (Wb.mk_int (x := "ODD") (v := (16)) KX G ?a_ODD) ?_; (case a_ODD => k_is)
    intro g_ODD
    refine' Wb.bnd (Wb.mk_int (x := "EXCESS") (v := (17)) KX G ?a_EXCESS) ?_; (case a_EXCESS => k_is)
    intro g_EXCESS
    refine' Wb.bnd (Wb.mk_int (x := "FITS") (v := (18)) KX G ?a_FITS) ?_; (case a_FITS => k_is)
    intro g_FITS
    refine' Wb.bnd (Wb.mk_int (x := "DRY") (v := (19)) KX G ?a_DRY) ?_; (case a_DRY => k_is)
    intro g_DRY
    refine' Wb.bnd (Wb.mk_int (x := "YARD") (v := (20)) KX G ?a_YARD) ?_; (case a_YARD => k_is)
    intro g_YARD
    refine' Wb.bnd (Wb.mk_int (x := "LOOK") (v := (21)) KX G ?a_LOOK) ?_; (case a_LOOK => k_is)
    intro g_LOOK
    refine' Wb.bnd (Wb.mk_int (x := "STOCK") (v := (22)) KX G ?a_STOCK) ?_; (case a_STOCK => k_is)
    intro g_STOCK
    refine' Wb.bnd (Wb.mk_int (x := "ENOUGH") (v := (23)) KX G ?a_ENOUGH) ?_; (case a_ENOUGH => k_is)
    intro g_ENOUGH
    refine' Wb.bnd (Wb.mk_int (x := "TOTALS") (v := (24)) KX G ?a_TOTALS) ?_; (case a_TOTALS => k_is)
    intro g_TOTALS
    refine' Wb.bnd (Wb.mk_int (x := "TRIPS") (v := (25)) KX G ?a_TRIPS) ?_; (case a_TRIPS => k_is)
    intro g_TRIPS
    refine' Wb.bnd (Wb.mk_int (x := "MONEY") (v := (26)) KX G ?a_MONEY) ?_; (case a_MONEY => k_is)
    intro g_MONEY
    refine' Wb.bnd (Wb.mk_int (x := "HEAVIEST") (v := (27)) KX G ?a_HEAVIEST) ?_; (case a_HEAVIEST => k_is)
    intro g_HEAVIEST
    refine' Wb.bnd (Wb.mk_int (x := "SUMS") (v := (28)) KX G ?a_SUMS) ?_; (case a_SUMS => k_is)
    intro g_SUMS
    refine' Wb.bnd (Wb.mk_tup2 (x := "WIDTHS") (vs := [4, 3, 2, 2, 1, 0, 0, 0, 1, 1, 3, 2, 4, 1, 1, 1, 1, 1, 1, 3, 0, 1, 1, 2, 1, 1, 0, 0, 0, 0]) KX G ?ta ?tl ?tc ?td ?tz ?tr) ?_; (case ta => k_is); (case tl => k_is); (case tc => rfl); (case td => rfl); (case tz => show 30 ≤ PySem.sizeLine; decide); (case tr => exact .cons ⟨_, rfl⟩ (.cons ⟨_, rfl⟩ (.cons ⟨_, rfl⟩ (.cons ⟨_, rfl⟩ (.cons ⟨_, rfl⟩ (.cons ⟨_, rfl⟩ (.cons ⟨_, rfl⟩ (.cons ⟨_, rfl⟩ (.cons ⟨_, rfl⟩ (.cons ⟨_, rfl⟩ (.cons ⟨_, rfl⟩ (.cons ⟨_, rfl⟩ (.cons ⟨_, rfl⟩ (.cons ⟨_, rfl⟩ (.cons ⟨_, rfl⟩ (.cons ⟨_, rfl⟩ (.cons ⟨_, rfl⟩ (.cons ⟨_, rfl⟩ (.cons ⟨_, rfl⟩ (.cons ⟨_, rfl⟩ (.cons ⟨_, rfl⟩ (.cons ⟨_, rfl⟩ (.cons ⟨_, rfl⟩ (.cons ⟨_, rfl⟩ (.cons ⟨_, rfl⟩ (.cons ⟨_, rfl⟩ (.cons ⟨_, rfl⟩ (.cons ⟨_, rfl⟩ (.cons ⟨_, rfl⟩ (.cons ⟨_, rfl⟩ (.nil)))))))))))))))))))))))))))))))
    intro g_WIDTHS
    refine' Wb.bnd (PySem.W.mg_none_of (n := "abs") KX G ?b_abs) ?_; (case b_abs => k_is)
    intro b_abs
    refine' Wb.bnd (PySem.W.mg_none_of (n := "enumerate") KX G ?b_enumerate) ?_; (case b_enumerate => k_is)
    intro b_enumerate
    refine' Wb.bnd (PySem.W.mg_none_of (n := "len") KX G ?b_len) ?_; (case b_len => k_is)
    intro b_len
    refine' Wb.bnd (PySem.W.mg_none_of (n := "list") KX G ?b_list) ?_; (case b_list => k_is)
    intro b_list
    refine' Wb.bnd (PySem.W.mg_none_of (n := "max") KX G ?b_max) ?_; (case b_max => k_is)
    intro b_max
    refine' Wb.bnd (PySem.W.mg_none_of (n := "min") KX G ?b_min) ?_; (case b_min => k_is)
    intro b_min
    refine' Wb.bnd (PySem.W.mg_none_of (n := "sum") KX G ?b_sum) ?_; (case b_sum => k_is)
    intro b_sum
    obtain ⟨c_Plate, u_Plate⟩ := u_Plate
    obtain ⟨c_Ticket, u_Ticket⟩ := u_Ticket
    obtain ⟨c_Goods, u_Goods⟩ := u_Goods
    obtain ⟨c_Lorry, u_Lorry⟩ := u_Lorry
    obtain ⟨c_Yard, u_Yard⟩ := u_Yard
    obtain ⟨c_Line, u_Line⟩ := u_Line
    exact Wb.whole (cs := ⟨c_Plate, c_Ticket, c_Goods, c_Lorry, c_Yard, c_Line⟩) ⟨u_Plate, u_Ticket, u_Goods, u_Lorry, u_Yard, u_Line, f_tell_tare, f_tell_odd, f_weighed_refusal, f_tell_excess, f_tell_fits, f_begin_in_range, f_add_kind, f_add_lorry, f_pass_days, f_tell_dry, f_tell_yard, f_tell_ticket, f_tell_stock, f_tell_enough, f_done_tickets, f_tell_totals, f_tell_trips, f_all_amounts, f_tell_money, f_tell_heaviest, f_tell_sums, f_tell_state, f_coming_refusal, f_arrive_refusal, f_arrive, f_is_too_heavy_now, f_settling_refusal, f_settle, f_standing_refusal, f_leave_refusal, f_leave, f_net_above_tare, f_quick_refusal, f_quick, f_cancel, f_set_errors, f_put_on, f_take_off, f_show_reading, f_set_zero, f_try_weight, f_ask_plate, f_ask_yard, f_look_up, f_ask, f_end_of_call, f_answers, g_NONE_SUCH, g_NOTHING_THERE, g_NOT_BEGUN, g_SHOWS_NOTHING, g_FULL, g_NOT_NOW, g_ALREADY, g_OUT_OF_RANGE, g_TOO_MUCH, g_NOT_SO_MUCH, g_TOO_HEAVY, g_NOTHING_NET, g_NO_GOOD_TARE, g_NO_ROOM, g_FINE, g_STEPS_ABOVE, g_FINE_STEPS, g_MIDDLE_STEPS, g_BRINGS, g_FETCHES, g_ON_YARD, g_DONE, g_CALLED_OFF, g_MOST_TICKETS, g_MOST_KINDS, g_MOST_MOIST, g_MOST_LORRIES, g_TARES_KEPT, g_ALIKE_HUNDREDTHS, g_MOST_NET, g_MOST_AXLES, g_MOST_ON_AXLE, g_ZERO_PART, g_BEGIN, g_KIND, g_LORRY, g_DRIFT, g_ON, g_OFF, g_SHOW, g_ZERO, g_TEST, g_ARRIVE, g_LEAVE, g_QUICK, g_CANCEL, g_DAYS, g_TARE, g_ODD, g_EXCESS, g_FITS, g_DRY, g_YARD, g_LOOK, g_STOCK, g_ENOUGH, g_TOTALS, g_TRIPS, g_MONEY, g_HEAVIEST, g_SUMS, g_WIDTHS, b_abs, b_enumerate, b_len, b_list, b_max, b_min, b_sum⟩ hmg
  case S =>
    intro K H xs a hO hwi hask hx
    cases hx with
    | cons h1 h2 =>
      cases h2
      cases h1 with
      | lst hs ha =>
        have e := L2.ints_dw a.1 _ ha
        subst e
        have q : ((Codec.inLen 0 20000 a.1 && a.1.all (Codec.inInt (-2147483648) 4294967295)) && true) = true := hwi
        rw [Bool.and_eq_true, Bool.and_eq_true] at q
        exact ⟨_, a.1, rfl, hs, hask, fun H' p hp => .lst (L2.SqL.of hp) (L2.dw_ints _)⟩
#print axioms PySem.Challenge.cw_weighbridge_s01_answers_holds

end
