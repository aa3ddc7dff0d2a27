import PyProof.Rows.All
import Wide.All
import OpenK.AllK
import Wide.FinOn
import PyProof.EqAt
import PyProof.EqKinds
import PyProof.TupleCall
import KE.BitLaws
import Open.SpecLaws
import KE.OsHead
import KE.OsGo
import PyProof.DictRoadsH
import Wide.Seal
import PyFlatLaws
import PySem.Challenge.RW_pondyears_s01_answers
section
set_option Elab.async false
set_option linter.all false
set_option maxRecDepth 100000
namespace L2
open PySem PySem.Spec PyProof.Rows
abbrev Key := Sum Int Str
def keyIs : Key → Value → Bool
  | .inl k, v => Value.isInt k v
  | .inr x, v => Value.isStrOf x v
def keyH (w : World) : Key → Int
  | .inl k => hashInt k
  | .inr x => hashStr w x
theorem keyIs_shape : ∀ {k : Key} {v : Value}, keyIs k v = true → (∃ i t, k = Sum.inl i ∧ v = Value.int i t) ∨ (∃ x t, k = Sum.inr x ∧ v = Value.str x t)
  | .inl i, v, h => by
    obtain ⟨t, e⟩ := Value.isInt_shape (k := i) (v := v) h
    exact .inl ⟨i, t, rfl, e⟩
  | .inr x, v, h => by
    obtain ⟨t, e⟩ := Value.isStrOf_shape (x := x) (v := v) h
    exact .inr ⟨x, t, rfl, e⟩
theorem key_ll (a b : Int) : decide ((Sum.inl a : Key) = Sum.inl b) = (a == b) := by
  by_cases e : a = b
  · subst e; simp
  · have h : ¬ (Sum.inl a : Key) = Sum.inl b := fun q => e (Sum.inl.inj q)
    rw [decide_eq_false h]
    exact (beq_eq_false_iff_ne.mpr e).symm
theorem key_rr (a b : Str) : decide ((Sum.inr a : Key) = Sum.inr b) = decide (a = b) := by
  by_cases e : a = b
  · subst e; simp
  · have h : ¬ (Sum.inr a : Key) = Sum.inr b := fun q => e (Sum.inr.inj q)
    rw [decide_eq_false h, decide_eq_false e]
theorem key_lr (a : Int) (b : Str) : decide ((Sum.inl a : Key) = Sum.inr b) = false := decide_eq_false (fun q => nomatch q)
theorem key_rl (a : Str) (b : Int) : decide ((Sum.inr a : Key) = Sum.inl b) = false := decide_eq_false (fun q => nomatch q)
def mixKind (prog : Program) (w : World) : PySem.KeyKind prog w Key where
  is := keyIs
  hash := keyH w
  inj := fun v a b ha hb => by
    rcases keyIs_shape ha with ⟨i, t, rfl, rfl⟩ | ⟨x, t, rfl, rfl⟩
    · rcases keyIs_shape hb with ⟨j, u, rfl, e⟩ | ⟨y, u, rfl, e⟩
      · injection e with e1 _; rw [e1]
      · exact nomatch e
    · rcases keyIs_shape hb with ⟨j, u, rfl, e⟩ | ⟨y, u, rfl, e⟩
      · exact nomatch e
      · injection e with e1 _; rw [e1]
  byValue := fun k v h => by
    rcases keyIs_shape h with ⟨i, t, rfl, rfl⟩ | ⟨x, t, rfl, rfl⟩ <;> rfl
  pyHash := fun hv h => by
    rcases keyIs_shape hv with ⟨i, t, rfl, rfl⟩ | ⟨x, t, rfl, rfl⟩
    · exact wpAny_pyHash_int h
    · exact wpAny_pyHash_str h
  eqBool := fun hu hv h => by
    rcases keyIs_shape hu with ⟨i, t, rfl, rfl⟩ | ⟨x, t, rfl, rfl⟩
    · rcases keyIs_shape hv with ⟨j, u, rfl, rfl⟩ | ⟨y, u, rfl, rfl⟩
      · rw [key_ll] at h; exact wpAny_eqBool_int h
      · rw [key_lr] at h; exact SeqAt.EqAt.int_str i t y u _ _ _ _ h
    · rcases keyIs_shape hv with ⟨j, u, rfl, rfl⟩ | ⟨y, u, rfl, rfl⟩
      · rw [key_rl] at h; exact SeqAt.EqAt.str_int x t j u _ _ _ _ h
      · rw [key_rr] at h; exact wpAny_eqBool_str h
  «strs» := fun k x t v h => by
    rcases keyIs_shape h with ⟨i, u, rfl, e⟩ | ⟨y, u, rfl, e⟩
    · exact nomatch e
    · injection e with e1 _
      subst e1
      cases v <;> rfl
end L2
namespace L2
open PySem PySem.Spec PyProof.Rows
inductive V where
  | non | bl (b : Bool) | int (i : Int) | str (x : Str) | byt (b : Array UInt8) | flt (b : UInt64) | ref (a : Addr) | ty (n : String)
  deriving DecidableEq
def RelV : V → Value → Prop
  | .non, u => u = Value.none
  | .bl b, u => u = Value.bool b
  | .int i, u => ∃ t, u = Value.int i t
  | .str x, u => ∃ t, u = Value.str x t
  | .byt b, u => ∃ t, u = Value.bytes b t
  | .flt b, u => ∃ t, u = Value.float b t
  | .ref a, u => u = Value.ref a
  | .ty n, u => u = Value.type n
abbrev Vals : List V → List Value → Prop := Paired RelV
theorem Vals.length {xs : List V} {us : List Value} (r : Vals xs us) : xs.length = us.length := Paired.length r
theorem Vals.get : ∀ {xs : List V} {us : List Value} {i : Nat} {x : V}, Vals xs us → xs[i]? = some x → ∃ u, us[i]? = some u ∧ RelV x u
  | _, _, _, _, .nil, e => by simp at e
  | _, _, 0, _, .cons r _, e => by simp at e; subst e; exact ⟨_, rfl, r⟩
  | _, _, i + 1, x, .cons _ t, e => by
    obtain ⟨u, h1, h2⟩ := Vals.get (i := i) (x := x) t (by simpa using e)
    exact ⟨u, by simpa using h1, h2⟩
theorem Vals.set {x : V} {u : Value} (r : RelV x u) : ∀ {xs : List V} {us : List Value} (i : Nat), Vals xs us → Vals (xs.set i x) (us.set i u)
  | _, _, _, .nil => .nil
  | _, _, 0, .cons _ t => .cons r t
  | _, _, i + 1, .cons q t => .cons q (Vals.set r i t)
theorem Vals.append : ∀ {xs ys : List V} {us ws : List Value}, Vals xs us → Vals ys ws → Vals (xs ++ ys) (us ++ ws)
  | _, _, _, _, .nil, s => s
  | _, _, _, _, .cons r t, s => .cons r (Vals.append t s)
theorem Vals.take : ∀ {xs : List V} {us : List Value} (n : Nat), Vals xs us → Vals (xs.take n) (us.take n)
  | _, _, 0, _ => .nil
  | _, _, _ + 1, .nil => .nil
  | _, _, n + 1, .cons r t => .cons r (Vals.take n t)
theorem Vals.drop : ∀ {xs : List V} {us : List Value} (n : Nat), Vals xs us → Vals (xs.drop n) (us.drop n)
  | _, _, 0, r => r
  | _, _, _ + 1, .nil => .nil
  | _, _, n + 1, .cons _ t => Vals.drop n t
def RelO : Option V → Option Value → Prop
  | some v, some u => RelV v u
  | none, none => True
  | _, _ => False
def KV {κ : Type} : List (κ × V) → List (κ × Value) → Prop := Paired fun (p : κ × V) (q : κ × Value) => p.1 = q.1 ∧ RelV p.2 q.2
def kV : Key → V
  | .inl i => .int i
  | .inr x => .str x
inductive HO where
  /-- a list -/
  | lst (xs : List V)
  /-- a tuple (never changes) -/
  | tup (xs : List V)
  /-- a dict whose keys are ints and texts; one whose keys are tuples of ints and texts (the empty one is both) -/
  | dK (kvs : List (Key × V)) | dT (kvs : List (List Key × V))
  /-- a set of ints: its members, its size -/
  | set (S : Int → Bool) (n : Nat)
  /-- an instance of the class at C, its dict at dx, its attributes -/
  | ins (C dx : Addr) (fs : List (Str × V))
  /-- the dict of the instance at x -/
  | own (x : Addr)
  /-- the dict of an exception -/
  | xd (fs : List (Str × V))
  /-- a bound method, f of x -/
  | met (f x : Addr)
  /-- a range object lo, lo + 1, .. below hi -/
  | rng (lo hi : Int)
  /-- a thing that is known to the object (the script; a dict while a loop walks it): read, never written while it is so -/
  | frz (o : Obj) (u : HO)
  /-- a code object's table -/
  | tbl (ps : Array Value)
  /-- any other thing, by what is true of its one object (a def of one's own: SetO a S n := HO.ext fun h => ..) -/
  | ext (φ : Heap → Prop)
abbrev Hp := Addr → Option HO
def upd (H : Hp) (a : Addr) (o : HO) : Hp := fun b => if b = a then some o else H b
theorem upd_same {H : Hp} {a : Addr} {o : HO} : upd H a o a = some o := by unfold upd; rw [if_pos rfl]
theorem upd_ne {H : Hp} {a b : Addr} {o : HO} (h : b ≠ a) : upd H a o b = H b := by unfold upd; rw [if_neg h]
theorem ne_of {H : Hp} {a b : Addr} {o u : HO} (h : H a = some o) (h' : H b = some u) (d : o ≠ u) : a ≠ b := by
  intro e; subst e; rw [h] at h'; exact d (Option.some.inj h')
theorem ne_of_none {H : Hp} {a b : Addr} {o : HO} (h : H a = some o) (h' : H b = none) : a ≠ b := by
  intro e; subst e; rw [h] at h'; cases h'
section
variable (P : Program) (w : World)
def ObjOk (H : Hp) (h : Heap) (a : Addr) : HO → Prop
  | .lst xs => xs.length ≤ sizeLine ∧ ∃ (its : List Value) (n : Nat), Vals xs its ∧ h.get? a = some { cls := .type "list", data := .seq its.toArray n }
  | .tup xs => xs.length ≤ sizeLine ∧ ∃ its : List Value, Vals xs its ∧ IsTup h a its.toArray
  | .dK kvs => kvs.length ≤ sizeLine ∧ (a == sysModules) = false ∧ ∃ vs, KV kvs vs ∧ h.DictOf (mixKind P w) a vs
  | .dT kvs => kvs.length ≤ sizeLine ∧ (a == sysModules) = false ∧ ∃ xs : List (List Key × Addr × Value),
      Paired (fun (p : List Key × V) (q : List Key × Addr × Value) => p.1 = q.1 ∧ H q.2.1 = some (.tup (p.1.map kV)) ∧ RelV p.2 q.2.2) kvs xs ∧
      ∃ o es ep, h.get? a = some o ∧ o.ExactDict ∧ o.data = .dict es ep ∧ es.toList = xs.map (entryOfKey (tupleKind (mixKind P w))) ∧ (xs.map (·.1)).Nodup
  | .set S n => h.SetOf (intKind P w) a S n
  | .ins C dx fs => H dx = some (.own a) ∧ fs.length ≤ 1000 ∧ dx ≠ a ∧ h.get? a = some (PySem.W.instObj C dx) ∧
      ∃ mA, h.Ns1 dx mA ∧ (∀ f, RelO (fs.lookup f) (mA f)) ∧ PySem.Within mA (fs.map (·.1))
  | .own _ => ∃ o, h.get? a = some o
  | .xd fs => ∃ mA, h.Ns1 a mA ∧ ∀ f, RelO (fs.lookup f) (mA f)
  | .rng lo hi => ∃ t u v, h.get? a = some { cls := .type "range", data := .fields #[.int lo t, .int hi u, .int 1 v] }
  | .frz o u => h.get? a = some o ∧ ObjOk H h a u
  | .tbl ps => h.get? a = some { cls := .none, data := .fields ps }
  | .met f x => h.get? a = some (PySem.W.methodObj (.ref f) (.ref x))
  | .ext φ => φ h ∧ (∃ o, h.get? a = some o) ∧ ∀ h1 h2 : Heap, φ h1 → (∀ o, h1.get? a = some o → h2.get? a = some o) → φ h2
def HOk (H : Hp) (h : Heap) : Prop := ∀ a o, H a = some o → ObjOk P w H h a o
end
section
variable {P : Program} {w : World} {H H' : Hp} {h h' : Heap} {a : Addr} {o : HO}
theorem ObjOk.lt (x : ObjOk P w H h a o) : a < h.objs.size := by
  cases o with
  | lst xs => obtain ⟨_, _, _, _, e⟩ := x; exact Heap.lt_size e
  | tup xs => obtain ⟨_, _, _, p⟩ := x; exact p.lt
  | dK kvs => obtain ⟨_, _, _, _, o, _, _, e, _⟩ := x; exact Heap.lt_size e
  | dT kvs => obtain ⟨_, _, _, _, o, _, _, e, _⟩ := x; exact Heap.lt_size e
  | set S n => obtain ⟨o, _, _, _, e, _⟩ := x; exact Heap.lt_size e
  | ins C dx fs => obtain ⟨_, _, _, e, _⟩ := x; exact Heap.lt_size e
  | own y => obtain ⟨_, e⟩ := x; exact Heap.lt_size e
  | xd fs => obtain ⟨_, ⟨_, _, _, e, _⟩, _⟩ := x; exact Heap.lt_size e
  | rng lo hi => obtain ⟨_, _, _, e⟩ := x; exact Heap.lt_size e
  | frz ob u => obtain ⟨e, _⟩ := x; exact Heap.lt_size e
  | tbl ps => exact Heap.lt_size (show h.get? a = some _ from x)
  | met f y => exact Heap.lt_size (show h.get? a = some _ from x)
  | ext φ => obtain ⟨_, ⟨_, e⟩, _⟩ := x; exact Heap.lt_size e
theorem Paired.mapP {α β : Type} {F G : α → β → Prop} : ∀ {l₁ : List α} {l₂ : List β}, Paired F l₁ l₂ → (∀ a b, F a b → G a b) → Paired G l₁ l₂
  | _, _, .nil, _ => .nil
  | _, _, .cons r t, f => .cons (f _ _ r) (Paired.mapP t f)
theorem ObjOk.stay (x : ObjOk P w H h a o) (k : ∀ b u, (b = a ∨ H b = some (.own a)) → h.get? b = some u → h'.get? b = some u)
    (ho : ∀ b, H b = some (.own a) → H' b = some (.own a)) (ht : ∀ b xs, H b = some (.tup xs) → H' b = some (.tup xs)) : ObjOk P w H' h' a o := by
  induction o with
  | lst xs => obtain ⟨z, its, n, r, e⟩ := x; exact ⟨z, its, n, r, k _ _ (.inl rfl) e⟩
  | tup xs => obtain ⟨z, its, r, ob, e, c⟩ := x; exact ⟨z, its, r, ob, k _ _ (.inl rfl) e, c⟩
  | dK kvs => obtain ⟨z, y, vs, r, ob, es, ep, e, c⟩ := x; exact ⟨z, y, vs, r, ob, es, ep, k _ _ (.inl rfl) e, c⟩
  | dT kvs =>
    obtain ⟨z, y, xs, r, ob, es, ep, e, c⟩ := x
    exact ⟨z, y, xs, Paired.mapP r fun p q z => ⟨z.1, ht _ _ z.2.1, z.2.2⟩, ob, es, ep, k _ _ (.inl rfl) e, c⟩
  | set S n => obtain ⟨ob, es, ep, t, e, c⟩ := x; exact ⟨ob, es, ep, t, k _ _ (.inl rfl) e, c⟩
  | ins C dx fs =>
    obtain ⟨d, z, ne, e, mA, ⟨od, es, ep, e2, c⟩, r⟩ := x
    exact ⟨ho _ d, z, ne, k _ _ (.inl rfl) e, mA, ⟨od, es, ep, k _ _ (.inr d) e2, c⟩, r⟩
  | own y => obtain ⟨ob, e⟩ := x; exact ⟨ob, k _ _ (.inl rfl) e⟩
  | xd fs => obtain ⟨mA, ⟨od, es, ep, e, c⟩, r⟩ := x; exact ⟨mA, ⟨od, es, ep, k _ _ (.inl rfl) e, c⟩, r⟩
  | rng lo hi => obtain ⟨t, u, v, e⟩ := x; exact ⟨t, u, v, k _ _ (.inl rfl) e⟩
  | frz ob u ih => obtain ⟨e, q⟩ := x; exact ⟨k _ _ (.inl rfl) e, ih q⟩
  | tbl ps =>
    have e : h.get? a = some { cls := .none, data := .fields ps } := x
    show h'.get? a = some { cls := .none, data := .fields ps }
    exact k a _ (.inl rfl) e
  | met f y =>
    have e : h.get? a = some (PySem.W.methodObj (.ref f) (.ref y)) := x
    show h'.get? a = some (PySem.W.methodObj (.ref f) (.ref y))
    exact k a _ (.inl rfl) e
  | ext φ => obtain ⟨p, ⟨o, e⟩, st⟩ := x; exact ⟨st _ _ p fun o q => k _ _ (.inl rfl) q, ⟨o, k _ _ (.inl rfl) e⟩, st⟩
theorem HOk.lt (x : HOk P w H h) (e : H a = some o) : a < h.objs.size := (x a o e).lt
theorem HOk.fresh (x : HOk P w H h) (e : h.objs.size ≤ a) : H a = none := by
  cases q : H a with
  | none => rfl
  | some u => exact absurd (Nat.lt_of_lt_of_le (x.lt q) e) (Nat.lt_irrefl _)
theorem HOk.kept (x : HOk P w H h) (k : ∀ b u, h.get? b = some u → h'.get? b = some u) : HOk P w H h' := fun a o e =>
  (x a o e).stay (fun b u _ q => k b u q) (fun _ q => q) fun _ _ q => q
theorem HOk.laid (x : HOk P w H h) (k : ∀ b u, h.get? b = some u → h'.get? b = some u) (hp : h.objs.size ≤ a) (new : ObjOk P w (upd H a o) h' a o) : HOk P w (upd H a o) h' := fun b u e => by
  have hn := x.fresh hp
  by_cases hb : b = a
  · subst hb; rw [upd_same] at e; cases e; exact new
  · rw [upd_ne hb] at e
    exact (x b u e).stay (fun c v _ q => k c v q) (fun c q => by rw [upd_ne (ne_of_none q hn)]; exact q) fun c xs q => by rw [upd_ne (ne_of_none q hn)]; exact q
end
def Rd (H : Hp) (a : Addr) (u : HO) : Prop := H a = some u ∨ ∃ o, H a = some (.frz o u)
theorem Rd.ok {P : Program} {w : World} {H : Hp} {h : Heap} {a : Addr} {u : HO} (r : Rd H a u) (x : HOk P w H h) : ObjOk P w H h a u := by
  rcases r with r | ⟨o, r⟩
  · exact x a u r
  · obtain ⟨_, q⟩ := x a _ r
    exact q
def Mut : Option HO → Prop
  | some (.lst _) => True
  | some (.dK _) => True
  | some (.dT _) => True
  | some (.set _ _) => True
  | some (.ins _ _ _) => True
  | some (.ext _) => True
  | _ => False
section
variable {P : Program} {w : World} {H : Hp} {h h' : Heap} {x e : Addr} {o' : HO}
theorem HOk.write (ok : HOk P w H h) (mu : Mut (H x)) (he : e = x ∨ H e = some (.own x)) (k : ∀ b u, b ≠ e → h.get? b = some u → h'.get? b = some u) (heo : ∃ u, h'.get? e = some u)
    (new : ObjOk P w (upd H x o') h' x o') : HOk P w (upd H x o') h' := fun b u q => by
  have nown : ∀ c y, H c = some (.own y) → c ≠ x := fun c y r z => by subst z; rw [r] at mu; exact mu
  have ntup : ∀ c xs, H c = some (.tup xs) → c ≠ x := fun c xs r z => by subst z; rw [r] at mu; exact mu
  by_cases hb : b = x
  · subst hb; rw [upd_same] at q; cases q; exact new
  · rw [upd_ne hb] at q
    by_cases hbe : b = e
    · have q' : H b = some (.own x) := by
        rcases he with z | z
        · exact absurd (hbe.trans z) hb
        · rw [hbe]; exact z
      rw [q] at q'; cases q'
      obtain ⟨v, hv⟩ := heo
      exact ⟨v, by rw [hbe]; exact hv⟩
    · refine (ok b u q).stay (fun c v hc r => k c v ?_ r) (fun c r => by rw [upd_ne (nown c b r)]; exact r) fun c xs r => by rw [upd_ne (ntup c xs r)]; exact r
      rcases hc with rfl | hc
      · exact hbe
      · rintro rfl
        rcases he with z | z
        · exact nown c b hc z
        · rw [hc] at z; cases z; exact hb rfl
end
structure Un (fs ex : List Addr) (H H' : Hp) (h h' : Heap) : Prop where
  keep : ∀ b o, h.get? b = some o → H b = none → b ∉ fs → b ∉ ex → h'.get? b = some o
  slot : ∀ b o, h.get? b = some o → H b = none → b ∈ fs → b ∉ ex → ∃ sl, h'.get? b = some { o with slots := sl }
  free : ∀ b o, h.get? b = some o → H b = none → b ∉ ex → H' b = none
  there : ∀ b o, h.get? b = some o → b ∉ ex → ∃ o', h'.get? b = some o'
  tups : ∀ b xs, H b = some (.tup xs) → H' b = some (.tup xs)
  frzs : ∀ b o u, H b = some (.frz o u) → H' b = some (.frz o u)
  tbls : ∀ b ps, H b = some (.tbl ps) → ∃ more, H' b = some (.tbl (ps ++ more))
section
variable {fs fs' ex ex' : List Addr} {H H1 H2 : Hp} {h h1 h2 h' : Heap} {a x e : Addr} {o : HO}
theorem Un.any (u : Un fs ex H H1 h h1) {b : Addr} {ob : Obj} (q : h.get? b = some ob) (n : H b = none) (hx : b ∉ ex) : ∃ sl, h1.get? b = some { ob with slots := sl } := by
  by_cases hb : b ∈ fs
  · exact u.slot b ob q n hb hx
  · exact ⟨ob.slots, u.keep b ob q n hb hx⟩
theorem Un.kept (k : ∀ b u, h.get? b = some u → h'.get? b = some u) : Un fs ex H H h h' :=
  ⟨fun b ob q _ _ _ => k b ob q, fun b ob q _ _ _ => ⟨ob.slots, k b ob q⟩, fun _ _ _ n _ => n, fun b ob q _ => ⟨ob, k b ob q⟩, fun _ _ q => q, fun _ _ _ q => q, fun _ ps q => ⟨#[], by rw [q]; simp⟩⟩
theorem Un.refl : Un fs ex H H h h := Un.kept fun _ _ q => q
theorem Un.laid (k : ∀ b u, h.get? b = some u → h'.get? b = some u) (hp : h.objs.size ≤ a) (hn : H a = none) : Un fs ex H (upd H a o) h h' where
  keep := fun b u q _ _ _ => k b u q
  slot := fun b u q _ _ _ => ⟨u.slots, k b u q⟩
  free := fun b u q n _ => by rw [upd_ne (Nat.ne_of_lt (Nat.lt_of_lt_of_le (Heap.lt_size q) hp))]; exact n
  there := fun b u q _ => ⟨u, k b u q⟩
  tups := fun b xs q => by rw [upd_ne (ne_of_none q hn)]; exact q
  frzs := fun b u xs q => by rw [upd_ne (ne_of_none q hn)]; exact q
  tbls := fun b ps q => ⟨#[], by rw [upd_ne (ne_of_none q hn), q]; simp⟩
theorem Un.write (mu : Mut (H x)) (he : e = x ∨ H e = some (.own x)) (k : ∀ b u, b ≠ e → h.get? b = some u → h'.get? b = some u) (heo : ∃ u, h'.get? e = some u) : Un fs ex H (upd H x o) h h' := by
  have hx : ∀ b, H b = none → b ≠ x := fun b n z => by subst z; rw [n] at mu; exact mu
  have hb : ∀ b, H b = none → b ≠ e := fun b n z => by
    subst z
    rcases he with r | r
    · exact hx b n r
    · rw [n] at r; cases r
  have hm : ∀ b u, H b = some u → ¬ Mut (some u) → b ≠ x := fun b u q nm z => by subst z; rw [q] at mu; exact nm mu
  refine ⟨fun b u q n _ _ => k b u (hb b n) q, fun b u q n _ _ => ⟨u.slots, k b u (hb b n) q⟩, fun b u q n _ => by rw [upd_ne (hx b n)]; exact n, fun b u q _ => ?_,
    fun b xs q => by rw [upd_ne (hm b _ q fun z => z)]; exact q, fun b u xs q => by rw [upd_ne (hm b _ q fun z => z)]; exact q, fun b ps q => ⟨#[], by rw [upd_ne (hm b _ q fun z => z), q]; simp⟩⟩
  by_cases hbe : b = e
  · subst hbe; exact heo
  · exact ⟨u, k b u hbe q⟩
end
def trk (h : Heap) (H : Hp) : List Addr := (List.range h.objs.size).filter fun a => (H a).isSome
def hidT (h : Heap) (H : Hp) : Heap := PySem.W.hideAll h (trk h H)
theorem hidT_size (h : Heap) (H : Hp) : (hidT h H).objs.size = h.objs.size := PySem.W.hideAll_size _ _
theorem hidT_get {h : Heap} {H : Hp} {b : Addr} {o : Obj} (e : h.get? b = some o) (n : H b = none) : (hidT h H).get? b = some o :=
  PySem.W.hideAll_get _ e fun hm => by
    have q : (H b).isSome = true := (List.mem_filter.mp hm).2
    rw [n] at q; simp at q
theorem of_hidT {h : Heap} {H : Hp} {b : Addr} {o : Obj} (e : (hidT h H).get? b = some o) : h.get? b = some o ∧ H b = none := by
  have e' : h.get? b = some o := PySem.W.of_hideAll (trk h H) e
  refine ⟨e', ?_⟩
  cases q : H b with
  | none => rfl
  | some x =>
    have hm : b ∈ trk h H := List.mem_filter.mpr ⟨List.mem_range.mpr (Heap.lt_size e'), by simp [q]⟩
    have z : (hidT h H).get? b = none := PySem.W.hideAll_none (trk h H) hm
    rw [z] at e; cases e
end L2
namespace L2
open PySem PySem.Spec PyProof.Rows
structure Mod (K : PySem.W.Frag) (mg : Str → Option Value) (base : Heap) : Prop where
  kin : K.In base
  glob : base.Ns mainGlobals mg
  blt : ∃ mb, base.Ns builtinsNs mb ∧ ∀ x : Str, x ≠ "__name__" → mb x = bootBuiltins x
  nolimit : base.NoLimit
structure Cx where
  prog : Program
  w : World
  K : PySem.W.Frag
  mg : Str → Option Value
  base : Heap
  A : Around
  N : List Str
  s_0 : Shared
  H_0 : Hp
  env : Env
  outer : List Env
  stack : List Env
  ex : List Addr
  fn : Str → Bool
  calm : Bool
  pn : List (Addr × Obj)
  xe : Value → Shared → Prop
def frs (l : List Env) : List Addr := l.filterMap (·.frame)
abbrev Cx.fs (X : Cx) : List Addr := frs X.outer
def Vis (sc : Scope) (x : Str) : Prop := sc.names.lookup x = some .local ∨ sc.names.lookup x = some .cell ∨ sc.names.lookup x = some .free
def Loc (sc : Scope) (x : Str) : Prop := sc.names.lookup x = some .local ∨ sc.names.lookup x = some .cell
def Look (env : Env) (h : Heap) (m : Str → Option Value) (x : Str) (u : Value) : Prop :=
  (env.kindOf x = some .local ∧ m x = some u) ∨ ((env.kindOf x = some .cell ∨ env.kindOf x = some .free) ∧ ∃ c, env.cells.lookup x = some c ∧ h.IsCell c (some u))
structure Cx.Ok (X : Cx) : Prop where
  mod : Mod X.K X.mg X.base
  kind : X.env.scope.kind = .function
  glob : X.env.globals = mainGlobals
  blt : X.env.builtins = builtinsNs
  above : X.s_0.heap.objs.size ≤ X.env.locals
  inj : ∀ x y c, X.env.cells.lookup x = some c → X.env.cells.lookup y = some c → x = y
  has : ∀ x, (X.env.kindOf x = some .cell ∨ X.env.kindOf x = some .free) → ∃ c, X.env.cells.lookup x = some c
  cab : ∀ x c, X.fn x = true → X.env.cells.lookup x = some c → X.s_0.heap.objs.size ≤ c
  hd : X.calm = true → X.A.handled = none
  frames : X.A.frames = some X.stack
  stk : X.stack = X.outer ∨ (X.stack = X.env :: X.outer ∧ X.env.frame = some X.env.locals)
  exf : ∀ b ∈ X.ex, b ≠ X.env.locals ∧ ∀ x c, X.env.cells.lookup x = some c → c ≠ b
  bs : ∀ b o, X.base.get? b = some o → X.s_0.heap.get? b = some o ∧ X.H_0 b = none
  bsz : X.base.objs.size ≤ X.s_0.heap.objs.size
  noex : ∀ b o, X.base.get? b = some o → b ∉ X.ex
  exfs : ∀ b ∈ X.ex, b ∉ X.fs
  funs : X.s_0.heap.FunFrames X.base X.outer
  frf : ∀ b ∈ X.fs, X.H_0 b = none
structure Inv (X : Cx) (pins : List (Addr × Obj)) (σ : List (Option V)) (H : Hp) (s : Shared) : Prop where
  ok : X.Ok
  os : s.os = X.s_0.os
  bare : AllBare s.gens
  base : Un X.fs X.ex X.H_0 H X.s_0.heap s.heap
  loc : ∃ m, s.heap.Ns X.env.locals m ∧ ∀ (i : Nat) (x : Str) (v : V), X.N[i]? = some x → σ[i]? = some (some v) → Vis X.env.scope x → ∃ u, RelV v u ∧ Look X.env s.heap m x u
  cell : ∀ x c, X.env.cells.lookup x = some c → ∃ v, s.heap.IsCell c v
  free : H X.env.locals = none
  freeC : ∀ x c, X.env.cells.lookup x = some c → H c = none
  pin : ∀ p ∈ X.pn ++ pins, s.heap.get? p.1 = some p.2 ∧ H p.1 = none ∧ p.1 ≠ X.env.locals ∧ p.1 ∉ X.fs ∧ ∀ v, p.2.data ≠ .cell v
  hok : HOk X.prog X.w H s.heap
  len : σ.length = X.N.length
section
variable {X : Cx} {pins : List (Addr × Obj)} {σ : List (Option V)} {H H' : Hp} {s : Shared} {h' : Heap}
theorem Cx.Ok.nofr (ok : X.Ok) {b : Addr} {o : Obj} (e : X.base.get? b = some o) : b ∉ X.fs := fun hb => by
  have := (ok.funs.mem hb).1
  rw [e] at this; cases this
theorem Inv.bs (I : Inv X pins σ H s) : ∀ b o, X.base.get? b = some o → s.heap.get? b = some o ∧ H b = none := fun b o e =>
  ⟨I.base.keep b o (I.ok.bs b o e).1 (I.ok.bs b o e).2 (I.ok.nofr e) (I.ok.noex b o e), I.base.free b o (I.ok.bs b o e).1 (I.ok.bs b o e).2 (I.ok.noex b o e)⟩
theorem Inv.bk (I : Inv X pins σ H s) : ∀ b o, X.base.get? b = some o → s.heap.get? b = some o := fun b o e => (I.bs b o e).1
theorem Inv.mod (I : Inv X pins σ H s) : Mod X.K X.mg X.base := I.ok.mod
theorem Inv.kIn (I : Inv X pins σ H s) : X.K.In s.heap := I.ok.mod.kin.keeps I.bk
theorem Inv.lt (I : Inv X pins σ H s) : X.env.locals < s.heap.objs.size := let ⟨_, hn, _⟩ := I.loc; hn.lt
theorem Inv.sz (I : Inv X pins σ H s) : X.s_0.heap.objs.size ≤ s.heap.objs.size := Nat.le_trans I.ok.above (Nat.le_of_lt I.lt)
theorem Inv.nofs (I : Inv X pins σ H s) {a : Addr} (h : s.heap.objs.size ≤ a) : a ∉ X.fs := fun hb => by
  obtain ⟨_, o, ho, _⟩ := I.ok.funs.mem hb
  exact absurd (Nat.lt_of_lt_of_le (Heap.lt_size ho) (Nat.le_trans I.sz h)) (Nat.lt_irrefl _)
theorem Inv.cne (I : Inv X pins σ H s) : ∀ x c, X.env.cells.lookup x = some c → c ≠ X.env.locals := fun x c e z => by
  obtain ⟨v, o, ho, hd⟩ := I.cell x c e
  obtain ⟨m, ⟨o', es, ep, ho', hd', _⟩, _⟩ := I.loc
  rw [z, ho'] at ho; cases ho; rw [hd'] at hd; cases hd
theorem Inv.funs (I : Inv X pins σ H s) : s.heap.FunFrames X.base X.outer := by
  have all : ∀ (l : List Env), (∀ b ∈ frs l, b ∈ X.fs) → X.s_0.heap.FunFrames X.base l → s.heap.FunFrames X.base l := by
    intro l
    induction l with
    | nil => intro _ _; trivial
    | cons env r ih =>
      intro hs hl
      obtain ⟨hk, ⟨L, o, hf, hn, ho, hd⟩, hr⟩ := hl
      have hL : L ∈ X.fs := hs L (by unfold frs; rw [List.filterMap_cons, hf]; exact List.mem_cons_self)
      obtain ⟨sl, e⟩ := I.base.slot L o ho (I.ok.frf L hL) hL fun z => I.ok.exfs L z hL
      exact ⟨hk, ⟨L, _, hf, hn, e, hd⟩, ih (fun b hb => hs b (by unfold frs; rw [List.filterMap_cons, hf]; exact List.mem_cons_of_mem _ hb)) hr⟩
  exact all X.outer (fun _ hb => hb) I.ok.funs
theorem Inv.stack (I : Inv X pins σ H s) : s.heap.FunFrames X.base X.stack := by
  rcases I.ok.stk with e | ⟨e, hf⟩
  · rw [e]; exact I.funs
  · rw [e]
    obtain ⟨m, hn, _⟩ := I.loc
    refine .cons (by rw [I.ok.kind]; decide) hf hn ?_ I.funs
    exact Heap.get?_none_of_le (Nat.le_trans I.ok.bsz I.ok.above)
theorem Inv.stkSub (I : Inv X pins σ H s) : ∀ b ∈ frs X.stack, b ∈ X.env.locals :: X.fs := fun b hb => by
  rcases I.ok.stk with e | ⟨e, hf⟩
  · rw [e] at hb; exact List.mem_cons_of_mem _ hb
  · rw [e] at hb
    unfold frs at hb
    rw [List.filterMap_cons, hf] at hb
    exact hb
theorem Inv.stkFree (I : Inv X pins σ H s) : ∀ b ∈ frs X.stack, H b = none := fun b hb => by
  rcases List.mem_cons.mp (I.stkSub b hb) with e | hb
  · rw [e]; exact I.free
  · obtain ⟨_, o, ho, _⟩ := I.ok.funs.mem hb
    exact I.base.free b o ho (I.ok.frf b hb) fun z => I.ok.exfs b z hb
theorem Inv.step {g' : Array GenState} {t' : Nat} {d' : Drawn} {ch : List Addr} (I : Inv X pins σ H s)
    (hch : ∀ b ∈ ch, (b ∈ X.ex ∨ X.s_0.heap.objs.size ≤ b) ∧ b ≠ X.env.locals ∧ (∀ x c, X.env.cells.lookup x = some c → c ≠ b) ∧ ∀ p ∈ X.pn ++ pins, p.1 ≠ b)
    (keep : ∀ b o, b ≠ X.env.locals → b ∉ X.fs → b ∉ ch → s.heap.get? b = some o → H b = none → h'.get? b = some o)
    (slot : ∀ b o, b ≠ X.env.locals → b ∈ X.fs → b ∉ ch → s.heap.get? b = some o → H b = none → ∃ sl, h'.get? b = some { o with slots := sl }) (free : ∀ b o, b ∉ ch → s.heap.get? b = some o → H b = none → H' b = none)
    (there : ∀ b o, b ∉ ch → s.heap.get? b = some o → ∃ o', h'.get? b = some o')
    (tups : ∀ b xs, H b = some (.tup xs) → H' b = some (.tup xs)) (frzs : ∀ b o u, H b = some (.frz o u) → H' b = some (.frz o u)) (tbls : ∀ b ps, H b = some (.tbl ps) → ∃ more, H' b = some (.tbl (ps ++ more)))
    (ns : ∀ m, s.heap.Ns X.env.locals m → h'.Ns X.env.locals m) (hok : HOk X.prog X.w H' h') (hg : AllBare g') :
    Inv X pins σ H' { s with heap := h', gens := g', drawn := d', toks := t' } := by
  have neL : ∀ b o, X.s_0.heap.get? b = some o → b ≠ X.env.locals := fun b o e => Nat.ne_of_lt (Nat.lt_of_lt_of_le (Heap.lt_size e) I.ok.above)
  have neC : ∀ b o, X.s_0.heap.get? b = some o → b ∉ X.ex → b ∉ ch := fun b o e hx hb => by
    rcases (hch b hb).1 with z | z
    · exact hx z
    · exact absurd (Nat.lt_of_lt_of_le (Heap.lt_size e) z) (Nat.lt_irrefl _)
  have cellK : ∀ x c, X.env.cells.lookup x = some c → ∀ v, s.heap.IsCell c v → h'.IsCell c v := fun x c e v ⟨o, ho, hd⟩ => by
    have nch : c ∉ ch := fun z => (hch c z).2.2.1 x c e rfl
    by_cases hc : c ∈ X.fs
    · obtain ⟨sl, q⟩ := slot c o (I.cne x c e) hc nch ho (I.freeC x c e)
      exact ⟨_, q, hd⟩
    · exact ⟨o, keep c o (I.cne x c e) hc nch ho (I.freeC x c e), hd⟩
  refine ⟨I.ok, I.os, hg, ⟨fun b o e n hb hx => ?_, fun b o e n hb hx => ?_, fun b o e n hx => ?_, fun b o e hx => ?_, fun b xs e => tups b xs (I.base.tups b xs e), fun b o xs e => frzs b o xs (I.base.frzs b o xs e), fun b ps e => ?_⟩, ?_, fun x c e => ?_, ?_, fun x c e => ?_, fun p hp => ?_, hok, I.len⟩
  · exact keep b o (neL b o e) hb (neC b o e hx) (I.base.keep b o e n hb hx) (I.base.free b o e n hx)
  · obtain ⟨sl, e1⟩ := I.base.slot b o e n hb hx
    obtain ⟨sl', e2⟩ := slot b _ (neL b o e) hb (neC b o e hx) e1 (I.base.free b o e n hx)
    exact ⟨sl', e2⟩
  · obtain ⟨o', e1⟩ := I.base.there b o e hx
    exact free b o' (neC b o e hx) e1 (I.base.free b o e n hx)
  · obtain ⟨o', e1⟩ := I.base.there b o e hx
    exact there b o' (neC b o e hx) e1
  · obtain ⟨m1, e1⟩ := I.base.tbls b ps e
    obtain ⟨m2, e2⟩ := tbls b _ e1
    exact ⟨m1 ++ m2, by rw [e2, Array.append_assoc]⟩
  · obtain ⟨m, hn, hl⟩ := I.loc
    refine ⟨m, ns m hn, fun i x v e1 e2 e3 => ?_⟩
    obtain ⟨u, r, l⟩ := hl i x v e1 e2 e3
    refine ⟨u, r, ?_⟩
    rcases l with l | ⟨k, c, e, z⟩
    · exact .inl l
    · exact .inr ⟨k, c, e, cellK x c e _ z⟩
  · obtain ⟨v, z⟩ := I.cell x c e
    exact ⟨v, cellK x c e v z⟩
  · obtain ⟨m, ⟨o, _, _, ho, _⟩, _⟩ := I.loc
    exact free _ o (fun z => (hch _ z).2.1 rfl) ho I.free
  · obtain ⟨v, o, ho, hd⟩ := I.cell x c e
    exact free c o (fun z => (hch c z).2.2.1 x c e rfl) ho (I.freeC x c e)
  · obtain ⟨e, n, ne, nf, d⟩ := I.pin p hp
    have nch : p.1 ∉ ch := fun z => (hch p.1 z).2.2.2 p hp rfl
    exact ⟨keep p.1 p.2 ne nf nch e n, free p.1 p.2 nch e n, ne, nf, d⟩
theorem Inv.un {t' : Nat} (I : Inv X pins σ H s) (u : Un X.fs [] H H' s.heap h') (hok : HOk X.prog X.w H' h') : Inv X pins σ H' { s with heap := h', toks := t' } := by
  obtain ⟨m, ⟨o, es, ep, ho, r⟩, _⟩ := id I.loc
  obtain ⟨sl, hL⟩ := u.any ho I.free (by simp)
  exact I.step (g' := s.gens) (d' := s.drawn) (ch := []) (fun _ z => nomatch z) (fun b o _ hb _ e n => u.keep b o e n hb (by simp)) (fun b o _ hb _ e n => u.slot b o e n hb (by simp)) (fun b o _ e n => u.free b o e n (by simp)) (fun b o _ e => u.there b o e (by simp)) u.tups u.frzs u.tbls (fun m' hm => by
    obtain ⟨o', es', ep', ho', r'⟩ := hm
    rw [ho] at ho'; cases ho'
    exact ⟨_, es', ep', hL, r'⟩) hok I.bare
theorem Inv.call {g' : Array GenState} {t' : Nat} {d' : Drawn} {ch : List Addr} (I : Inv X pins σ H s) (u : Un (frs X.stack) ch H H' s.heap h') (hok : HOk X.prog X.w H' h') (hg : AllBare g')
    (hch : ∀ b ∈ ch, (b ∈ X.ex ∨ X.s_0.heap.objs.size ≤ b) ∧ b ≠ X.env.locals ∧ (∀ x c, X.env.cells.lookup x = some c → c ≠ b) ∧ ∀ p ∈ X.pn ++ pins, p.1 ≠ b) :
    Inv X pins σ H' { s with heap := h', gens := g', drawn := d', toks := t' } := by
  obtain ⟨m, ⟨o, es, ep, ho, r⟩, _⟩ := id I.loc
  obtain ⟨sl, hL⟩ := u.any ho I.free fun z => (hch _ z).2.1 rfl
  exact I.step (ch := ch) hch (fun b o hL hb hc e n => u.keep b o e n (fun z => (List.mem_cons.mp (I.stkSub b z)).elim hL hb) hc) (fun b o _ _ hc e n => u.any e n hc) (fun b o hc e n => u.free b o e n hc) (fun b o hc e => u.there b o e hc) u.tups u.frzs u.tbls (fun m' hm => by
    obtain ⟨o', es', ep', ho', r'⟩ := hm
    rw [ho] at ho'; cases ho'
    exact ⟨_, es', ep', hL, r'⟩) hok hg
theorem Inv.turned {t' : Nat} {it : Addr} (I : Inv X pins σ H s) (k : ∀ b o, b ≠ it → s.heap.get? b = some o → h'.get? b = some o) (hn : H it = none) (hL : it ≠ X.env.locals)
    (h1 : it ∈ X.ex ∨ X.s_0.heap.objs.size ≤ it) (h2 : ∀ x c, X.env.cells.lookup x = some c → c ≠ it) (h3 : ∀ p ∈ X.pn ++ pins, p.1 ≠ it) : Inv X pins σ H { s with heap := h', toks := t' } := by
  have nit : ∀ b u, H b = some u → b ≠ it := fun b u e z => by rw [z, hn] at e; cases e
  refine I.step (g' := s.gens) (d' := s.drawn) (ch := [it]) (fun b hb => ?_) (fun b o _ _ hc e _ => k b o (fun z => hc (by simp [z])) e) (fun b o _ _ hc e _ => ⟨o.slots, k b o (fun z => hc (by simp [z])) e⟩) (fun _ _ _ _ n => n)
    (fun b o hc e => ⟨o, k b o (fun z => hc (by simp [z])) e⟩) (fun _ _ e => e) (fun _ _ _ e => e) (fun b ps e => ⟨#[], by rw [e]; simp⟩) (fun m hm => ?_) (fun b u e => ?_) I.bare
  · have e : b = it := by simpa using hb
    subst e
    exact ⟨h1, hL, h2, h3⟩
  · obtain ⟨o, es, ep, ho, r⟩ := hm
    exact ⟨o, es, ep, k _ o (Ne.symm hL) ho, r⟩
  · refine (I.hok b u e).stay (fun c v hc q => k c v ?_ q) (fun _ q => q) fun _ _ q => q
    rcases hc with z | z
    · rw [z]; exact nit b u e
    · exact nit c _ z
theorem Inv.tok (I : Inv X pins σ H s) (t : Nat) : Inv X pins σ H { s with toks := t } := I.un (h' := s.heap) (t' := t) Un.refl I.hok
theorem Inv.kept {t' : Nat} (I : Inv X pins σ H s) (k : ∀ b u, s.heap.get? b = some u → h'.get? b = some u) : Inv X pins σ H { s with heap := h', toks := t' } := I.un (Un.kept k) (I.hok.kept k)
theorem Inv.laid {a : Addr} {o : HO} {t' : Nat} (I : Inv X pins σ H s) (k : ∀ b u, s.heap.get? b = some u → h'.get? b = some u) (hp : s.heap.objs.size ≤ a) (new : ObjOk X.prog X.w (upd H a o) h' a o) :
    Inv X pins σ (upd H a o) { s with heap := h', toks := t' } := I.un (Un.laid k hp (I.hok.fresh hp)) (I.hok.laid k hp new)
theorem Inv.write {x e : Addr} {o : HO} {t' : Nat} (I : Inv X pins σ H s) (mu : Mut (H x)) (he : e = x ∨ H e = some (.own x)) (k : ∀ b u, b ≠ e → s.heap.get? b = some u → h'.get? b = some u) (heo : ∃ u, h'.get? e = some u)
    (new : ObjOk X.prog X.w (upd H x o) h' x o) : Inv X pins σ (upd H x o) { s with heap := h', toks := t' } := I.un (Un.write mu he k heo) (I.hok.write mu he k heo new)
theorem Inv.weak {σ' : List (Option V)} (I : Inv X pins σ H s) (hl : σ'.length = σ.length) (w : ∀ (i : Nat) v, σ'[i]? = some (some v) → σ[i]? = some (some v)) : Inv X pins σ' H s :=
  ⟨I.ok, I.os, I.bare, I.base, let ⟨m, hn, hl'⟩ := I.loc; ⟨m, hn, fun i x v e1 e2 e3 => hl' i x v e1 (w i v e2) e3⟩, I.cell, I.free, I.freeC, I.pin, I.hok, hl.trans I.len⟩
theorem Inv.pins_of {pins' : List (Addr × Obj)} (I : Inv X pins σ H s) (h : ∀ p ∈ pins', s.heap.get? p.1 = some p.2 ∧ H p.1 = none ∧ p.1 ≠ X.env.locals ∧ p.1 ∉ X.fs ∧ ∀ v, p.2.data ≠ .cell v) : Inv X pins' σ H s :=
  ⟨I.ok, I.os, I.bare, I.base, I.loc, I.cell, I.free, I.freeC, fun p hp => (List.mem_append.mp hp).elim (fun z => I.pin p (List.mem_append_left _ z)) (h p), I.hok, I.len⟩
theorem nodup_ix {N : List Str} (hN : N.Nodup) {i j : Nat} {x : Str} (a : N[i]? = some x) (b : N[j]? = some x) : i = j := by
  obtain ⟨h1, e1⟩ := List.getElem?_eq_some_iff.mp a
  obtain ⟨h2, e2⟩ := List.getElem?_eq_some_iff.mp b
  exact (List.getElem_inj hN).mp (e1.trans e2.symm)
theorem store_ok2 {M : Model} {A : Around} {E : Value → Shared → Prop} {i : Nat} {x : Str} {v : V} {u : Value} {Q : Unit → Shared → Prop} (I : Inv X pins σ H s) (hN : X.N.Nodup) (hi : X.N[i]? = some x) (hx : Loc X.env.scope x) (r : RelV v u)
    (h : ∀ s', Inv X pins (σ.set i (some v)) H s' → (∃ a, Heap.SameBut a s.heap s'.heap ∧ (a = X.env.locals ∨ X.env.cells.lookup x = some a)) → Q () s') (hf : X.fn x = true ∨ X.env.scope.names.lookup x = some .local := by first | exact .inl rfl | exact .inr rfl | assumption) : wpAny M A (storeName X.env x u) Q E s := by
  obtain ⟨m, hn, hl⟩ := id I.loc
  have hcls : (X.env.scope.kind == .class || (X.env.scope.kind == .module && X.env.locals != X.env.globals)) = false := by rw [I.ok.kind]; rfl
  have hiσ : i < σ.length := by rw [I.len]; exact (List.getElem?_eq_some_iff.mp hi).1
  have cne := I.cne
  have tracked : ∀ {a : Addr} {h' : Heap}, (∃ o, s.heap.get? a = some o ∧ H a = none) → Heap.SameBut a s.heap h' → HOk X.prog X.w H h' := fun {a h'} ha hs b ob e => by
    obtain ⟨_, _, hfree⟩ := ha
    refine (I.hok b ob e).stay (fun c w' hc q => (hs.2 c ?_).trans q) (fun _ q => q) fun _ _ q => q
    rintro rfl
    rcases hc with rfl | hc
    · rw [hfree] at e; cases e
    · rw [hfree] at hc; cases hc
  rcases hx with hk | hk
  · refine wpAny_storeName_local hk hn (fun h' hn' hs => ?_) hcls
    obtain ⟨oL, _, _, hoL, _⟩ := id hn
    refine h _ ⟨I.ok, I.os, I.bare, ⟨fun b o e n hb hx => ?_, fun b o e n hb hx => ?_, I.base.free, fun b o e hx => ?_, I.base.tups, I.base.frzs, I.base.tbls⟩, ⟨_, hn', fun j y v' e1 e2 e3 => ?_⟩, fun y c e => ?_, I.free, I.freeC, fun p hp => ?_, tracked ⟨oL, hoL, I.free⟩ hs, by simpa using I.len⟩ ⟨_, hs, .inl rfl⟩
    · exact (hs.2 b (Nat.ne_of_lt (Nat.lt_of_lt_of_le (Heap.lt_size e) I.ok.above))).trans (I.base.keep b o e n hb hx)
    · obtain ⟨sl, e1⟩ := I.base.slot b o e n hb hx
      exact ⟨sl, (hs.2 b (Nat.ne_of_lt (Nat.lt_of_lt_of_le (Heap.lt_size e) I.ok.above))).trans e1⟩
    · obtain ⟨o', e1⟩ := I.base.there b o e hx
      exact ⟨o', (hs.2 b (Nat.ne_of_lt (Nat.lt_of_lt_of_le (Heap.lt_size e) I.ok.above))).trans e1⟩
    · by_cases hj : j = i
      · subst hj
        rw [hi] at e1; cases e1
        rw [List.getElem?_set_self hiσ] at e2
        cases e2
        exact ⟨u, r, .inl ⟨hk, by simp⟩⟩
      · rw [List.getElem?_set_ne (Ne.symm hj)] at e2
        obtain ⟨u', r', q⟩ := hl j y v' e1 e2 e3
        refine ⟨u', r', ?_⟩
        rcases q with ⟨k, e⟩ | ⟨k, c, e, z⟩
        · refine .inl ⟨k, ?_⟩
          have : y ≠ x := fun e => hj (nodup_ix hN e1 (e ▸ hi))
          simp [this, e]
        · exact .inr ⟨k, c, e, z.sameBut hs (cne y c e)⟩
    · obtain ⟨w', z⟩ := I.cell y c e
      exact ⟨w', z.sameBut hs (cne y c e)⟩
    · obtain ⟨e, n, ne, nf, d⟩ := I.pin p hp
      exact ⟨(hs.2 p.1 ne).trans e, n, ne, nf, d⟩
  · have hfn : X.fn x = true := by
      rcases hf with z | z
      · exact z
      · rw [z] at hk; cases hk
    obtain ⟨c, hc⟩ := I.ok.has x (.inl hk)
    obtain ⟨w', z⟩ := I.cell x c hc
    refine wpAny_storeName_cell I.ok.kind hk hc z (fun h' hc' hs => ?_)
    obtain ⟨oc, hoc, hocd⟩ := id z
    refine h { s with heap := h' } ⟨I.ok, I.os, I.bare, ⟨fun b o e n hb hx => ?_, fun b o e n hb hx => ?_, I.base.free, fun b o e hx => ?_, I.base.tups, I.base.frzs, I.base.tbls⟩, ⟨m, hn.sameBut hs (Ne.symm (cne x c hc)), fun j y v' e1 e2 e3 => ?_⟩, fun y c' e => ?_, I.free, I.freeC, fun p hp => ?_, tracked ⟨oc, hoc, I.freeC x c hc⟩ hs, by simpa using I.len⟩ ⟨c, hs, .inr hc⟩
    · exact (hs.2 b (Nat.ne_of_lt (Nat.lt_of_lt_of_le (Heap.lt_size e) (I.ok.cab x c hfn hc)))).trans (I.base.keep b o e n hb hx)
    · obtain ⟨sl, e1⟩ := I.base.slot b o e n hb hx
      exact ⟨sl, (hs.2 b (Nat.ne_of_lt (Nat.lt_of_lt_of_le (Heap.lt_size e) (I.ok.cab x c hfn hc)))).trans e1⟩
    · obtain ⟨o', e1⟩ := I.base.there b o e hx
      exact ⟨o', (hs.2 b (Nat.ne_of_lt (Nat.lt_of_lt_of_le (Heap.lt_size e) (I.ok.cab x c hfn hc)))).trans e1⟩
    · by_cases hj : j = i
      · subst hj
        rw [hi] at e1; cases e1
        rw [List.getElem?_set_self hiσ] at e2
        cases e2
        exact ⟨u, r, .inr ⟨.inl hk, c, hc, hc'⟩⟩
      · rw [List.getElem?_set_ne (Ne.symm hj)] at e2
        obtain ⟨u', r', q⟩ := hl j y v' e1 e2 e3
        refine ⟨u', r', ?_⟩
        rcases q with q | ⟨k, c', e, z'⟩
        · exact .inl q
        · refine .inr ⟨k, c', e, z'.sameBut hs ?_⟩
          rintro rfl
          exact hj (nodup_ix hN e1 (I.ok.inj _ _ _ e hc ▸ hi))
    · by_cases hcc : c' = c
      · subst hcc; exact ⟨_, hc'⟩
      · obtain ⟨w2, z2⟩ := I.cell y c' e
        exact ⟨w2, z2.sameBut hs hcc⟩
    · obtain ⟨e, n, ne, nf, d⟩ := I.pin p hp
      refine ⟨(hs.2 p.1 ?_).trans e, n, ne, nf, d⟩
      intro q
      rw [q, hoc] at e
      have q' : oc = p.2 := Option.some.inj e
      exact d w' (by rw [← q']; exact hocd)
theorem store_ok {M : Model} {A : Around} {E : Value → Shared → Prop} {i : Nat} {x : Str} {v : V} {u : Value} {Q : Unit → Shared → Prop} (I : Inv X pins σ H s) (hN : X.N.Nodup) (hi : X.N[i]? = some x) (hx : Loc X.env.scope x) (r : RelV v u)
    (h : ∀ s', Inv X pins (σ.set i (some v)) H s' → Q () s') (hf : X.fn x = true ∨ X.env.scope.names.lookup x = some .local := by first | exact .inl rfl | exact .inr rfl | assumption) : wpAny M A (storeName X.env x u) Q E s :=
  store_ok2 I hN hi hx r (fun s' I' _ => h s' I') hf
theorem Inv.call' {s' : Shared} {ch : List Addr} (I : Inv X pins σ H s) (ho : s'.os = s.os) (u : Un (frs X.stack) ch H H' s.heap s'.heap) (hok : HOk X.prog X.w H' s'.heap) (hg : AllBare s'.gens)
    (hch : ∀ b ∈ ch, (b ∈ X.ex ∨ X.s_0.heap.objs.size ≤ b) ∧ b ≠ X.env.locals ∧ (∀ x c, X.env.cells.lookup x = some c → c ≠ b) ∧ ∀ p ∈ X.pn ++ pins, p.1 ≠ b) : Inv X pins σ H' s' := by
  obtain ⟨h', g', d', t', o'⟩ := s'
  have e : o' = s.os := ho
  subst e
  exact I.call (g' := g') (t' := t') (d' := d') u hok hg hch
end
abbrev XK := Value → Option Addr → Hp → Prop
abbrev St := List (Option V)
abbrev VK := V → Hp → Prop
abbrev TE := St → Hp → VK → Prop
abbrev TT := St → Hp → (Bool → Hp → Prop) → Prop
abbrev TA := St → Hp → (List V → Hp → Prop) → Prop
structure Ends where
  nx : St → Hp → Prop
  rt : VK
  bk : St → Hp → Prop := fun _ _ => False
  ct : St → Hp → Prop := fun _ _ => False
abbrev TS := Ends → St → Hp → Prop
def EP (X : Cx) (pins : List (Addr × Obj)) (σ : St) (Q : VK) (u : Value) (s' : Shared) : Prop := ∃ v H', Inv X pins σ H' s' ∧ RelV v u ∧ Q v H'
def TP (X : Cx) (pins : List (Addr × Obj)) (σ : St) (Q : Bool → Hp → Prop) (b : Bool) (s' : Shared) : Prop := ∃ H', Inv X pins σ H' s' ∧ Q b H'
def AP (X : Cx) (pins : List (Addr × Obj)) (σ : St) (Q : List V → Hp → Prop) (us : List Value) (s' : Shared) : Prop := ∃ vs H', Inv X pins σ H' s' ∧ Vals vs us ∧ Q vs H'
def SP (X : Cx) (pins : List (Addr × Obj)) (D : Ends) (f : Flow) (s' : Shared) : Prop :=
  match f with
  | .next => ∃ σ' H', Inv X pins σ' H' s' ∧ D.nx σ' H'
  | .brk => ∃ σ' H', Inv X pins σ' H' s' ∧ D.bk σ' H'
  | .cont => ∃ σ' H', Inv X pins σ' H' s' ∧ D.ct σ' H'
  | .ret u => ∃ v σ' H', Inv X pins σ' H' s' ∧ RelV v u ∧ D.rt v H'
def PE (X : Cx) (e : Expr) (t : TE) : Prop :=
  ∀ (pins : List (Addr × Obj)) (s : Shared) (σ : St) (H : Hp) (Q : VK), Inv X pins σ H s → t σ H Q → wpAny (model X.prog X.w) X.A (eval e X.env) (EP X pins σ Q) X.xe s
def PT (X : Cx) (e : Expr) (t : TT) : Prop :=
  ∀ (pins : List (Addr × Obj)) (s : Shared) (σ : St) (H : Hp) (Q : Bool → Hp → Prop), Inv X pins σ H s → t σ H Q → wpAny (model X.prog X.w) X.A (isTrue e X.env (eval e X.env)) (TP X pins σ Q) X.xe s
def PW (X : Cx) (e : Expr) (t : TT) : Prop :=
  ∀ (whole : Sem Value) (pins : List (Addr × Obj)) (s : Shared) (σ : St) (H : Hp) (Q : Bool → Hp → Prop), Inv X pins σ H s → t σ H Q → wpAny (model X.prog X.w) X.A (isTrue e X.env whole) (TP X pins σ Q) X.xe s
theorem PW.pt {X : Cx} {e : Expr} {t : TT} (h : PW X e t) : PT X e t := h _
def PA (X : Cx) (es : List Expr) (t : TA) : Prop :=
  ∀ (pos : Pos) (pins : List (Addr × Obj)) (s : Shared) (σ : St) (H : Hp) (Q : List V → Hp → Prop), Inv X pins σ H s → t σ H Q → wpAny (model X.prog X.w) X.A (spliced (backTo pos (starEach es X.env))) (AP X pins σ Q) X.xe s
def PS (X : Cx) (st : Stmt) (t : TS) : Prop :=
  ∀ (pins : List (Addr × Obj)) (s : Shared) (σ : St) (H : Hp) (D : Ends), Inv X pins σ H s → t D σ H → wpAny (model X.prog X.w) X.A (exec st X.env) (SP X pins D) X.xe s
def PSs (X : Cx) (st : List Stmt) (t : TS) : Prop :=
  ∀ (pins : List (Addr × Obj)) (s : Shared) (σ : St) (H : Hp) (D : Ends), Inv X pins σ H s → t D σ H → wpAny (model X.prog X.w) X.A (execs st X.env) (SP X pins D) X.xe s
theorem thn {α : Type} {t : Sem α} {Q Q' : α → Shared → Prop} {M : Model} {A : Around} {E : Value → Shared → Prop} {s : Shared} (h : wpAny M A t Q E s) (hQ : ∀ a s, Q a s → Q' a s) : wpAny M A t Q' E s := wpAny_mono h hQ fun _ _ x => x
end L2
namespace L2
open PySem PySem.Spec PyProof.Rows
section
variable {X : Cx}
def tVar (i : Nat) : TE := fun σ H Q => ∃ v, σ[i]? = some (some v) ∧ Q v H
def tC (v : V) : TE := fun _ H Q => Q v H
theorem pe_var {i : Nat} {x : Str} {pos : Pos} (hN : X.N[i]? = some x) (hv : Vis X.env.scope x) (hd : (x == ("__debug__" : Str)) = false := by decide) (hcd : (x == ("__classdict__" : Str)) = false := by decide) : PE X (.Name x pos) (tVar i) := by
  intro pins s σ H Q I h
  obtain ⟨v, e, h⟩ := h
  obtain ⟨m, hn, hl⟩ := I.loc
  obtain ⟨u, r, l⟩ := hl i x v hN e hv
  have fin : EP X pins σ Q u s := ⟨v, H, I, r, h⟩
  rcases l with ⟨hk, hm⟩ | ⟨hk, c, hc, hcell⟩
  · exact wpAny_Name (wpAny_loadName_local I.ok.kind hk hn hm fin) hd
  · rcases hk with hk | hk
    · exact wpAny_Name (wpAny_loadName_cell I.ok.kind hk hc hcell fin) hd
    · exact wpAny_Name (wpAny_loadName_free I.ok.kind hk hc hcell fin hcd) hd
theorem pe_int {i j pos} : PE X (.Constant (.int i) j pos) (tC (.int i)) := fun _ _ _ H _ I h => wpAny_Constant_int ⟨.int i, H, I.tok _, ⟨_, rfl⟩, h⟩
theorem pe_bl {b j pos} : PE X (.Constant (.bool b) j pos) (tC (.bl b)) := fun _ _ _ H _ I h => Constant_bool ⟨.bl b, H, I, rfl, h⟩
theorem pe_non {j pos} : PE X (.Constant .none j pos) (tC .non) := fun _ _ _ H _ I h => Constant_none ⟨.non, H, I, rfl, h⟩
def Gl (X : Cx) (x : Str) : Prop := X.env.kindOf x = some .globalImplicit
theorem ld_glob {E : Value → Shared → Prop} {pins : List (Addr × Obj)} {s : Shared} {σ : St} {H : Hp} {x : Str} {u : Value} {pos : Pos} {Q : Value → Shared → Prop} (I : Inv X pins σ H s) (hg : Gl X x) (hm : X.mg x = some u) (h : Q u s)
    (hd : (x == ("__debug__" : Str)) = false := by decide) : wpAny (model X.prog X.w) X.A (eval (.Name x pos) X.env) Q E s :=
  Calls.Name_function_global I.ok.kind hg (Calls.loadGlobal_global (by rw [I.ok.glob]; exact I.mod.glob.keeps I.bk) hm h) hd
theorem ld_blt {E : Value → Shared → Prop} {pins : List (Addr × Obj)} {s : Shared} {σ : St} {H : Hp} {x : Str} {u : Value} {pos : Pos} {Q : Value → Shared → Prop} (I : Inv X pins σ H s) (hg : Gl X x) (hm : X.mg x = none) (hv : bootBuiltins x = some u) (h : Q u s)
    (hn : x ≠ "__name__" := by decide) (hd : (x == ("__debug__" : Str)) = false := by decide) : wpAny (model X.prog X.w) X.A (eval (.Name x pos) X.env) Q E s := by
  obtain ⟨mb, h1, h2⟩ := I.mod.blt
  exact Calls.Name_function_global I.ok.kind hg (Calls.loadGlobal_builtin (by rw [I.ok.glob]; exact I.mod.glob.keeps I.bk) hm (by rw [I.ok.blt]; exact h1.keeps I.bk) ((h2 x hn).trans hv) h) hd
theorem pe_glob {x : Str} {v : V} {u : Value} {pos : Pos} (hg : Gl X x) (hm : X.mg x = some u) (r : RelV v u) (hd : (x == ("__debug__" : Str)) = false := by decide) : PE X (.Name x pos) (tC v) :=
  fun _ _ _ H _ I h => ld_glob I hg hm ⟨v, H, I, r, h⟩ hd
variable {a b : Expr} {ta tb : TE} {pos : Pos}
def PC (X : Cx) (op : CmpOp) (a b : Expr) (t : TE) : Prop :=
  ∀ (pins : List (Addr × Obj)) (s : Shared) (σ : St) (H : Hp) (Q : VK), Inv X pins σ H s → t σ H Q →
    wpAny (model X.prog X.w) X.A (eval a X.env) (fun v s₁ => wpAny (model X.prog X.w) X.A (eval b X.env) (fun u s₂ => wpAny (model X.prog X.w) X.A (compareOp op v u) (EP X pins σ Q) X.xe s₂) X.xe s₁) X.xe s
def tB (t : TE) : TT := fun σ H Q => t σ H fun x H1 => ∃ c, x = .bl c ∧ Q c H1
theorem pt_cmp {op : CmpOp} {t : TE} (h : PC X op a b t) (h1 : behindInMarks op b = false := by first | exact nobehind _ (by decide) (by decide) | rfl) : PT X (.Compare a [op] [b] pos) (tB t) := by
  intro pins s σ H Q I hw
  refine wpAny_isTrue_Compare1 (thn (h pins s σ H _ I hw) fun v s1 h1 => thn h1 fun u s2 h2 => thn h2 fun c s3 ⟨x, H1, I1, r1, q1⟩ => ?_) h1
  obtain ⟨d, rfl, q⟩ := q1
  cases r1
  exact wpAny_truthy_bool ⟨H1, I1, q⟩
theorem pt_val {e : Expr} {t : TE} (h : PE X e t) (he : ∀ whole, isTrue e X.env whole = (do let v ← whole; standAt e.pos; holding [v] (truthy v)) := by intro _; rfl) : PT X e (tB t) := by
  intro pins s σ H Q I hw
  refine isTrue_plain (thn (h pins s σ H _ I hw) fun v s1 ⟨x, H1, I1, r1, q1⟩ => ?_) (he _)
  obtain ⟨d, rfl, q⟩ := q1
  cases r1
  exact wpAny_truthy_bool ⟨H1, I1, q⟩
variable {tA tB' : TT} {rest : List Expr}
def tAnd (t u : TT) : TT := fun σ H Q => t σ H fun c H1 => if c = true then u σ H1 Q else Q false H1
def tOr (t u : TT) : TT := fun σ H Q => t σ H fun c H1 => if c = true then Q true H1 else u σ H1 Q
def tNot (t : TT) : TT := fun σ H Q => t σ H fun c H1 => Q (!c) H1
theorem pw_and1 (ha : PT X a tA) : PW X (.BoolOp .And [a] pos) tA := by
  intro wh pins s σ H Q I h
  refine isTrue_and (thn (ha pins s σ H Q I h) fun c s1 e => ?_)
  cases c with
  | true => exact isTrue_and_nil e
  | false => exact e
theorem pw_or1 (ha : PT X a tA) : PW X (.BoolOp .Or [a] pos) tA := by
  intro wh pins s σ H Q I h
  refine isTrue_or (thn (ha pins s σ H Q I h) fun c s1 e => ?_)
  cases c with
  | false => exact isTrue_or_nil e
  | true => exact e
theorem pw_and (ha : PT X a tA) (hb : PW X (.BoolOp .And (b :: rest) pos) tB') : PW X (.BoolOp .And (a :: b :: rest) pos) (tAnd tA tB') := by
  intro wh pins s σ H Q I h
  refine isTrue_and (thn (ha pins s σ H _ I h) fun c s1 ⟨H1, I1, q1⟩ => ?_)
  cases c with
  | true => exact hb wh pins s1 σ H1 Q I1 q1
  | false => exact ⟨H1, I1, q1⟩
theorem pw_or (ha : PT X a tA) (hb : PW X (.BoolOp .Or (b :: rest) pos) tB') : PW X (.BoolOp .Or (a :: b :: rest) pos) (tOr tA tB') := by
  intro wh pins s σ H Q I h
  refine isTrue_or (thn (ha pins s σ H _ I h) fun c s1 ⟨H1, I1, q1⟩ => ?_)
  cases c with
  | true => exact ⟨H1, I1, q1⟩
  | false => exact hb wh pins s1 σ H1 Q I1 q1
theorem pt_not (ha : PT X a tA) : PT X (.UnaryOp .Not a pos) (tNot tA) := by
  intro pins s σ H Q I h
  exact isTrue_not (ha pins s σ H (fun c H1 => Q (!c) H1) I h)
def tAndV (ta tb : TE) : TE := fun σ H Q => ta σ H fun x H1 => ∃ c, x = .bl c ∧ if c = true then tb σ H1 Q else Q (.bl false) H1
theorem pe_one {op} {t : TE} (h : PE X a t) : PE X (.BoolOp op [a] pos) t := fun pins s σ H Q I hw => BoolOp_one (h pins s σ H Q I hw)
theorem pe_and (ha : PE X a ta) (hb : PE X (.BoolOp .And (b :: rest) pos) tb) : PE X (.BoolOp .And (a :: b :: rest) pos) (tAndV ta tb) := by
  intro pins s σ H Q I h
  refine BoolOp_and (thn (ha pins s σ H _ I h) fun v s1 ⟨x, H1, I1, r1, q1⟩ => ?_)
  obtain ⟨c, rfl, q1⟩ := q1
  cases r1
  refine wpAny_truthy_bool ?_
  cases c with
  | true => exact hb pins s1 σ H1 Q I1 q1
  | false => exact ⟨.bl false, H1, I1, rfl, q1⟩
def tIf (t : TT) (ta tb : TE) : TE := fun σ H Q => t σ H fun c H1 => if c = true then ta σ H1 Q else tb σ H1 Q
theorem pe_ifExp {c : Expr} (hc : PT X c tA) (ha : PE X a ta) (hb : PE X b tb) : PE X (.IfExp c a b pos) (tIf tA ta tb) := by
  intro pins s σ H Q I h
  refine wpAny_IfExp (thn (hc pins s σ H _ I h) fun d s1 ⟨H1, I1, q1⟩ => ?_)
  cases d with
  | true => exact ha pins s1 σ H1 Q I1 q1
  | false => exact hb pins s1 σ H1 Q I1 q1
end
end L2
namespace L2
open PySem PySem.Spec PyProof.Rows
def SqL (K : PySem.W.Frag) (H : Hp) (a : Addr) (xs : List V) : Prop :=
  Rd H a (.lst xs) ∨
    ∃ (o : Obj) (its : Array Value) (n : Nat), K.lookup a = some o ∧ o.cls = .type "list" ∧ o.dict = none ∧ o.data = .seq its n ∧ its.size ≤ sizeLine ∧ Vals xs its.toList
def SqT (K : PySem.W.Frag) (H : Hp) (a : Addr) (xs : List V) : Prop :=
  Rd H a (.tup xs) ∨
    ∃ (o : Obj) (its : Array Value) (n : Nat), K.lookup a = some o ∧ o.cls = .type "tuple" ∧ o.data = .seq its n ∧ its.size ≤ sizeLine ∧ Vals xs its.toList
def absV : Value → Option V
  | .none => some .non
  | .bool b => some (.bl b)
  | .int i _ => some (.int i)
  | .str x _ => some (.str x)
  | .bytes b _ => some (.byt b)
  | .float b _ => some (.flt b)
  | .ref a => some (.ref a)
  | .type n => some (.ty n)
  | _ => none
theorem RelV.abs {x : V} {u : Value} (r : RelV x u) : absV u = some x := by
  cases x with
  | non => cases r; rfl
  | bl _ => cases r; rfl
  | int _ => obtain ⟨t, rfl⟩ := r; rfl
  | str _ => obtain ⟨t, rfl⟩ := r; rfl
  | byt _ => obtain ⟨t, rfl⟩ := r; rfl
  | flt _ => obtain ⟨t, rfl⟩ := r; rfl
  | ref _ => cases r; rfl
  | ty _ => cases r; rfl
theorem RelV.inj {x y : V} {u : Value} (r : RelV x u) (q : RelV y u) : x = y := Option.some.inj (r.abs.symm.trans q.abs)
theorem Vals.inj : ∀ {xs ys : List V} {us : List Value}, Vals xs us → Vals ys us → xs = ys
  | _, _, _, .nil, .nil => rfl
  | _, _, _, .cons r t, .cons r' t' => by rw [r.inj r', Vals.inj t t']
section
variable {X : Cx} {pins : List (Addr × Obj)} {σ : St} {H : Hp} {s : Shared} {a : Addr} {xs ys : List V}
theorem SqL.of {K : PySem.W.Frag} (h : H a = some (.lst xs)) : SqL K H a xs := .inl (.inl h)
theorem SqT.of {K : PySem.W.Frag} (h : H a = some (.tup xs)) : SqT K H a xs := .inl (.inl h)
theorem Inv.list (I : Inv X pins σ H s) (h : SqL X.K H a xs) : ∃ its : List Value, Vals xs its ∧ PlainL s.heap a its.toArray ∧ xs.length ≤ sizeLine := by
  rcases h with h | ⟨o, its, n, hk, hc, hd, hs, hz, r⟩
  · obtain ⟨z, its, n, r, e⟩ := h.ok I.hok
    exact ⟨its, r, ⟨_, n, e, rfl, rfl, rfl⟩, z⟩
  · refine ⟨its.toList, r, ⟨o, n, I.kIn a o hk, hc, hd, by simpa using hs⟩, ?_⟩
    have e := r.length
    simp only [Array.length_toList] at e
    omega
theorem Inv.tuple (I : Inv X pins σ H s) (h : SqT X.K H a xs) : ∃ its : List Value, Vals xs its ∧ IsTup s.heap a its.toArray ∧ xs.length ≤ sizeLine := by
  rcases h with h | ⟨o, its, n, hk, hc, hs, hz, r⟩
  · obtain ⟨z, its, r, p⟩ := h.ok I.hok
    exact ⟨its, r, p, z⟩
  · refine ⟨its.toList, r, ⟨o, I.kIn a o hk, hc, n, by simpa using hs⟩, ?_⟩
    have e := r.length
    simp only [Array.length_toList] at e
    omega
theorem Inv.list_inj (I : Inv X pins σ H s) (h : SqL X.K H a xs) (h' : SqL X.K H a ys) : xs = ys := by
  obtain ⟨its, r, ⟨o, n, e, _, _, d⟩, _⟩ := I.list h
  obtain ⟨its', r', ⟨o', n', e', _, _, d'⟩, _⟩ := I.list h'
  rw [e] at e'; cases e'
  rw [d] at d'
  injection d' with d1 _
  have : its = its' := by simpa using congrArg Array.toList d1
  subst this
  exact r.inj r'
end
abbrev Cx.wish (X : Cx) (E : Value → Shared → Prop) : Cx := { X with xe := E }
abbrev Cx.nox (X : Cx) : Cx := X.wish fun _ _ => False
theorem Cx.Ok.wish {X : Cx} (ok : X.Ok) (E : Value → Shared → Prop) : (X.wish E).Ok :=
  ⟨ok.mod, ok.kind, ok.glob, ok.blt, ok.above, ok.inj, ok.has, ok.cab, ok.hd, ok.frames, ok.stk, ok.exf, ok.bs, ok.bsz, ok.noex, ok.exfs, ok.funs, ok.frf⟩
theorem Cx.Ok.unwish {X : Cx} {E : Value → Shared → Prop} (ok : (X.wish E).Ok) : X.Ok :=
  ⟨ok.mod, ok.kind, ok.glob, ok.blt, ok.above, ok.inj, ok.has, ok.cab, ok.hd, ok.frames, ok.stk, ok.exf, ok.bs, ok.bsz, ok.noex, ok.exfs, ok.funs, ok.frf⟩
section
variable {X : Cx} {pins : List (Addr × Obj)} {σ : St} {H : Hp} {s : Shared} {E : Value → Shared → Prop}
theorem Inv.wish (I : Inv X pins σ H s) (E : Value → Shared → Prop) : Inv (X.wish E) pins σ H s := ⟨I.ok.wish E, I.os, I.bare, I.base, I.loc, I.cell, I.free, I.freeC, I.pin, I.hok, I.len⟩
theorem Inv.unwish (I : Inv (X.wish E) pins σ H s) : Inv X pins σ H s := ⟨I.ok.unwish, I.os, I.bare, I.base, I.loc, I.cell, I.free, I.freeC, I.pin, I.hok, I.len⟩
theorem SP.unwish {D : Ends} {f : Flow} {s' : Shared} (h : SP (X.wish E) pins D f s') : SP X pins D f s' := by
  cases f with
  | next => obtain ⟨σ', H', I, q⟩ := h; exact ⟨σ', H', I.unwish, q⟩
  | brk => obtain ⟨σ', H', I, q⟩ := h; exact ⟨σ', H', I.unwish, q⟩
  | cont => obtain ⟨σ', H', I, q⟩ := h; exact ⟨σ', H', I.unwish, q⟩
  | ret u => obtain ⟨v, σ', H', I, r, q⟩ := h; exact ⟨v, σ', H', I.unwish, r, q⟩
theorem PSs.nox {st : List Stmt} {t : TS} (h : PSs X.nox st t) : PSs X st t := fun pins s σ H D I hw =>
  wpAny_mono (h pins s σ H D (I.wish _) hw) (fun _ _ q => q.unwish) fun _ _ z => False.elim z
end
section
variable {X : Cx} {st : Stmt} {rest : List Stmt} {t u : TS} {e : Expr} {te : TE} {pos : Pos}
def tNext : TS := fun D σ H => D.nx σ H
def tSeq (t u : TS) : TS := fun D σ H => t { D with nx := u D } σ H
theorem pss_nil : PSs X [] tNext := fun _ _ σ H _ I h => wpAny_execs_nil ⟨σ, H, I, h⟩
theorem pss_cons (h1 : PS X st t) (h2 : PSs X rest u) : PSs X (st :: rest) (tSeq t u) := by
  intro pins s σ H D I h
  refine wpAny_execs_cons (thn (h1 pins s σ H { D with nx := u D } I h) fun f s1 q => ?_)
  cases f with
  | next =>
    obtain ⟨σ', H', I', q⟩ := q
    exact h2 pins s1 σ' H' D I' q
  | ret v => exact q
  | brk => exact q
  | cont => exact q
theorem pss_one (h1 : PS X st t) : PSs X [st] t := by
  intro pins s σ H D I h
  refine wpAny_execs_cons (thn (h1 pins s σ H D I h) fun f s1 q => ?_)
  cases f with
  | next => exact wpAny_execs_nil q
  | ret v => exact q
  | brk => exact q
  | cont => exact q
theorem Inv.quiet {pins : List (Addr × Obj)} {σ : St} {H : Hp} {s : Shared} (I : Inv X pins σ H s) : interactive X.env = false := by simp [interactive, I.ok.kind]
def tDrop (te : TE) : TS := fun D σ H => te σ H fun _ H1 => D.nx σ H1
theorem ps_expr (he : PE X e te) (hs : swapsWith e none pos.line X.env = pure false := by rfl) : PS X (.Expr e pos) (tDrop te) := by
  intro pins s σ H D I h
  exact wpAny_Expr_any (thn (he pins s σ H _ I h) fun v s1 ⟨x, H1, I1, r1, q1⟩ => ⟨σ, H1, I1, q1⟩) I.quiet hs
def tRet (te : TE) : TS := fun D σ H => te σ H D.rt
theorem ps_ret (he : PE X e te) : PS X (.Return (some e) pos) (tRet te) := by
  intro pins s σ H D I h
  exact wpAny_Return_some (thn (he pins s σ H _ I h) fun v s1 ⟨x, H1, I1, r1, q1⟩ => ⟨x, σ, H1, I1, r1, q1⟩)
def tRetN : TS := fun D _ H => D.rt .non H
theorem ps_retN : PS X (.Return none pos) tRetN := fun _ _ σ H _ I h => wpAny_Return_none ⟨.non, σ, H, I, rfl, h⟩
def tIfS (c : TT) (t u : TS) : TS := fun D σ H => c σ H fun b H1 => if b = true then t D σ H1 else u D σ H1
theorem ps_if {c : Expr} {a b : List Stmt} {tc : TT} (hc : PT X c tc) (ha : PSs X a t) (hb : PSs X b u) : PS X (.If c a b pos) (tIfS tc t u) := by
  intro pins s σ H D I h
  refine wpAny_If (thn (hc pins s σ H _ I h) fun d s1 ⟨H1, I1, q1⟩ => ?_)
  cases d with
  | true => exact ha pins s1 σ H1 D I1 q1
  | false => exact hb pins s1 σ H1 D I1 q1
end
abbrev TG := V → St → Hp → (St → Hp → Prop) → Prop
abbrev TGs := List V → St → Hp → (St → Hp → Prop) → Prop
def PG (X : Cx) (target : Expr) (t : TG) : Prop :=
  ∀ (pins : List (Addr × Obj)) (s : Shared) (σ : St) (H : Hp) (v : V) (u : Value) (Q : St → Hp → Prop), Inv X pins σ H s → RelV v u → t v σ H Q →
    wpAny (model X.prog X.w) X.A (assign target X.env u) (fun _ s' => ∃ σ' H', Inv X pins σ' H' s' ∧ Q σ' H') X.xe s
def PGs (X : Cx) (ts : List Expr) (t : TGs) : Prop :=
  ∀ (pins : List (Addr × Obj)) (s : Shared) (σ : St) (H : Hp) (vs : List V) (us : List Value) (Q : St → Hp → Prop), Inv X pins σ H s → Vals vs us → t vs σ H Q →
    wpAny (model X.prog X.w) X.A (assignInOrder ((assignEach ts X.env).map (·.2)) us) (fun _ s' => ∃ σ' H', Inv X pins σ' H' s' ∧ Q σ' H') X.xe s
abbrev TSet := V → V → V → Hp → (Hp → Prop) → Prop
def PSet (X : Cx) (t : TSet) : Prop :=
  ∀ (pins : List (Addr × Obj)) (s : Shared) (σ : St) (H : Hp) (o i v : V) (ov iv u : Value) (Q : Hp → Prop), Inv X pins σ H s → RelV o ov → RelV i iv → RelV v u → t o i v H Q →
    wpAny (model X.prog X.w) X.A (setItem ov iv u) (fun _ s' => ∃ H', Inv X pins σ H' s' ∧ Q H') X.xe s
abbrev TIp := V → V → Hp → VK → Prop
def PIp (X : Cx) (op : Operator) (t : TIp) : Prop :=
  ∀ (pins : List (Addr × Obj)) (s : Shared) (σ : St) (H : Hp) (x y : V) (v u : Value) (Q : VK), Inv X pins σ H s → RelV x v → RelV y u → t x y H Q →
    wpAny (model X.prog X.w) X.A (inplaceOp op v u) (EP X pins σ Q) X.xe s
section
variable {X : Cx} {pos : Pos}
def gName (i : Nat) : TG := fun v σ H Q => Q (σ.set i (some v)) H
theorem pg_name {i : Nat} {x : Str} (hN : X.N.Nodup) (hi : X.N[i]? = some x) (hx : Loc X.env.scope x) (hf : X.fn x = true ∨ X.env.scope.names.lookup x = some .local := by first | exact .inl rfl | exact .inr rfl | assumption) : PG X (.Name x pos) (gName i) := by
  intro pins s σ H v u Q I r h
  exact wpAny_assign_Name (store_ok I hN hi hx r (fun s' I' => ⟨_, H, I', h⟩) hf)
def gNil : TGs := fun vs σ H Q => vs = [] ∧ Q σ H
def gCons (t : TG) (u : TGs) : TGs := fun vs σ H Q => ∃ v r, vs = v :: r ∧ t v σ H fun σ' H' => u r σ' H' Q
theorem pgs_nil : PGs X [] gNil := by
  intro pins s σ H vs us Q I r h
  obtain ⟨e, h⟩ := h
  subst e
  cases r
  exact assignInOrder_nil ⟨σ, H, I, h⟩
theorem pgs_cons {e : Expr} {es : List Expr} {t : TG} {u : TGs} (h1 : PG X e t) (h2 : PGs X es u)
    (hs : (assignEach (e :: es) X.env).map (·.2) = assign e X.env :: (assignEach es X.env).map (·.2) := by rfl) : PGs X (e :: es) (gCons t u) := by
  intro pins s σ H vs us Q I r h
  obtain ⟨v, vr, e1, h⟩ := h
  subst e1
  cases r with
  | cons r rr =>
    rw [hs]
    refine assignInOrder_cons (thn (h1 pins s σ H _ _ _ I r h) fun _ s1 ⟨σ1, H1, I1, q1⟩ => ?_)
    exact h2 pins s1 σ1 H1 _ _ Q I1 rr q1
def gTup (K : PySem.W.Frag) (n : Nat) (t : TGs) : TG := fun v σ H Q => ∃ a xs, v = .ref a ∧ SqT K H a xs ∧ xs.length = n ∧ t xs σ H Q
theorem pg_tup {es : List Expr} {k : Nat} {t : TGs} {n : Nat} (hc : X.calm = true) (h : PGs X es t)
    (hn : (assignEach es X.env).length = n := by rfl) (hst : (assignEach es X.env).findIdx? (·.1) = none := by rfl) : PG X (.Tuple es k pos) (gTup X.K n t) := by
  intro pins s σ H v u Q I r hw
  obtain ⟨a, xs, e1, hq, hl, hw⟩ := hw
  subst e1
  cases r
  obtain ⟨its, rv, ht, hz⟩ := I.tuple hq
  refine assign_Tuple_tuple (I.ok.hd hc) ht (by simp [hn, ← hl, rv.length]) hst fun h' hx => ?_
  have I1 : Inv X pins σ H { s with heap := h' } := I.kept (t' := s.toks) fun b o e => hx b o (Nat.ne_of_lt (Heap.lt_size e)) e
  exact h pins _ σ H xs _ Q I1 (by simpa using rv) hw
def gSub (to ti : TE) (t : TSet) : TG := fun v σ H Q => to σ H fun o H1 => ti σ H1 fun i H2 => t o i v H2 fun H3 => Q σ H3
theorem pg_sub {o i : Expr} {to ti : TE} {t : TSet} (ho : PE X o to) (hi : PE X i ti) (hs : PSet X t)
    (ha : ∀ v, assign (.Subscript o i pos) X.env v = (do
      let ov ← holding [v] (eval o X.env)
      let iv ← holding [v, ov] (eval i X.env)
      standAt pos
      holding [v, ov, iv] (setItem ov iv v)
      release [v, ov, iv] []) := by intro _; rfl) : PG X (.Subscript o i pos) (gSub to ti t) := by
  intro pins s σ H v u Q I r h
  rw [ha]
  refine wpAny_bind (wpAny_holding (thn (ho pins s σ H _ I h) fun ov s1 ⟨x, H1, I1, r1, q1⟩ => ?_))
  refine wpAny_bind (wpAny_holding (thn (hi pins s1 σ H1 _ I1 q1) fun iv s2 ⟨y, H2, I2, r2, q2⟩ => ?_))
  refine wpAny_bind (wpAny_standAt (wpAny_bind (wpAny_holding (thn (hs pins s2 σ H2 x y v ov iv u _ I2 r1 r2 r q2) fun _ s3 ⟨H3, I3, q3⟩ => ?_))))
  exact wpAny_release ⟨σ, H3, I3, q3⟩
def tAsg (te : TE) (g : TG) : TS := fun D σ H => te σ H fun x H1 => g x σ H1 D.nx
theorem ps_asg {tg e : Expr} {te : TE} {g : TG} (he : PE X e te) (hg : PG X tg g) (hs : swapsWithSole [tg] e pos.line X.env = pure false := by rfl) (hw : swappedStores [tg] e X.env = pure none := by rfl)
    (h1 : (assignEach [tg] X.env).map (·.2) = [assign tg X.env] := by rfl) : PS X (.Assign [tg] e pos) (tAsg te g) := by
  intro pins s σ H D I h
  refine wpAny_Assign_stores (thn (he pins s σ H _ I h) fun v s1 ⟨x, H1, I1, r1, q1⟩ => ?_) hs hw
  rw [h1]
  exact thn (hg pins s1 σ H1 x v _ I1 r1 q1) fun _ s2 q => q
theorem ps_set {i : Nat} {x : Str} {e : Expr} {te : TE} {pos' : Pos} (hN : X.N.Nodup) (hi : X.N[i]? = some x) (hx : Loc X.env.scope x) (he : PE X e te) (hs : swapsWith e (some (.Name x pos')) pos.line X.env = pure false := by rfl) (hf : X.fn x = true ∨ X.env.scope.names.lookup x = some .local := by first | exact .inl rfl | exact .inr rfl | assumption) :
    PS X (.Assign [.Name x pos'] e pos) (tAsg te (gName i)) := by
  intro pins s σ H D I h
  refine wpAny_Assign_Name (thn (he pins s σ H _ I h) fun v s1 ⟨y, H1, I1, r1, q1⟩ => ?_) hs
  exact store_ok I1 hN hi hx r1 (fun s2 I2 => ⟨_, H1, I2, q1⟩) hf
def tAug (i : Nat) (te : TE) (ti : TIp) : TS := fun D σ H => ∃ x, σ[i]? = some (some x) ∧ te σ H fun y H1 => ti x y H1 fun z H2 => D.nx (σ.set i (some z)) H2
theorem ps_aug {i : Nat} {x : Str} {e : Expr} {te : TE} {op : Operator} {ti : TIp} {pos' : Pos} (hN : X.N.Nodup) (hi : X.N[i]? = some x) (hx : Loc X.env.scope x) (he : PE X e te) (ho : PIp X op ti) (hf : X.fn x = true ∨ X.env.scope.names.lookup x = some .local := by first | exact .inl rfl | exact .inr rfl | assumption) :
    PS X (.AugAssign (.Name x pos') op e pos) (tAug i te ti) := by
  intro pins s σ H D I h
  obtain ⟨v, e1, h⟩ := h
  obtain ⟨m, hn, hl⟩ := I.loc
  have vis : Vis X.env.scope x := by rcases hx with k | k; exact .inl k; exact .inr (.inl k)
  obtain ⟨u, r, l⟩ := hl i x v hi e1 vis
  refine wpAny_AugAssign_Name ?_
  have go : wpAny (model X.prog X.w) X.A (eval e X.env) (fun w s₂ => wpAny (model X.prog X.w) X.A (inplaceOp op u w) (fun r s₃ => wpAny (model X.prog X.w) X.A (storeName X.env x r) (fun _ => SP X pins D .next) X.xe s₃) X.xe s₂) X.xe s := by
    refine thn (he pins s σ H _ I h) fun w s1 ⟨y, H1, I1, r1, q1⟩ => ?_
    refine thn (ho pins s1 σ H1 v y u w _ I1 r r1 q1) fun z s2 ⟨zv, H2, I2, r2, q2⟩ => ?_
    exact store_ok I2 hN hi hx r2 (fun s3 I3 => ⟨_, H2, I3, q2⟩) hf
  rcases l with ⟨hk, hm⟩ | ⟨hk, c, hc, hcell⟩
  · exact wpAny_loadName_local I.ok.kind hk hn hm go
  · rcases hk with hk | hk
    · exact wpAny_loadName_cell I.ok.kind hk hc hcell go
    · rcases hx with k | k
      · have : X.env.scope.names.lookup x = some .free := hk
        rw [k] at this; cases this
      · have : X.env.scope.names.lookup x = some .free := hk
        rw [k] at this; cases this
def tAugS (to ti te : TE) (tget : V → V → Hp → VK → Prop) (tip : TIp) (tset : TSet) : TS := fun D σ H => to σ H fun o H1 => ti σ H1 fun i H2 => tget o i H2 fun x H3 => te σ H3 fun y H4 => tip x y H4 fun z H5 => tset o i z H5 fun H6 => D.nx σ H6
def PGet (X : Cx) (t : V → V → Hp → VK → Prop) : Prop :=
  ∀ (pins : List (Addr × Obj)) (s : Shared) (σ : St) (H : Hp) (o i : V) (ov iv : Value) (Q : VK), Inv X pins σ H s → RelV o ov → RelV i iv → t o i H Q →
    wpAny (model X.prog X.w) X.A (getItem ov iv) (EP X pins σ Q) X.xe s
theorem ps_augS {o i e : Expr} {to ti te : TE} {tget : V → V → Hp → VK → Prop} {tip : TIp} {tset : TSet} {op : Operator} {tpos : Pos} (ho : PE X o to) (hi : PE X i ti) (hg : PGet X tget) (he : PE X e te) (hp : PIp X op tip) (hs : PSet X tset)
    (ha : ∀ ov iv new, augStore i ov iv new = (do holding [new, ov, iv] (setItem ov iv new); release [new, ov, iv] []; pure .next) := by intros; rfl) : PS X (.AugAssign (.Subscript o i tpos) op e pos) (tAugS to ti te tget tip tset) := by
  intro pins s σ H D I h
  refine wpAny_AugAssign_SubscriptAny (thn (ho pins s σ H _ I h) fun ov s1 ⟨x1, H1, I1, r1, q1⟩ => ?_) ha
  refine thn (hi pins s1 σ H1 _ I1 q1) fun iv s2 ⟨x2, H2, I2, r2, q2⟩ => ?_
  refine thn (hg pins s2 σ H2 x1 x2 ov iv _ I2 r1 r2 q2) fun old s3 ⟨x3, H3, I3, r3, q3⟩ => ?_
  refine thn (he pins s3 σ H3 _ I3 q3) fun v s4 ⟨x4, H4, I4, r4, q4⟩ => ?_
  refine thn (hp pins s4 σ H4 x3 x4 old v _ I4 r3 r4 q4) fun new s5 ⟨x5, H5, I5, r5, q5⟩ => ?_
  exact thn (hs pins s5 σ H5 x1 x2 x5 ov iv new _ I5 r1 r2 r5 q5) fun _ s6 ⟨H6, I6, q6⟩ => ⟨σ, H6, I6, q6⟩
def ipI (f : Int → Int → Int) : TIp := fun x y H Q => ∃ i j, x = .int i ∧ y = .int j ∧ Q (.int (f i j)) H
theorem ip_add : PIp X .Add (ipI fun i j => i + j) := by
  intro pins s σ H x y v u Q I r1 r2 h
  obtain ⟨i, j, e1, e2, q⟩ := h
  subst e1; subst e2
  obtain ⟨t, rfl⟩ := r1
  obtain ⟨t', rfl⟩ := r2
  exact iadd_int ⟨.int _, H, I.tok _, ⟨_, rfl⟩, q⟩
end
section
variable {X : Cx} {pos : Pos}
def tWhile (c : TT) (tb : TS) : TS := fun D σ H => ∃ W : Nat → St → Hp → Prop, (∃ m, W m σ H) ∧ ∀ m σ H, W m σ H →
  c σ H fun b H1 => if b = true then ∃ N : St → Hp → Prop, (∀ σ' H', N σ' H' → ∃ m', m' < m ∧ W m' σ' H') ∧ tb { D with nx := N, ct := N, bk := D.nx } σ H1 else D.nx σ H1
theorem ps_while {c : Expr} {body : List Stmt} {tc : TT} {tb : TS} (hp : PassesOwn (model X.prog X.w) X.A X.env X.xe) (hc : PT X c tc) (hb : PSs X body tb) : PS X (.While c body [] pos) (tWhile tc tb) := by
  intro pins s σ H D I h
  obtain ⟨W, ⟨m0, w0⟩, turn⟩ := h
  refine wpAny_While (codeAny_whileLoop (fun n s' => ∃ σ' H', Inv X pins σ' H' s' ∧ W n σ' H') ?_ m0 ⟨σ, H, I, w0⟩)
  rintro n s1 ⟨σ1, H1, I1, w1⟩
  refine wpAny_passesOwn hp (thn (hc pins s1 σ1 H1 _ I1 (turn n σ1 H1 w1)) fun b s2 ⟨H2, I2, q2⟩ => ?_)
  cases b with
  | true =>
    obtain ⟨N, hN, q2⟩ := q2
    rw [if_pos rfl]
    refine wpAny_passesOwn hp (thn (hb pins s2 σ1 H2 _ I2 q2) fun f s3 q3 => ?_)
    cases f with
    | next =>
      obtain ⟨σ3, H3, I3, n3⟩ := q3
      obtain ⟨m', hm, w3⟩ := hN σ3 H3 n3
      exact ⟨m', hm, σ3, H3, I3, w3⟩
    | cont =>
      obtain ⟨σ3, H3, I3, n3⟩ := q3
      obtain ⟨m', hm, w3⟩ := hN σ3 H3 n3
      exact ⟨m', hm, σ3, H3, I3, w3⟩
    | brk => exact q3
    | ret v => exact q3
  | false =>
    rw [if_neg Bool.false_ne_true]
    exact wpAny_execs_nil ⟨σ1, H2, I2, q2⟩
end
structure It where
  go : Nat → Hp → Prop
  yld : Nat → Hp → V → Hp → Prop
  stop : Nat → Hp → Prop
def FpOk (X : Cx) (pins : List (Addr × Obj)) (H : Hp) (b : Addr) : Prop :=
  H b = none ∧ b ≠ X.env.locals ∧ b ∉ X.fs ∧ (b ∈ X.ex ∨ X.s_0.heap.objs.size ≤ b) ∧ (∀ x c, X.env.cells.lookup x = some c → c ≠ b) ∧ ∀ p ∈ X.pn ++ pins, p.1 ≠ b
theorem Inv.fpOk {X : Cx} {pins : List (Addr × Obj)} {σ : St} {H H' : Hp} {s : Shared} {b : Addr} (I : Inv X pins σ H s) (hb : s.heap.objs.size ≤ b) (hn : H' b = none) : FpOk X pins H' b := by
  refine ⟨hn, Nat.ne_of_gt (Nat.lt_of_lt_of_le I.lt hb), I.nofs hb, .inr (Nat.le_trans I.sz hb), fun x c e z => ?_, fun p hp z => ?_⟩
  · obtain ⟨v, q⟩ := I.cell x c e
    exact absurd (Nat.lt_of_lt_of_le q.lt (by rw [z]; exact hb)) (Nat.lt_irrefl _)
  · exact absurd (Nat.lt_of_lt_of_le (Heap.lt_size (I.pin p hp).1) (by rw [z]; exact hb)) (Nat.lt_irrefl _)
structure Turn (P : Program) (w : World) (K : PySem.W.Frag) (tg : Expr) (J : It) (fp : List Addr) (it : Addr) (tn : Nat → Heap → Prop) : Prop where
  mem : it ∈ fp
  obj : ∀ i h, tn i h → ∀ b ∈ fp, ∃ o, h.get? b = some o ∧ ∀ v, o.data ≠ .cell v
  keep : ∀ i h h', tn i h → (∀ b ∈ fp, ∀ o, h.get? b = some o → h'.get? b = some o) → tn i h'
  item : ∀ (X : Cx), X.prog = P → X.w = w → X.K = K → X.calm = true → ∀ (i : Nat) (pins : List (Addr × Obj)) (s : Shared) (σ : St) (H : Hp) (E : Value → Shared → Prop), Inv X pins σ H s → (∀ b ∈ fp, FpOk X pins H b) → tn i s.heap → J.go i H →
    wpAny (model P w) X.A (pyNext (.ref it)) (fun r s1 => ∃ u, r = some u ∧
      wpAny (model P w) X.A (letOwnedTupleGo tg (.ref it) u) (fun _ s2 => ∃ x H', Inv X pins σ H' s2 ∧ RelV x u ∧ J.yld i H x H' ∧ tn (i + 1) s2.heap ∧ ∀ b ∈ fp, H' b = none) E s1) E s
  done : ∀ (X : Cx), X.prog = P → X.w = w → X.K = K → X.calm = true → ∀ (i : Nat) (pins : List (Addr × Obj)) (s : Shared) (σ : St) (H : Hp) (E : Value → Shared → Prop), Inv X pins σ H s → (∀ b ∈ fp, FpOk X pins H b) → tn i s.heap → J.stop i H →
    wpAny (model P w) X.A (pyNext (.ref it)) (fun r s1 => r = none ∧ Inv X pins σ H s1) E s
  self : ∀ (A : Around) (i : Nat) (s : Shared) (Q : Value → Shared → Prop) (E : Value → Shared → Prop), tn i s.heap → Q (.ref it) s → wpAny (model P w) A (pyIter (.ref it)) Q E s
abbrev TI := St → Hp → (It → Hp → Prop) → Prop
def PIE (X : Cx) (pins : List (Addr × Obj)) (σ : St) (tg : Expr) (R : It → Hp → Prop) (itv : Value) (s2 : Shared) : Prop :=
  ∃ (it : Addr) (fp : List Addr) (tn : Nat → Heap → Prop) (J : It) (H' : Hp), itv = .ref it ∧ Inv X pins σ H' s2 ∧ Turn X.prog X.w X.K tg J fp it tn ∧ tn 0 s2.heap ∧ (∀ b ∈ fp, FpOk X pins H' b) ∧ R J H'
def PI (X : Cx) (tg iter : Expr) (wi : TI) : Prop :=
  ∀ (pins : List (Addr × Obj)) (s : Shared) (σ : St) (H : Hp) (R : It → Hp → Prop), Inv X pins σ H s → wi σ H R →
    wpAny (model X.prog X.w) X.A (eval iter X.env) (fun v s1 => wpAny (model X.prog X.w) X.A (pyIter v) (PIE X pins σ tg R) X.xe s1) X.xe s
theorem go_of {M : Model} {A : Around} {E : Value → Shared → Prop} {s : Shared} {tg : Expr} {it : Addr} {u : Value} {o : Obj} {n : String} {vs : Array Value} {Q : Unit → Shared → Prop} (ho : s.heap.get? it = some o) (hc : o.cls = .type n) (hd : o.data = .fields vs)
    (hn : ["enumerate", "zip", "dict_itemiterator", "dict_reverseitemiterator", "odict_iterator", "itertools.zip_longest", "itertools.pairwise"].contains n = false) (hQ : Q () s) : wpAny M A (letOwnedTupleGo tg (.ref it) u) Q E s := by
  unfold letOwnedTupleGo
  cases tg <;> first
    | exact wpAny_pure hQ
    | (cases u <;> first
        | exact wpAny_pure hQ
        | (refine wpAny_bind (wpAny_load ho ?_)
           rw [hc, hd]
           show wpAny M A (if (["enumerate", "zip", "dict_itemiterator", "dict_reverseitemiterator", "odict_iterator", "itertools.zip_longest", "itertools.pairwise"].contains n && vs[0]? == some (rawInt _)) = true then _ else _) Q E s
           rw [if_neg (by intro h; rw [hn, Bool.false_and] at h; cases h)]
           exact wpAny_pure hQ))
def Itl (K : PySem.W.Frag) (a : Addr) : It :=
  ⟨fun i H => ∃ xs x, SqL K H a xs ∧ xs[i]? = some x, fun i H x H' => H' = H ∧ ∀ xs, SqL K H a xs → xs[i]? = some x, fun i H => ∃ xs, SqL K H a xs ∧ xs.length ≤ i⟩
def Itr (lo : Int) (n : Nat) : It := ⟨fun i _ => i < n, fun i H x H' => H' = H ∧ x = .int (lo + i), fun i _ => n ≤ i⟩
theorem turn_list {P : Program} {w : World} {K : PySem.W.Frag} {tg : Expr} (a it : Addr) : Turn P w K tg (Itl K a) [it] it (fun i h => h.IsListIter it a i) where
  mem := by simp
  obj := fun i h st b hb => by
    have e : b = it := by simpa using hb
    subst e
    obtain ⟨o, e, c, d⟩ := st
    exact ⟨o, e, fun v z => by rw [d] at z; cases z⟩
  keep := fun i h h' st k => st.at fun o e => k it (by simp) o e
  item := by
    intro X hP hw hK hc i pins s σ H E I hf st hg
    subst hP hw hK
    obtain ⟨xs, x, hq, hx⟩ := hg
    obtain ⟨its, rv, p, hz⟩ := I.list hq
    obtain ⟨u, hu, ru⟩ := rv.get hx
    obtain ⟨f0, f1, f2, f3, f4, f5⟩ := hf it (by simp)
    refine wpAny_pyNext_list_item st p.isList (x := u) (by simpa using hu) fun h' st' sb => ?_
    have I1 : Inv X pins σ H { s with heap := h' } := I.turned (t' := s.toks) (fun b o hb e => (sb.2 b hb).trans e) f0 f1 f3 f4 f5
    obtain ⟨o, e, c, d⟩ := id st'
    exact ⟨u, rfl, go_of (s := { s with heap := h' }) e c d (by decide) ⟨x, H, I1, ru, ⟨rfl, fun ys hy => by rw [I.list_inj hy hq]; exact hx⟩, st', fun b hb => (hf b hb).1⟩⟩
  done := by
    intro X hP hw hK hc i pins s σ H E I hf st hg
    subst hP hw hK
    obtain ⟨xs, hq, hx⟩ := hg
    obtain ⟨its, rv, p, hz⟩ := I.list hq
    obtain ⟨f0, f1, f2, f3, f4, f5⟩ := hf it (by simp)
    have hl := rv.length
    exact wpAny_pyNext_list_end (I.ok.hd hc) st p.isList (by simp; omega) fun h' eb => ⟨rfl, I.turned (t' := s.toks) (fun b o hb e => eb b o hb e) f0 f1 f3 f4 f5⟩
  self := fun _ _ _ _ _ st h => wpAny_pyIter_listiter st h
theorem turn_range {P : Program} {w : World} {K : PySem.W.Frag} {tg : Expr} (it : Addr) (lo : Int) (n : Nat) : Turn P w K tg (Itr lo n) [it] it (fun i h => IsRangeIter h it (lo + (i : Nat) * 1) ((n : Int) - (i : Nat)) 1) where
  mem := by simp
  obj := fun i h st b hb => by
    have e : b = it := by simpa using hb
    subst e
    exact ⟨_, st, fun v z => by
      have z' : Data.fields _ = Data.cell v := z
      cases z'⟩
  keep := fun i h h' st k => k it (by simp) _ st
  item := by
    intro X hP hw hK hc i pins s σ H E I hf st hg
    subst hP hw hK
    obtain ⟨f0, f1, f2, f3, f4, f5⟩ := hf it (by simp)
    have W := Walks.range (prog := X.prog) (w := X.w) (I.ok.hd hc) it lo 1 n
    refine W.item i s _ _ hg st fun v h' tk hv st' kk => ?_
    obtain ⟨t, rfl⟩ := hv
    have I1 : Inv X pins σ H { s with heap := h', toks := tk } := I.turned (fun b o hb e => kk b o (by simpa using hb) e) f0 f1 f3 f4 f5
    refine ⟨_, rfl, go_of (s := { s with heap := h', toks := tk }) (n := "range_iterator") st' rfl rfl (by decide) ⟨.int (lo + i), H, I1, ⟨t, ?_⟩, ⟨rfl, rfl⟩, st', fun b hb => (hf b hb).1⟩⟩
    rw [Int.mul_one]
  done := by
    intro X hP hw hK hc i pins s σ H E I hf st hg
    subst hP hw hK
    obtain ⟨f0, f1, f2, f3, f4, f5⟩ := hf it (by simp)
    exact wpAny_pyNext_range_end (I.ok.hd hc) st (by have : n ≤ i := hg; omega) fun h' eb => ⟨rfl, I.turned (t' := s.toks) (fun b o hb e => eb b o hb e) f0 f1 f3 f4 f5⟩
  self := fun _ _ _ _ _ st h => wpAny_pyIter_rangeiter st h
end L2
namespace L2
open PySem PySem.Spec PyProof.Rows
section
variable {X : Cx} {tg : Expr}
def iList (K : PySem.W.Frag) (tl : TE) : TI := fun σ H R => tl σ H fun x H1 => ∃ a, x = .ref a ∧ (∃ xs, SqL K H1 a xs) ∧ R (Itl K a) H1
theorem pi_list {l : Expr} {tl : TE} (hl : PE X l tl) : PI X tg l (iList X.K tl) := by
  intro pins s σ H R I h
  refine thn (hl pins s σ H _ I h) fun v s1 ⟨x, H1, I1, r1, q1⟩ => ?_
  obtain ⟨a, e, ⟨xs, hq⟩, q⟩ := q1
  subst e
  cases r1
  obtain ⟨its, rv, p, hz⟩ := I1.list hq
  refine wpAny_pyIter_list p.isList ?_
  refine ⟨s1.heap.objs.size, [s1.heap.objs.size], _, _, H1, rfl, I1.kept (t' := s1.toks) fun b o e => Heap.get?_push_of_some _ e, turn_list a _, ⟨_, Heap.get?_push_size _ rfl, rfl, rfl⟩, fun b hb => ?_, q⟩
  have e : b = s1.heap.objs.size := by simpa using hb
  subst e
  exact I1.fpOk (Nat.le_refl _) (I1.hok.fresh (Nat.le_refl _))
theorem range_it {pins : List (Addr × Obj)} {σ : St} {H : Hp} {s : Shared} {R : It → Hp → Prop} {E : Value → Shared → Prop} {lo hi : Int} {t u v : Tok} {tk : Nat} (I : Inv X pins σ H s) (h1 : -(2 ^ 62) ≤ lo) (h2 : lo < 2 ^ 62) (h3 : -(2 ^ 62) ≤ hi) (h4 : hi < 2 ^ 62)
    (q : R (Itr lo (hi - lo).toNat) H) : wpAny (model X.prog X.w) X.A (pyIter (.ref s.heap.objs.size)) (PIE X pins σ tg R) E { s with heap := s.heap.push { cls := .type "range", data := .fields #[.int lo t, .int hi u, .int 1 v] }, toks := tk } := by
  refine wpAny_pyIter_range (IsRange.new ..) (small_one h1 h2 h3 h4) ?_
  have I1 : Inv X pins σ H { s with heap := s.heap.push { cls := .type "range", data := .fields #[.int lo t, .int hi u, .int 1 v] }, toks := tk } := I.kept fun b o e => Heap.get?_push_of_some _ e
  refine ⟨(s.heap.push { cls := .type "range", data := .fields #[.int lo t, .int hi u, .int 1 v] }).objs.size, [(s.heap.push { cls := .type "range", data := .fields #[.int lo t, .int hi u, .int 1 v] }).objs.size], _, _, H, rfl,
    I1.kept (t' := tk) fun b o e => Heap.get?_push_of_some _ e, turn_range _ lo (hi - lo).toNat, ?_, fun b hb => ?_, q⟩
  · have e1 : lo + ((0 : Nat) : Int) * 1 = lo := by simp
    have e2 : (((hi - lo).toNat : Nat) : Int) - ((0 : Nat) : Int) = Builtin.Range.rangeSize lo hi 1 := by rw [rangeSize_one]; split <;> omega
    show IsRangeIter _ _ (lo + ((0 : Nat) : Int) * 1) ((((hi - lo).toNat : Nat) : Int) - ((0 : Nat) : Int)) 1
    rw [e1, e2]
    exact Heap.get?_push_size _ rfl
  · have e : b = (s.heap.push { cls := .type "range", data := .fields #[.int lo t, .int hi u, .int 1 v] }).objs.size := by simpa using hb
    subst e
    exact I1.fpOk (Nat.le_refl _) (I1.hok.fresh (Nat.le_refl _))
def iRng1 (ta : TA) : TI := fun σ H R => ta σ H fun vs H1 => ∃ j : Int, vs = [.int j] ∧ -(2 ^ 62) ≤ j ∧ j < 2 ^ 62 ∧ R (Itr 0 j.toNat) H1
def iRng2 (ta : TA) : TI := fun σ H R => ta σ H fun vs H1 => ∃ i j : Int, vs = [.int i, .int j] ∧ (-(2 ^ 62) ≤ i ∧ i < 2 ^ 62 ∧ -(2 ^ 62) ≤ j ∧ j < 2 ^ 62) ∧ R (Itr i (j - i).toNat) H1
theorem pi_range1 {a : Expr} {ta : TA} {p pos : Pos} (hg : Gl X "range") (hm : X.mg "range" = none) (ha : PA X [a] ta) (hs : starEach [a] X.env = [(false, eval a X.env)] := by rfl) : PI X tg (.Call (.Name "range" p) [a] [] pos) (iRng1 ta) := by
  intro pins s σ H R I h
  refine Call_ (ld_blt I hg hm boot_range (PyProof.Rows.callWith_type1 (thn (ha pos pins s σ H _ I h) fun us s1 ⟨vs, H1, I1, r1, q1⟩ => ?_) hs rfl))
  obtain ⟨j, e, q1, q2, q⟩ := q1
  subst e
  cases r1 with
  | cons r rr =>
    cases rr
    obtain ⟨t, rfl⟩ := r
    exact call_range_1 (range_it I1 (by omega) (by omega) q1 q2 (by simpa using q))
theorem pi_range2 {a b : Expr} {ta : TA} {p pos : Pos} (hg : Gl X "range") (hm : X.mg "range" = none) (ha : PA X [a, b] ta) (hs : starEach [a, b] X.env = [(false, eval a X.env), (false, eval b X.env)] := by rfl) (hs2 : starEach [b] X.env = [(false, eval b X.env)] := by rfl) :
    PI X tg (.Call (.Name "range" p) [a, b] [] pos) (iRng2 ta) := by
  intro pins s σ H R I h
  refine Call_ (ld_blt I hg hm boot_range (PyProof.Rows.callWith_type1 (thn (ha pos pins s σ H _ I h) fun us s1 ⟨vs, H1, I1, r1, q1⟩ => ?_) (by rw [hs, hs2]) (by rw [hs2]; rfl)))
  obtain ⟨i, j, e, ⟨q1, q2, q3, q4⟩, q⟩ := q1
  subst e
  cases r1 with
  | cons r rr =>
    cases rr with
    | cons r' rr =>
      cases rr
      obtain ⟨t, rfl⟩ := r
      obtain ⟨t', rfl⟩ := r'
      exact call_range_2 (range_it I1 q1 q2 q3 q4 q)
def tFor (wi : TI) (g : TG) (tb : TS) : TS := fun D σ H => wi σ H fun J H1 => ∃ W : Nat → Nat → St → Hp → Prop, (∃ m, W 0 m σ H1) ∧ ∀ i m σ H, W i m σ H →
  (J.stop i H ∧ D.nx σ H) ∨ (J.go i H ∧ ∃ N : St → Hp → Prop, (∀ σ' H', N σ' H' → ∃ m', m' < m ∧ W (i + 1) m' σ' H') ∧ ∀ x H', J.yld i H x H' → g x σ H' fun σ2 H2 => tb { D with nx := N, ct := N, bk := D.nx } σ2 H2)
def pinsAt (fp : List Addr) (h : Heap) : List (Addr × Obj) := fp.filterMap fun b => (h.get? b).map fun o => (b, o)
theorem mem_pinsAt {fp : List Addr} {h : Heap} {b : Addr} {o : Obj} (hb : b ∈ fp) (e : h.get? b = some o) : (b, o) ∈ pinsAt fp h := List.mem_filterMap.mpr ⟨b, hb, by rw [e]; rfl⟩
theorem of_pinsAt {fp : List Addr} {h : Heap} {p : Addr × Obj} (hp : p ∈ pinsAt fp h) : p.1 ∈ fp ∧ h.get? p.1 = some p.2 := by
  obtain ⟨b, hb, e⟩ := List.mem_filterMap.mp hp
  cases q : h.get? b with
  | none => rw [q] at e; cases e
  | some o =>
    rw [q] at e
    have e' : (b, o) = p := Option.some.inj e
    subst e'
    exact ⟨hb, q⟩
theorem Inv.pinned {pins : List (Addr × Obj)} {σ : St} {H : Hp} {s : Shared} {fp : List Addr} (I : Inv X pins σ H s) (hf : ∀ b ∈ fp, FpOk X pins H b) (ho : ∀ b ∈ fp, ∃ o, s.heap.get? b = some o ∧ ∀ v, o.data ≠ .cell v) : Inv X (pins ++ pinsAt fp s.heap) σ H s :=
  I.pins_of fun p hp => (List.mem_append.mp hp).elim (fun z => I.pin p (List.mem_append_right _ z)) fun z => by
    obtain ⟨hb, e⟩ := of_pinsAt z
    obtain ⟨f0, f1, f2, _⟩ := hf p.1 hb
    obtain ⟨o, e', d⟩ := ho p.1 hb
    rw [e] at e'; cases e'
    exact ⟨e, f0, f1, f2, d⟩
theorem Inv.unpinned {pins pl : List (Addr × Obj)} {σ : St} {H : Hp} {s : Shared} (I : Inv X (pins ++ pl) σ H s) : Inv X pins σ H s := I.pins_of fun p hp => I.pin p (List.mem_append_right _ (List.mem_append_left _ hp))
theorem ps_for {iter : Expr} {body : List Stmt} {wi : TI} {g : TG} {tb : TS} {pos : Pos} (hp : PassesOwn (model X.prog X.w) X.A X.env X.xe) (hc : X.calm = true) (hi : PI X tg iter wi) (hg : PG X tg g) (hb : PSs X body tb)
    (hs : ∀ x, foldedSetIterable iter X.env x = pure x := by intro _; rfl) : PS X (.For tg iter body [] pos) (tFor wi g tb) := by
  intro pins s σ H D I h
  refine wpAny_For (thn (hi pins s σ H _ I h) fun v s1 h1 => thn h1 fun itv s2 h2 => ?_) hs
  obtain ⟨it, fp, tn, J, H2, e, I2, T, st2, f2, W, ⟨m0, w0⟩, turn⟩ := h2
  subst e
  -- what stays true of the iterator's objects through the loop
  have stat : ∀ {H' : Hp}, (∀ b ∈ fp, H' b = none) → ∀ b ∈ fp, FpOk X pins H' b := fun hn b hb => ⟨hn b hb, (f2 b hb).2⟩
  refine codeAny_forLoop_any (fun n s' => ∃ i σ' H', Inv X pins σ' H' s' ∧ tn i s'.heap ∧ (∀ b ∈ fp, H' b = none) ∧ W i n σ' H') ?_ m0 ⟨0, σ, H2, I2, st2, fun b hb => (f2 b hb).1, w0⟩
  rintro n s3 ⟨i, σ3, H3, I3, st3, fr3, w3⟩
  rcases turn i n σ3 H3 w3 with ⟨stop, qn⟩ | ⟨go, N, hN, step⟩
  · refine wpAny_passesOwn hp (thn (T.done X rfl rfl rfl hc i pins s3 σ3 H3 X.xe I3 (stat fr3) st3 stop) fun r s4 ⟨hr, I4⟩ => ?_)
    subst hr
    exact wpAny_execs_nil ⟨σ3, H3, I4, qn⟩
  · refine wpAny_passesOwn hp (thn (T.item X rfl rfl rfl hc i pins s3 σ3 H3 X.xe I3 (stat fr3) st3 go) fun r s4 ⟨u, hr, h4⟩ => ?_)
    subst hr
    refine wpAny_passesOwn hp (thn h4 fun _ s5 ⟨x, H5, I5, r5, y5, st5, fr5⟩ => ?_)
    have I5' := I5.pinned (stat fr5) (T.obj _ _ st5)
    refine wpAny_passesOwn hp (thn (hg _ s5 σ3 H5 x u _ I5' r5 (step x H5 y5)) fun _ s6 ⟨σ6, H6, I6, q6⟩ => ?_)
    refine wpAny_passesOwn hp (thn (hb _ s6 σ6 H6 _ I6 q6) fun f s7 q7 => ?_)
    have again : ∀ {σ7 : St} {H7 : Hp}, Inv X (pins ++ pinsAt fp s5.heap) σ7 H7 s7 → N σ7 H7 → ∃ m, m < n ∧ ∃ i σ' H', Inv X pins σ' H' s7 ∧ tn i s7.heap ∧ (∀ b ∈ fp, H' b = none) ∧ W i m σ' H' := fun {σ7 H7} I7 n7 => by
      obtain ⟨m', hm, w7⟩ := hN σ7 H7 n7
      refine ⟨m', hm, i + 1, σ7, H7, I7.unpinned, T.keep _ _ _ st5 fun b hb o e => (I7.pin (b, o) (List.mem_append_right _ (List.mem_append_right _ (mem_pinsAt hb e)))).1, fun b hb => ?_, w7⟩
      obtain ⟨o, e, d⟩ := T.obj _ _ st5 b hb
      exact (I7.pin (b, o) (List.mem_append_right _ (List.mem_append_right _ (mem_pinsAt hb e)))).2.1
    cases f with
    | next => obtain ⟨σ7, H7, I7, n7⟩ := q7; exact again I7 n7
    | cont => obtain ⟨σ7, H7, I7, n7⟩ := q7; exact again I7 n7
    | brk => obtain ⟨σ7, H7, I7, q7⟩ := q7; exact ⟨σ7, H7, I7.unpinned, q7⟩
    | ret v => obtain ⟨x7, σ7, H7, I7, r7, q7⟩ := q7; exact ⟨x7, σ7, H7, I7.unpinned, r7, q7⟩
end
theorem for_list {K : PySem.W.Frag} {a : Addr} {xs : List V} {g : TG} {tb : TS} {D : Ends} {σ : St} {H : Hp} (Pv : Nat → St → Hp → Prop) (h0 : Pv 0 σ H) (hl : ∀ i σ H, i ≤ xs.length → Pv i σ H → SqL K H a xs)
    (hs : ∀ i x σ H, xs[i]? = some x → Pv i σ H → g x σ H fun σ2 H2 => tb { D with nx := Pv (i + 1), ct := Pv (i + 1), bk := D.nx } σ2 H2) (hd : ∀ σ H, Pv xs.length σ H → D.nx σ H) :
    ∃ W : Nat → Nat → St → Hp → Prop, (∃ m, W 0 m σ H) ∧ ∀ i m σ H, W i m σ H →
      ((Itl K a).stop i H ∧ D.nx σ H) ∨ ((Itl K a).go i H ∧ ∃ N : St → Hp → Prop, (∀ σ' H', N σ' H' → ∃ m', m' < m ∧ W (i + 1) m' σ' H') ∧ ∀ x H', (Itl K a).yld i H x H' → g x σ H' fun σ2 H2 => tb { D with nx := N, ct := N, bk := D.nx } σ2 H2) := by
  refine ⟨fun i m σ H => m = xs.length - i ∧ i ≤ xs.length ∧ Pv i σ H, ⟨xs.length, by simp, Nat.zero_le _, h0⟩, ?_⟩
  rintro i m σ H ⟨rfl, hi, p⟩
  have q := hl i σ H hi p
  by_cases hlt : i < xs.length
  · refine .inr ⟨⟨xs, xs[i], q, by simp [hlt]⟩, Pv (i + 1), fun σ' H' p' => ⟨xs.length - (i + 1), by omega, rfl, hlt, p'⟩, fun x H' y => ?_⟩
    obtain ⟨e, y⟩ := y
    subst e
    exact hs i x σ _ (y xs q) p
  · have e : i = xs.length := by omega
    subst e
    exact .inl ⟨⟨xs, q, Nat.le_refl _⟩, hd σ H p⟩
theorem for_range {lo : Int} {n : Nat} {g : TG} {tb : TS} {D : Ends} {σ : St} {H : Hp} (Pv : Nat → St → Hp → Prop) (h0 : Pv 0 σ H)
    (hs : ∀ i σ H, i < n → Pv i σ H → g (.int (lo + i)) σ H fun σ2 H2 => tb { D with nx := Pv (i + 1), ct := Pv (i + 1), bk := D.nx } σ2 H2) (hd : ∀ σ H, Pv n σ H → D.nx σ H) :
    ∃ W : Nat → Nat → St → Hp → Prop, (∃ m, W 0 m σ H) ∧ ∀ i m σ H, W i m σ H →
      ((Itr lo n).stop i H ∧ D.nx σ H) ∨ ((Itr lo n).go i H ∧ ∃ N : St → Hp → Prop, (∀ σ' H', N σ' H' → ∃ m', m' < m ∧ W (i + 1) m' σ' H') ∧ ∀ x H', (Itr lo n).yld i H x H' → g x σ H' fun σ2 H2 => tb { D with nx := N, ct := N, bk := D.nx } σ2 H2) := by
  refine ⟨fun i m σ H => m = n - i ∧ i ≤ n ∧ Pv i σ H, ⟨n, by simp, Nat.zero_le _, h0⟩, ?_⟩
  rintro i m σ H ⟨rfl, hi, p⟩
  by_cases hlt : i < n
  · refine .inr ⟨hlt, Pv (i + 1), fun σ' H' p' => ⟨n - (i + 1), by omega, rfl, hlt, p'⟩, fun x H' y => ?_⟩
    obtain ⟨e, y⟩ := y
    subst e y
    exact hs i σ _ hlt p
  · have e : i = n := by omega
    subst e
    exact .inl ⟨Nat.le_refl _, hd σ H p⟩
end L2
namespace L2
open PySem PySem.Spec PyProof.Rows
abbrev R2 := V → V → Hp → VK → Prop
def OpR (X : Cx) (f : Value → Value → Sem Value) (r : R2) : Prop :=
  ∀ (pins : List (Addr × Obj)) (s : Shared) (σ : St) (H : Hp) (x y : V) (v u : Value) (Q : VK), Inv X pins σ H s → RelV x v → RelV y u → r x y H Q →
    wpAny (model X.prog X.w) X.A (f v u) (EP X pins σ Q) X.xe s
def UnR (X : Cx) (f : Value → Sem Value) (r : V → Hp → VK → Prop) : Prop :=
  ∀ (pins : List (Addr × Obj)) (s : Shared) (σ : St) (H : Hp) (x : V) (v : Value) (Q : VK), Inv X pins σ H s → RelV x v → r x H Q →
    wpAny (model X.prog X.w) X.A (f v) (EP X pins σ Q) X.xe s
def CallR (X : Cx) (f : Value) (r : List V → Hp → VK → Prop) : Prop :=
  ∀ (pins : List (Addr × Obj)) (s : Shared) (σ : St) (H : Hp) (xs : List V) (us : List Value) (Q : VK), Inv X pins σ H s → Vals xs us → r xs H Q →
    wpAny (model X.prog X.w) X.A (call f us) (EP X pins σ Q) X.xe s
def tOp (r : R2) (ta tb : TE) : TE := fun σ H Q => ta σ H fun x H1 => tb σ H1 fun y H2 => r x y H2 Q
def tUn (r : V → Hp → VK → Prop) (ta : TE) : TE := fun σ H Q => ta σ H fun x H1 => r x H1 Q
def rI (C : Int → Int → Prop) (g : Int → Int → V) : R2 := fun x y H Q => ∃ i j, x = .int i ∧ y = .int j ∧ C i j ∧ Q (g i j) H
def rI0 (g : Int → Int → V) : R2 := fun x y H Q => ∃ i j, x = .int i ∧ y = .int j ∧ Q (g i j) H
def rU (g : Int → V) : V → Hp → VK → Prop := fun x H Q => ∃ i, x = .int i ∧ Q (g i) H
section
variable {X : Cx} {a b c : Expr} {ta tb tc : TE} {pos : Pos}
theorem binT (ha : PE X a ta) (hb : PE X b tb) {pins : List (Addr × Obj)} {s : Shared} {σ : St} {H : Hp} {R : V → V → Hp → Prop} (I : Inv X pins σ H s)
    (h : ta σ H fun x H1 => tb σ H1 fun y H2 => R x y H2) {Q : Value → Shared → Prop} {f : Value → Value → Sem Value}
    (hf : ∀ v u s2 x y H2, Inv X pins σ H2 s2 → RelV x v → RelV y u → R x y H2 → wpAny (model X.prog X.w) X.A (f v u) Q X.xe s2) :
    wpAny (model X.prog X.w) X.A (eval a X.env) (fun v s₁ => wpAny (model X.prog X.w) X.A (eval b X.env) (fun u s₂ => wpAny (model X.prog X.w) X.A (f v u) Q X.xe s₂) X.xe s₁) X.xe s := by
  refine thn (ha pins s σ H _ I h) fun v s1 ⟨x, H1, I1, r1, q1⟩ => ?_
  refine thn (hb pins s1 σ H1 _ I1 q1) fun u s2 ⟨y, H2, I2, r2, q2⟩ => ?_
  exact hf v u s2 x y H2 I2 r1 r2 q2
theorem pe_op {op : Operator} {r : R2} (ho : OpR X (binaryOp op) r) (ha : PE X a ta) (hb : PE X b tb) : PE X (.BinOp a op b pos) (tOp r ta tb) := by
  intro pins s σ H Q I h
  exact wpAny_BinOp (binT ha hb I h fun v u s2 x y H2 I2 rx ry q => ho pins s2 σ H2 x y v u Q I2 rx ry q)
theorem pe_un {op : UnaryOp} {r : V → Hp → VK → Prop} (ho : UnR X (unaryOp op) r) (ha : PE X a ta) : PE X (.UnaryOp op a pos) (tUn r ta) := by
  intro pins s σ H Q I h
  exact UnaryOp_ (thn (ha pins s σ H _ I h) fun v s1 ⟨x, H1, I1, r1, q1⟩ => ho pins s1 σ H1 x v Q I1 r1 q1)
theorem opI {f : Value → Value → Sem Value} {C : Int → Int → Prop} {g : Int → Int → Int}
    (rule : ∀ (i j : Int) (t u : Tok) (s : Shared) (Q : Value → Shared → Prop) (E : Value → Shared → Prop), C i j → Q (.int (g i j) s.toks) { s with toks := s.toks + 1 } → wpAny (model X.prog X.w) X.A (f (.int i t) (.int j u)) Q E s) :
    OpR X f (rI C fun i j => .int (g i j)) := by
  intro pins s σ H x y v u Q I rx ry h
  obtain ⟨i, j, rfl, rfl, hc, q⟩ := h
  obtain ⟨t, rfl⟩ := rx
  obtain ⟨t', rfl⟩ := ry
  exact rule i j t t' s _ _ hc ⟨.int (g i j), H, I.tok _, ⟨_, rfl⟩, q⟩
theorem opI0 {f : Value → Value → Sem Value} {g : Int → Int → Int}
    (rule : ∀ (i j : Int) (t u : Tok) (s : Shared) (Q : Value → Shared → Prop) (E : Value → Shared → Prop), Q (.int (g i j) s.toks) { s with toks := s.toks + 1 } → wpAny (model X.prog X.w) X.A (f (.int i t) (.int j u)) Q E s) :
    OpR X f (rI0 fun i j => .int (g i j)) := by
  intro pins s σ H x y v u Q I rx ry h
  obtain ⟨i, j, rfl, rfl, q⟩ := h
  obtain ⟨t, rfl⟩ := rx
  obtain ⟨t', rfl⟩ := ry
  exact rule i j t t' s _ _ ⟨.int (g i j), H, I.tok _, ⟨_, rfl⟩, q⟩
theorem opB0 {f : Value → Value → Sem Value} {g : Int → Int → Bool}
    (rule : ∀ (i j : Int) (t u : Tok) (s : Shared) (Q : Value → Shared → Prop) (E : Value → Shared → Prop), Q (.bool (g i j)) s → wpAny (model X.prog X.w) X.A (f (.int i t) (.int j u)) Q E s) :
    OpR X f (rI0 fun i j => .bl (g i j)) := by
  intro pins s σ H x y v u Q I rx ry h
  obtain ⟨i, j, rfl, rfl, q⟩ := h
  obtain ⟨t, rfl⟩ := rx
  obtain ⟨t', rfl⟩ := ry
  exact rule i j t t' s _ _ ⟨.bl (g i j), H, I, rfl, q⟩
def CDiv (i j : Int) : Prop := 0 < j ∧ j < 1073741824
def CMul (i j : Int) : Prop := (-(2 ^ 64) < i ∧ i < 2 ^ 64) ∨ (-(2 ^ 64) < j ∧ j < 2 ^ 64)
theorem CMul.ok {i j : Int} (h : CMul i j) : IntMulOk i j := by
  rcases h with ⟨h1, h2⟩ | ⟨h1, h2⟩
  · exact .of_left (intBits_le_64 h1 h2)
  · exact .of_right (intBits_le_64 h1 h2)
theorem op_add : OpR X (binaryOp .Add) (rI0 fun i j => .int (i + j)) := opI0 fun _ _ _ _ _ _ _ q => add_int q
theorem op_sub : OpR X (binaryOp .Sub) (rI0 fun i j => .int (i - j)) := opI0 fun _ _ _ _ _ _ _ q => sub_int q
theorem op_mul : OpR X (binaryOp .Mult) (rI CMul fun i j => .int (i * j)) := opI fun _ _ _ _ _ _ _ hc q => mul_int q hc.ok
theorem op_fdiv : OpR X (binaryOp .FloorDiv) (rI CDiv fun i j => .int (i / j)) := opI fun i j _ _ _ _ _ hc q => by
  have h1 : (0 : Int) < j := hc.1
  have h2 : j < 1073741824 := hc.2
  exact floordiv_int (by omega) (by rw [Int.fdiv_eq_ediv_of_nonneg i (by omega)]; exact q) (.inl (PyProof.noPylong_small (by omega)))
theorem op_mod : OpR X (binaryOp .Mod) (rI (fun _ j => 0 < j) fun i j => .int (i % j)) := opI fun i j _ _ _ _ _ hc q => by
  have h1 : (0 : Int) < j := hc
  exact mod_int' (by omega) (by rw [Int.fmod_eq_emod_of_nonneg i (by omega)]; exact q)
theorem unI {f : Value → Sem Value} {g : Int → Int}
    (rule : ∀ (i : Int) (t : Tok) (s : Shared) (Q : Value → Shared → Prop) (E : Value → Shared → Prop), Q (.int (g i) s.toks) { s with toks := s.toks + 1 } → wpAny (model X.prog X.w) X.A (f (.int i t)) Q E s) :
    UnR X f (rU fun i => .int (g i)) := by
  intro pins s σ H x v Q I rx h
  obtain ⟨i, rfl, q⟩ := h
  obtain ⟨t, rfl⟩ := rx
  exact rule i t s _ _ ⟨.int (g i), H, I.tok _, ⟨_, rfl⟩, q⟩
theorem un_neg : UnR X (unaryOp .USub) (rU fun i => .int (-i)) := unI fun _ _ _ _ _ q => neg_int q
end
def scal : V → V → Bool
  | .non, .non => true | .non, .int _ => true | .int _, .non => true | .non, .bl _ => true | .bl _, .non => true | .non, .str _ => true | .str _, .non => true
  | .int _, .int _ => true | .bl _, .bl _ => true | .str _, .str _ => true | .byt _, .byt _ => true
  | .int _, .str _ => true | .str _, .int _ => true | .bl _, .str _ => true | .str _, .bl _ => true
  | _, _ => false
def rEq : R2 := fun x y H Q => scal x y = true ∧ Q (.bl (decide (x = y))) H
def rNe : R2 := fun x y H Q => scal x y = true ∧ Q (.bl (!decide (x = y))) H
theorem dec_int {i j : Int} : decide (V.int i = V.int j) = (i == j) := by
  rw [Bool.eq_iff_iff]
  simp
theorem dec_bl {i j : Bool} : decide (V.bl i = V.bl j) = (i == j) := by
  rw [Bool.eq_iff_iff]
  simp
theorem dec_str {i j : Str} : decide (V.str i = V.str j) = (i == j) := by
  rw [Bool.eq_iff_iff]
  simp
theorem dec_byt {i j : Array UInt8} : decide (V.byt i = V.byt j) = (i.toList == j.toList) := by
  rw [Bool.eq_iff_iff]
  cases i
  cases j
  simp
section
variable {X : Cx} {a b c : Expr} {ta tb tc : TE} {pos : Pos}
theorem fin_bl {pins : List (Addr × Obj)} {σ : St} {H : Hp} {s : Shared} {Q : VK} {k k' : Bool} (I : Inv X pins σ H s) (q : Q (.bl k) H) (e : k = k') : EP X pins σ Q (.bool k') s := by
  subst e
  exact ⟨.bl k, H, I, rfl, q⟩
theorem op_eq : OpR X (compareOp .Eq) rEq := by
  intro pins s σ H x y v u Q I rx ry h
  obtain ⟨hs, q⟩ := h
  cases x with
  | non =>
    cases rx
    cases y with
    | non => cases ry; exact PySem.EqNone.eq_none_none (fin_bl I q (by simp))
    | bl j => cases ry; exact PySem.EqNone.eq_none_bool (fin_bl I q (by simp))
    | int j => obtain ⟨t', rfl⟩ := ry; exact PySem.EqNone.eq_none_int (fin_bl I q (by simp))
    | str j => obtain ⟨t', rfl⟩ := ry; exact PySem.EqNone.eq_none_str (fin_bl I q (by simp))
    | _ => exact absurd (show false = true from hs) Bool.false_ne_true
  | bl i =>
    cases rx
    cases y with
    | non => cases ry; exact PySem.EqNone.eq_bool_none (fin_bl I q (by simp))
    | bl j => cases ry; exact eq_bool (fin_bl I q dec_bl)
    | str j => obtain ⟨t', rfl⟩ := ry; exact PySem.EqMixed.eq_bool_str (fin_bl I q (by simp))
    | _ => exact absurd (show false = true from hs) Bool.false_ne_true
  | int i =>
    obtain ⟨t, rfl⟩ := rx
    cases y with
    | non => cases ry; exact PySem.EqNone.eq_int_none (fin_bl I q (by simp))
    | int j => obtain ⟨t', rfl⟩ := ry; exact eq_int (fin_bl I q dec_int)
    | str j => obtain ⟨t', rfl⟩ := ry; exact PySem.EqMixed.eq_int_str (fin_bl I q (by simp))
    | _ => exact absurd (show false = true from hs) Bool.false_ne_true
  | str i =>
    obtain ⟨t, rfl⟩ := rx
    cases y with
    | non => cases ry; exact PySem.EqNone.eq_str_none (fin_bl I q (by simp))
    | bl j => cases ry; exact PySem.EqMixed.eq_str_bool (fin_bl I q (by simp))
    | int j => obtain ⟨t', rfl⟩ := ry; exact PySem.EqMixed.eq_str_int (fin_bl I q (by simp))
    | str j => obtain ⟨t', rfl⟩ := ry; exact eq_str (fin_bl I q dec_str)
    | _ => exact absurd (show false = true from hs) Bool.false_ne_true
  | byt i =>
    obtain ⟨t, rfl⟩ := rx
    cases y with
    | byt j => obtain ⟨t', rfl⟩ := ry; exact PySem.W.eq_bytes (fin_bl I q dec_byt)
    | _ => exact absurd (show false = true from hs) Bool.false_ne_true
  | _ => cases y <;> exact absurd (show false = true from hs) Bool.false_ne_true
theorem op_ne : OpR X (compareOp .NotEq) rNe := by
  intro pins s σ H x y v u Q I rx ry h
  obtain ⟨hs, q⟩ := h
  cases x with
  | non =>
    cases rx
    cases y with
    | non => cases ry; exact PySem.EqNone.ne_none_none (fin_bl I q (by simp))
    | bl j => cases ry; exact PySem.EqNone.ne_none_bool (fin_bl I q (by simp))
    | int j => obtain ⟨t', rfl⟩ := ry; exact PySem.EqNone.ne_none_int (fin_bl I q (by simp))
    | str j => obtain ⟨t', rfl⟩ := ry; exact PySem.EqNone.ne_none_str (fin_bl I q (by simp))
    | _ => exact absurd (show false = true from hs) Bool.false_ne_true
  | bl i =>
    cases rx
    cases y with
    | non => cases ry; exact PySem.EqNone.ne_bool_none (fin_bl I q (by simp))
    | bl j => cases ry; exact ne_bool (fin_bl I q (congrArg not dec_bl))
    | str j => obtain ⟨t', rfl⟩ := ry; exact PySem.EqMixed.ne_bool_str (fin_bl I q (by simp))
    | _ => exact absurd (show false = true from hs) Bool.false_ne_true
  | int i =>
    obtain ⟨t, rfl⟩ := rx
    cases y with
    | non => cases ry; exact PySem.EqNone.ne_int_none (fin_bl I q (by simp))
    | int j => obtain ⟨t', rfl⟩ := ry; exact ne_int (fin_bl I q (congrArg not dec_int))
    | str j => obtain ⟨t', rfl⟩ := ry; exact PySem.EqMixed.ne_int_str (fin_bl I q (by simp))
    | _ => exact absurd (show false = true from hs) Bool.false_ne_true
  | str i =>
    obtain ⟨t, rfl⟩ := rx
    cases y with
    | non => cases ry; exact PySem.EqNone.ne_str_none (fin_bl I q (by simp))
    | bl j => cases ry; exact PySem.EqMixed.ne_str_bool (fin_bl I q (by simp))
    | int j => obtain ⟨t', rfl⟩ := ry; exact PySem.EqMixed.ne_str_int (fin_bl I q (by simp))
    | str j => obtain ⟨t', rfl⟩ := ry; exact ne_str (fin_bl I q (congrArg not dec_str))
    | _ => exact absurd (show false = true from hs) Bool.false_ne_true
  | byt i =>
    obtain ⟨t, rfl⟩ := rx
    cases y with
    | byt j => obtain ⟨t', rfl⟩ := ry; exact PySem.W.ne_bytes (fin_bl I q (congrArg not dec_byt))
    | _ => exact absurd (show false = true from hs) Bool.false_ne_true
  | _ => cases y <;> exact absurd (show false = true from hs) Bool.false_ne_true
theorem op_lt : OpR X (compareOp .Lt) (rI0 fun i j => .bl (decide (i < j))) := opB0 fun _ _ _ _ _ _ _ q => lt_int q
theorem op_le : OpR X (compareOp .LtE) (rI0 fun i j => .bl (decide (i ≤ j))) := opB0 fun _ _ _ _ _ _ _ q => le_int q
theorem op_gt : OpR X (compareOp .Gt) (rI0 fun i j => .bl (decide (j < i))) := opB0 fun _ _ _ _ _ _ _ q => gt_int q
theorem op_isN : OpR X (compareOp .Is) (fun x y H Q => y = .non ∧ Q (.bl (decide (x = .non))) H) := by
  intro pins s σ H x y v u Q I rx ry h
  obtain ⟨rfl, q⟩ := h
  cases ry
  refine is_none_gen (fin_bl I q ?_)
  cases x <;> first
    | (cases rx; rfl)
    | (obtain ⟨t, rfl⟩ := rx; rfl)
theorem nomark (b : Expr) {op : CmpOp} (h : op ≠ .In := by decide) (h2 : op ≠ .NotIn := by decide) : behindInMarks op b = false := by
  have e1 : (op == CmpOp.In) = false := by cases op <;> first | rfl | exact absurd rfl h
  have e2 : (op == CmpOp.NotIn) = false := by cases op <;> first | rfl | exact absurd rfl h2
  cases b <;> simp [behindInMarks, e1, e2]
theorem pe_cmpR {op : CmpOp} {r : R2} (ho : OpR X (compareOp op) r) (ha : PE X a ta) (hb : PE X b tb) (hm : behindInMarks op b = false) : PE X (.Compare a [op] [b] pos) (tOp r ta tb) := by
  intro pins s σ H Q I h
  exact wpAny_Compare1 (binT ha hb I h fun v u s2 x y H2 I2 rx ry q => ho pins s2 σ H2 x y v u Q I2 rx ry q) hm
def tTest (t : TE) : TT := fun σ H Q => t σ H fun x H' => ∃ k, x = .bl k ∧ Q k H'
theorem pt_cmpR {op : CmpOp} {r : R2} (ho : OpR X (compareOp op) r) (ha : PE X a ta) (hb : PE X b tb) (hm : behindInMarks op b = false) : PT X (.Compare a [op] [b] pos) (tTest (tOp r ta tb)) := by
  intro pins s σ H Q I h
  refine wpAny_isTrue_Compare1 (thn (ha pins s σ H _ I h) fun v s1 ⟨x, H1, I1, r1, q1⟩ => thn (hb pins s1 σ H1 _ I1 q1) fun u s2 ⟨y, H2, I2, r2, q2⟩ =>
    thn (ho pins s2 σ H2 x y v u _ I2 r1 r2 q2) fun c s3 ⟨z, H3, I3, r3, k, e, q3⟩ => ?_) hm
  subst e
  cases r3
  exact wpAny_truthy_bool ⟨H3, I3, q3⟩
def tChain (r r' : R2) (ta tb tc : TE) : TE := fun σ H Q => ta σ H fun x H1 => tb σ H1 fun y H2 => r x y H2 fun z H3 => ∃ k, z = .bl k ∧
  (if k = true then tc σ H3 fun w' H4 => r' y w' H4 Q else Q (.bl false) H3)
theorem pe_chain {op op' : CmpOp} {r r' : R2} (ho : OpR X (compareOp op) r) (ho' : OpR X (compareOp op') r') (ha : PE X a ta) (hb : PE X b tb) (hc : PE X c tc)
    (hm : lastMarks [op, op'] [b, c] = false := by with_unfolding_all rfl) : PE X (.Compare a [op, op'] [b, c] pos) (tChain r r' ta tb tc) := by
  intro pins s σ H Q I h
  refine Compare_chain (thn (ha pins s σ H _ I h) fun v s1 ⟨x, H1, I1, r1, q1⟩ => chain_link (thn (hb pins s1 σ H1 _ I1 q1) fun u s2 ⟨y, H2, I2, r2, q2⟩ =>
    thn (ho pins s2 σ H2 x y v u _ I2 r1 r2 q2) fun d s3 ⟨z, H3, I3, r3, k, e, q3⟩ => ?_)) hm
  subst e
  cases r3
  refine wpAny_truthy_bool ?_
  cases k with
  | false => exact ite_ff ⟨.bl false, H3, I3, rfl, q3⟩
  | true => exact ite_tt (chain_last (thn (hc pins s3 σ H3 _ I3 q3) fun w' s4 ⟨z', H4, I4, r4, q4⟩ => ho' pins s4 σ H4 y z' u w' Q I4 r2 r4 q4))
theorem pt_chain {op op' : CmpOp} {r r' : R2} (ho : OpR X (compareOp op) r) (ho' : OpR X (compareOp op') r') (ha : PE X a ta) (hb : PE X b tb) (hc : PE X c tc)
    (hm : lastMarks [op, op'] [b, c] = false := by with_unfolding_all rfl) : PT X (.Compare a [op, op'] [b, c] pos) (tTest (tChain r r' ta tb tc)) := by
  intro pins s σ H Q I h
  refine isTrue_chain (thn (ha pins s σ H _ I h) fun v s1 ⟨x, H1, I1, r1, q1⟩ => test_link (thn (hb pins s1 σ H1 _ I1 q1) fun u s2 ⟨y, H2, I2, r2, q2⟩ =>
    thn (ho pins s2 σ H2 x y v u _ I2 r1 r2 q2) fun d s3 ⟨z, H3, I3, r3, k, e, q3⟩ => ?_)) hm
  subst e
  cases r3
  refine wpAny_truthy_bool ?_
  cases k with
  | false =>
    obtain ⟨k', e', q'⟩ := q3
    cases e'
    exact ite_ff ⟨H3, I3, q'⟩
  | true =>
    refine ite_tt (test_last (thn (hc pins s3 σ H3 _ I3 q3) fun w' s4 ⟨z', H4, I4, r4, q4⟩ => thn (ho' pins s4 σ H4 y z' u w' _ I4 r2 r4 q4) fun d' s5 ⟨z2, H5, I5, r5, k2, e2, q5⟩ => ?_))
    subst e2
    cases r5
    exact wpAny_truthy_bool ⟨H5, I5, q5⟩
theorem line63 : (sizeLine : Nat) < 2 ^ 63 := by rw [sizeLine_eq]; decide
theorem vals1 {x : V} {us : List Value} (r : Vals [x] us) : ∃ u, us = [u] ∧ RelV x u := by
  cases r with
  | cons r1 r2 => cases r2; exact ⟨_, rfl, r1⟩
theorem vals2 {x y : V} {us : List Value} (r : Vals [x, y] us) : ∃ u w', us = [u, w'] ∧ RelV x u ∧ RelV y w' := by
  cases r with
  | cons r1 r2 =>
    cases r2 with
    | cons r3 r4 => cases r4; exact ⟨_, _, rfl, r1, r3⟩
theorem call_min2 (hc : X.calm = true) : CallR X (.builtin "min") (fun xs H Q => ∃ i j, xs = [.int i, .int j] ∧ Q (.int (if j < i then j else i)) H) := by
  intro pins s σ H xs us Q I r h
  obtain ⟨i, j, rfl, q⟩ := h
  obtain ⟨u, w', rfl, ⟨t, rfl⟩, ⟨t', rfl⟩⟩ := vals2 r
  refine min_two_ints (I.ok.hd hc) fun h' tk k => ⟨_, H, I.kept k, ?_, q⟩
  by_cases hj : j < i
  · rw [if_pos hj, if_pos hj]; exact ⟨_, rfl⟩
  · rw [if_neg hj, if_neg hj]; exact ⟨_, rfl⟩
end
end L2
namespace L2
open PySem PySem.Spec PyProof.Rows
structure ObjM (h : Heap) (x dx C : Addr) (mA : Str → Option Value) : Prop where
  obj : h.get? x = some (PySem.W.instObj C dx)
  ns : h.Ns1 dx mA
  ne : dx ≠ x
theorem lookIn_ns {h : Heap} {dx : Addr} {mA : Str → Option Value} (n : h.Ns1 dx mA) : ∃ od, h.get? dx = some od ∧ ∀ name, PySem.W.lookIn name od = some (mA name) := by
  obtain ⟨o, es, ep, ho, hd, hk, _, hm⟩ := n
  refine ⟨o, ho, fun name => ?_⟩
  have e := hm name
  unfold nsFind findBy at e
  rw [← Array.find?_toList] at e
  unfold PySem.W.lookIn
  rw [hd]
  dsimp only
  split
  · rename_i y q
    rw [q] at e
    exact congrArg some e
  · rename_i q
    rw [q] at e
    have a : es.toList.any (·.refKey) = false := by
      rw [List.any_eq_false]
      intro y hy
      obtain ⟨z, t, hkey⟩ := hk y (Array.mem_toList_iff.mp hy)
      simp [DictEntry.refKey, hkey]
    have a' : ¬ es.toList.any (·.refKey) = true := by rw [a]; exact Bool.false_ne_true
    rw [if_neg a']
    exact congrArg some e
theorem ObjM.look {h : Heap} {x dx C : Addr} {mA : Str → Option Value} (I : ObjM h x dx C mA) : ∃ od, PySem.W.InstAt h x (PySem.W.instObj C dx) C (some od) ∧ ∀ name, PySem.W.lookIn name od = some (mA name) :=
  let ⟨od, ho, hl⟩ := lookIn_ns I.ns
  ⟨od, ⟨I.obj, rfl, rfl, ho⟩, hl⟩
section
variable {prog : Program} {w : World} {A : Around} {E : Value → Shared → Prop} {s : Shared} {K : PySem.W.Frag} {x dx C f : Addr} {mA : Str → Option Value} {name : Str} {v : Value}
theorem get_map {expr : Bool} {Q : Value → Shared → Prop} (X : K.In s.heap) (I : ObjM s.heap x dx C mA) (hg : PySem.W.plainGet K C name = true) (hh : PySem.W.hasDictIn K C = true)
    (ha : PySem.W.findIn K (.ref C) name = some none) (hv : mA name = some v) (hv' : PySem.W.handedIn v = true) (h : Q v { s with toks := s.toks + 1 }) :
    wpAny (model prog w) A (getAttr (.ref x) name expr) Q E s := by
  obtain ⟨od, J, hl⟩ := I.look
  exact PySem.W.get_value X J (PySem.W.plainGet_of hg).1 (PySem.W.findObj_own hh ha rfl (by rw [hl, hv])) hv' h
theorem get_meth {pl : Sem Bool} {Q : Value × List Value → Shared → Prop} (X : K.In s.heap) (I : ObjM s.heap x dx C mA) (hg : PySem.W.plainGet K C name = true)
    (hf : PySem.W.findIn K (.ref C) name = some (some (.ref f))) (ht : PySem.W.isFn K (.ref f) = true) (hv : mA name = none) (h : Q (.ref f, [.ref x]) s) :
    wpAny (model prog w) A (getMethod (.ref x) name pl) Q E s := by
  obtain ⟨od, J, hl⟩ := I.look
  exact PySem.W.method_fn X J (PySem.W.plainGet_of hg).1 (PySem.W.plainGet_of hg).2 hf (beq_iff_eq.mp ht) (by show (PySem.W.lookIn name od).map (·.isSome) = some false; rw [hl, hv]; rfl) h
theorem set_map {ns : List Str} {Q : Unit → Shared → Prop} (X : K.In s.heap) (I : ObjM s.heap x dx C mA)
    (hs : PySem.W.findIn K (.ref C) "__setattr__" = some (some (.builtin "object.__setattr__"))) (hp : PySem.W.plainOver K C = true) (ht : PySem.W.takerIn K C name = some none) (hh : PySem.W.hasDictIn K C = true)
    (hw : PySem.Within mA ns) (hsz : ns.length ≤ sizeLine)
    (h : ∀ h', ObjM h' x dx C (fun y => if y = name then some v else mA y) → Heap.SameBut dx s.heap h' → Q () { s with heap := h', toks := s.toks + 2 }) :
    wpAny (model prog w) A (setAttr (.ref x) name v) Q E s := by
  obtain ⟨od, J, hl⟩ := I.look
  refine PySem.W.set_plain X J hs (PySem.W.osa_open (s := { s with toks := s.toks + 1 }) (r := none) X J hp ht fun b => ?_)
  obtain ⟨cd, hc, hd'⟩ := PySem.W.any_some hh
  have hx : s.heap.get? x = some ⟨.ref C, some dx, .plain, #[]⟩ := I.obj
  refine wpAny_bind (wpAny_pure (wpAny_bind (wpAny_bind (wpAny_loadPart hx (wpAny_bind (PySem.W.Looks.here (s := { s with toks := s.toks + 1 }) (PySem.W.looks_clsIn X hc) ?_))))))
  rw [hd']
  refine wpAny_pure (a := some dx) (wpAny_bind (wpAny_pure (wpAny_bind ?_)))
  refine wpAny_nsSet1 (s := { s with toks := s.toks + 1 }) I.ns fun h' hn2 hs2 => ?_
  obtain ⟨oD, esD, epD, hoD, hdD, hcD⟩ := hn2.count (PySem.Within.cons name v hw)
  refine wpAny_bind (wpAny_lookBehind hoD (by rw [hdD]; exact pastItsLine_dict (Nat.le_trans hcD (by rw [List.length_cons]; omega))) ?_)
  exact wpAny_pure (h _ ⟨(hs2.2 _ (Ne.symm I.ne)).trans I.obj, hn2, I.ne⟩ hs2)
theorem make_map {R : Result → Shared → Prop} {vs : List Value} {kw : List (Str × Value)} (X : K.In s.heap) (hm : PySem.W.makesIn K C = true)
    (hi : PySem.W.findIn K (.ref C) "__init__" = some (some (.ref f))) (hf : PySem.W.typeIn K (.ref f) = some (.type "function"))
    (h : codeAny (model prog w) (A.under (.builtin "type.__call__" ⟨.ref C :: vs, kw⟩)) (.call (.ref f) ⟨.ref (s.heap.objs.size + 1) :: vs, kw⟩) (PySem.W.InitBack (s.heap.objs.size + 1) R)
      { s with heap := (s.heap.push PySem.W.emptyDict).push (PySem.W.instObj C s.heap.objs.size) }) :
    codeAny (model prog w) A (.call (.ref C) ⟨vs, kw⟩) R s := by
  obtain ⟨hh, g, d, t, os⟩ := s
  exact PySem.W.make_core (PySem.W.makes_of X hm) (PySem.W.looks_findIn X hi) (fun self => PySem.W.bind_fn X self hf) (.inl rfl) h
end
def putF (f : Str) (v : V) : List (Str × V) → List (Str × V)
  | [] => [(f, v)]
  | (g, x) :: r => if g = f then (g, v) :: r else (g, x) :: putF f v r
theorem lookup_putF (f g : Str) (v : V) : ∀ fs : List (Str × V), (putF f v fs).lookup g = if g = f then some v else fs.lookup g
  | [] => by
    show List.lookup g [(f, v)] = _
    by_cases h : g = f
    · have hb : (g == f) = true := beq_iff_eq.mpr h
      simp only [List.lookup, hb, if_pos h]
    · have hb : (g == f) = false := beq_eq_false_iff_ne.mpr h
      simp only [List.lookup, hb, if_neg h]
  | (k, x) :: r => by
    have ih := lookup_putF f g v r
    rw [show putF f v ((k, x) :: r) = (if k = f then (k, v) :: r else (k, x) :: putF f v r) from rfl]
    by_cases hk : k = f
    · rw [if_pos hk]
      by_cases h : g = k
      · have hb : (g == k) = true := beq_iff_eq.mpr h
        simp only [List.lookup, hb, if_pos (h.trans hk)]
      · have hb : (g == k) = false := beq_eq_false_iff_ne.mpr h
        simp only [List.lookup, hb, if_neg (fun e : g = f => h (e.trans hk.symm))]
    · rw [if_neg hk]
      by_cases h : g = k
      · have hb : (g == k) = true := beq_iff_eq.mpr h
        simp only [List.lookup, hb, if_neg (fun e : g = f => hk (h.symm.trans e))]
      · have hb : (g == k) = false := beq_eq_false_iff_ne.mpr h
        simp only [List.lookup, hb]
        exact ih
theorem keys_putF (f : Str) (v : V) : ∀ fs : List (Str × V), f ∈ (putF f v fs).map (·.1) ∧ ∀ g, g ∈ fs.map (·.1) → g ∈ (putF f v fs).map (·.1)
  | [] => ⟨by simp [putF], fun g h => by simp at h⟩
  | (k, x) :: r => by
    obtain ⟨i1, i2⟩ := keys_putF f v r
    rw [show putF f v ((k, x) :: r) = (if k = f then (k, v) :: r else (k, x) :: putF f v r) from rfl]
    by_cases hk : k = f
    · rw [if_pos hk]
      subst hk
      exact ⟨by simp, fun g h => by simpa using h⟩
    · rw [if_neg hk]
      refine ⟨?_, fun g h => ?_⟩
      · rw [List.map_cons]
        exact List.mem_cons_of_mem _ i1
      · rw [List.map_cons] at h ⊢
        rcases List.mem_cons.mp h with e | e
        · exact List.mem_cons.mpr (.inl e)
        · exact List.mem_cons_of_mem _ (i2 g e)
theorem length_putF (f : Str) (v : V) : ∀ fs : List (Str × V), (putF f v fs).length ≤ fs.length + 1
  | [] => by simp [putF]
  | (k, x) :: r => by
    have ih := length_putF f v r
    rw [show putF f v ((k, x) :: r) = (if k = f then (k, v) :: r else (k, x) :: putF f v r) from rfl]
    by_cases hk : k = f
    · rw [if_pos hk, List.length_cons, List.length_cons]; omega
    · rw [if_neg hk, List.length_cons, List.length_cons]; omega
theorem RelO.some_of {v : V} {o : Option Value} (r : RelO (some v) o) : ∃ u, o = some u ∧ RelV v u := by
  cases o with
  | none => exact (show False from r).elim
  | some u => exact ⟨u, rfl, r⟩
theorem RelO.none_of {o : Option Value} (r : RelO none o) : o = none := by
  cases o with
  | none => rfl
  | some u => exact (show False from r).elim
theorem handed_of {v : V} {u : Value} (r : RelV v u) : PySem.W.handedIn u = true := by
  cases v with
  | non => cases (show u = Value.none from r); rfl
  | bl b => cases (show u = Value.bool b from r); rfl
  | int i => obtain ⟨t, e⟩ := (show ∃ t, u = Value.int i t from r); cases e; rfl
  | str x => obtain ⟨t, e⟩ := (show ∃ t, u = Value.str x t from r); cases e; rfl
  | byt b => obtain ⟨t, e⟩ := (show ∃ t, u = Value.bytes b t from r); cases e; rfl
  | flt b => obtain ⟨t, e⟩ := (show ∃ t, u = Value.float b t from r); cases e; rfl
  | ref a => cases (show u = Value.ref a from r); rfl
  | ty n => cases (show u = Value.type n from r); rfl
section
variable {P : Program} {w : World} {H H' : Hp} {h h' : Heap} {a C dx : Addr} {fs fs' : List (Str × V)}
theorem ins_get (hok : HOk P w H h) (e : H a = some (.ins C dx fs)) : ∃ mA, ObjM h a dx C mA ∧ (∀ f, RelO (fs.lookup f) (mA f)) ∧ PySem.Within mA (fs.map (·.1)) ∧ fs.length ≤ 1000 ∧ H dx = some (.own a) := by
  obtain ⟨d, z, ne, ob, mA, n, r, q⟩ := (show ObjOk P w H h a (.ins C dx fs) from hok a _ e)
  exact ⟨mA, ⟨ob, n, ne⟩, r, q, z, d⟩
end
structure Cls (K : PySem.W.Frag) (C : Addr) : Prop where
  pg : PySem.W.plainGet K C Str.empty = true
  hd : PySem.W.hasDictIn K C = true
  po : PySem.W.plainOver K C = true
  sa : PySem.W.findIn K (.ref C) "__setattr__" = some (some (.builtin "object.__setattr__"))
theorem Cls.get {K : PySem.W.Frag} {C : Addr} (c : Cls K C) (f : Str) : PySem.W.plainGet K C f = true := c.pg
def NoAttr (K : PySem.W.Frag) (C : Addr) (f : Str) : Prop := PySem.W.findIn K (.ref C) f = some none
theorem NoAttr.taker {K : PySem.W.Frag} {C : Addr} {f : Str} (n : NoAttr K C f) : PySem.W.takerIn K C f = some none := by
  unfold PySem.W.takerIn
  rw [show PySem.W.findIn K (.ref C) f = some none from n]
  rfl
structure Meth (K : PySem.W.Frag) (C : Addr) (m : Str) (f : Addr) : Prop where
  at_ : PySem.W.findIn K (.ref C) m = some (some (.ref f))
  fn : PySem.W.isFn K (.ref f) = true
  kp : PySem.W.keepIn K (.ref f) = true
section
variable {X : Cx} {pins : List (Addr × Obj)} {σ : St} {H : Hp} {s : Shared} {a C dx : Addr} {fs : List (Str × V)} {f : Str} {v : V} {A : Around} {E : Value → Shared → Prop}
theorem getattr_ok {b : Bool} {Q : Value → Shared → Prop} (I : Inv X pins σ H s) (e : H a = some (.ins C dx fs)) (c : Cls X.K C) (n : NoAttr X.K C f) (l : fs.lookup f = some v)
    (h : ∀ u s', Inv X pins σ H s' → RelV v u → Q u s') : wpAny (model X.prog X.w) A (getAttr (.ref a) f b) Q E s := by
  obtain ⟨mA, O, r, _, _, _⟩ := ins_get I.hok e
  obtain ⟨u, hu, ru⟩ := RelO.some_of (v := v) (o := mA f) (by rw [← l]; exact r f)
  exact get_map I.kIn O (c.get f) c.hd n hu (handed_of ru) (h u _ (I.tok _) ru)
theorem getmeth_ok {m : Str} {g : Addr} {pl : Sem Bool} {Q : Value × List Value → Shared → Prop} (I : Inv X pins σ H s) (e : H a = some (.ins C dx fs)) (c : Cls X.K C) (k : Meth X.K C m g) (l : fs.lookup m = none)
    (h : Q (.ref g, [.ref a]) s) : wpAny (model X.prog X.w) A (getMethod (.ref a) m pl) Q E s := by
  obtain ⟨mA, O, r, _, _, _⟩ := ins_get I.hok e
  have hn : mA m = none := RelO.none_of (by rw [← l]; exact r m)
  exact get_meth I.kIn O (c.get m) k.at_ k.fn hn h
theorem setattr_ok {y : V} {u : Value} {Q : Unit → Shared → Prop} (I : Inv X pins σ H s) (e : H a = some (.ins C dx fs)) (c : Cls X.K C) (n : NoAttr X.K C f) (hl : fs.length < 1000) (ry : RelV y u)
    (h : ∀ s', Inv X pins σ (upd H a (.ins C dx (putF f y fs))) s' → Q () s') : wpAny (model X.prog X.w) A (setAttr (.ref a) f u) Q E s := by
  obtain ⟨mA, O, r, wi, _, ho⟩ := ins_get I.hok e
  have hz : (fs.map (·.1)).length ≤ sizeLine := by rw [List.length_map, sizeLine_eq]; omega
  refine set_map I.kIn O c.sa c.po n.taker c.hd wi hz fun h' O' sb => h _ ?_
  have hd : ∃ o, h'.get? dx = some o := let ⟨o, _, _, e', _⟩ := O'.ns; ⟨o, e'⟩
  refine I.write (x := a) (e := dx) (by rw [e]; exact True.intro) (.inr ho) (fun b q hb z => (sb.2 b hb).trans z) hd ?_
  refine ⟨by rw [upd_ne O.ne]; exact ho, ?_, O.ne, O'.obj, _, O'.ns, fun g => ?_, fun g hg => ?_⟩
  · have := length_putF f y fs; omega
  · show RelO ((putF f y fs).lookup g) (if g = f then some u else mA g)
    rw [lookup_putF]
    by_cases q : g = f
    · rw [if_pos q, if_pos q]; exact ry
    · rw [if_neg q, if_neg q]; exact r g
  · by_cases q : g = f
    · rw [q]; exact (keys_putF f y fs).1
    · refine (keys_putF f y fs).2 g (wi g fun z => hg ?_)
      show (if g = f then some u else mA g) = none
      rw [if_neg q]; exact z
theorem Inv.made (I : Inv X pins σ H s) : Inv X pins σ (upd (upd H s.heap.objs.size (.own (s.heap.objs.size + 1))) (s.heap.objs.size + 1) (.ins C s.heap.objs.size []))
    { s with heap := (s.heap.push PySem.W.emptyDict).push (PySem.W.instObj C s.heap.objs.size) } := by
  have e1 : (s.heap.push PySem.W.emptyDict).get? s.heap.objs.size = some PySem.W.emptyDict := Heap.get?_push_size s.heap rfl
  have e2 : ((s.heap.push PySem.W.emptyDict).push (PySem.W.instObj C s.heap.objs.size)).get? (s.heap.objs.size + 1) = some (PySem.W.instObj C s.heap.objs.size) := by
    have := Heap.get?_push_size (s.heap.push PySem.W.emptyDict) (o := PySem.W.instObj C s.heap.objs.size) rfl
    rwa [Heap.size_push] at this
  have e3 : (s.heap.push PySem.W.emptyDict).Ns s.heap.objs.size (fun _ => none) := ⟨PySem.W.emptyDict, #[], _, e1, rfl, (fun e he => absurd he (by simp)), fun _ => rfl⟩
  have I1 := I.laid (a := s.heap.objs.size) (o := .own (s.heap.objs.size + 1)) (h' := s.heap.push PySem.W.emptyDict) (t' := s.toks) (fun b u q => Heap.get?_push_of_some _ q) (Nat.le_refl _) ⟨_, e1⟩
  refine I1.laid (a := s.heap.objs.size + 1) (o := .ins C s.heap.objs.size []) (t' := s.toks) (fun b u q => Heap.get?_push_of_some _ q) (Nat.le_of_eq (Heap.size_push _ _)) ?_
  have ne : s.heap.objs.size ≠ s.heap.objs.size + 1 := Nat.ne_of_lt (Nat.lt_succ_self _)
  refine ⟨by rw [upd_ne ne, upd_same], Nat.zero_le _, ne, e2, fun _ => none, (Heap.Ns1.of_empty e3).at fun o q => Heap.get?_push_of_some _ q, fun _ => True.intro, fun y hy => absurd rfl hy⟩
theorem attr_of {prog : Program} {w : World} {env : Env} {e : Expr} {f : Str} {pos : Pos} {s : Shared} {Q : Value → Shared → Prop} (hb : attributeBase e f env (eval e env) = eval e env)
    (h : wpAny (model prog w) A (eval e env) (fun o s₁ => wpAny (model prog w) A (getAttr o f true) Q E s₁) E s) : wpAny (model prog w) A (eval (.Attribute e f pos) env) Q E s :=
  Attribute_any_ h (by rw [arm_eval_Attribute, hb])
end
def tFld (K : PySem.W.Frag) (ta : TE) (f : Str) : TE := fun σ H Q => ta σ H fun x H1 => ∃ a C dx fs v, x = .ref a ∧ H1 a = some (.ins C dx fs) ∧ Cls K C ∧ NoAttr K C f ∧ fs.lookup f = some v ∧ Q v H1
def sFld (K : PySem.W.Frag) (ta tv : TE) (f : Str) : TS := fun D σ H => tv σ H fun y H1 => ta σ H1 fun x H2 => ∃ a C dx fs, x = .ref a ∧ H2 a = some (.ins C dx fs) ∧ Cls K C ∧ NoAttr K C f ∧ fs.length < 1000 ∧
  D.nx σ (upd H2 a (.ins C dx (putF f y fs)))
def InOp (X : Cx) (op : Operator) (rd : V → V → Hp → VK → Prop) : Prop :=
  ∀ (pins : List (Addr × Obj)) (s : Shared) (σ : St) (H : Hp) (x y : V) (u v : Value) (Q : VK), Inv X pins σ H s → RelV x u → RelV y v → rd x y H Q → wpAny (model X.prog X.w) X.A (inplaceOp op u v) (EP X pins σ Q) X.xe s
def sFldAug (K : PySem.W.Frag) (ta tv : TE) (rd : V → V → Hp → VK → Prop) (f : Str) : TS := fun D σ H => ta σ H fun x H1 => ∃ a C dx fs v, x = .ref a ∧ H1 a = some (.ins C dx fs) ∧ Cls K C ∧ NoAttr K C f ∧ fs.lookup f = some v ∧
  tv σ H1 fun y H2 => rd v y H2 fun z H3 => ∃ dx' fs', H3 a = some (.ins C dx' fs') ∧ fs'.length < 1000 ∧ D.nx σ (upd H3 a (.ins C dx' (putF f z fs')))
section
variable {X : Cx} {o e value : Expr} {f : Str} {pos pos' tpos : Pos} {ta tv : TE}
theorem pe_fld (he : PE X e ta) (hb : attributeBase e f X.env (eval e X.env) = eval e X.env) : PE X (.Attribute e f pos) (tFld X.K ta f) := by
  intro pins s σ H Q I h
  refine attr_of hb (thn (he pins s σ H _ I h) fun u s1 ⟨x, H1, I1, rx, a, C, dx, fs, v, ex, ea, c, n, l, q⟩ => ?_)
  subst ex
  obtain rfl : u = Value.ref a := rx
  exact getattr_ok I1 ea c n l fun u' s2 I2 ru => ⟨v, H1, I2, ru, q⟩
theorem ps_fld (ha : PE X o ta) (hv : PE X value tv) (hs : swapsWith value (some (.Attribute o f pos')) pos.line X.env = pure false) : PS X (.Assign [.Attribute o f pos'] value pos) (sFld X.K ta tv f) := by
  intro pins s σ H D I h
  refine plainObj_wpAny_Assign_Attribute (thn (hv pins s σ H _ I h) fun u s1 ⟨y, H1, I1, ry, q⟩ => thn (ha pins s1 σ H1 _ I1 q) fun ov s2 ⟨x, H2, I2, rx, a, C, dx, fs, ex, ea, c, n, l, q2⟩ => ?_) hs
  subst ex
  obtain rfl : ov = Value.ref a := rx
  exact setattr_ok I2 ea c n l ry fun s3 I3 => ⟨σ, _, I3, q2⟩
theorem ps_fldaug {op : Operator} {rd : V → V → Hp → VK → Prop} (ha : PE X o ta) (hv : PE X value tv) (hop : InOp X op rd) : PS X (.AugAssign (.Attribute o f tpos) op value pos) (sFldAug X.K ta tv rd f) := by
  intro pins s σ H D I h
  refine wpAny_AugAssign_AttributeAny (thn (ha pins s σ H _ I h) fun ov s1 ⟨x, H1, I1, rx, a, C, dx, fs, v, ex, ea, c, n, l, q⟩ => ?_)
  subst ex
  obtain rfl : ov = Value.ref a := rx
  refine getattr_ok I1 ea c n l fun u s2 I2 ru => thn (hv pins s2 σ H1 _ I2 q) fun w3 s3 ⟨y, H2, I3, ry, q3⟩ => thn (hop pins s3 σ H2 v y u w3 _ I3 ru ry q3) fun w4 s4 ⟨z, H3, I4, rz, dx', fs', ea', l', q4⟩ => ?_
  exact setattr_ok I4 ea' c n l' rz fun s5 I5 => ⟨σ, _, I5, q4⟩
def rAdd : V → V → Hp → VK → Prop := fun x y H Q => ∃ i j, x = .int i ∧ y = .int j ∧ Q (.int (i + j)) H
theorem in_add : InOp X .Add rAdd := by
  rintro pins s σ H x y u v Q I rx ry ⟨i, j, rfl, rfl, q⟩
  obtain ⟨t, rfl⟩ := (show ∃ t, u = Value.int i t from rx)
  obtain ⟨t', rfl⟩ := (show ∃ t', v = Value.int j t' from ry)
  exact PyProof.Rows.iadd_int ⟨.int (i + j), H, I.tok _, ⟨_, rfl⟩, q⟩
end
section
variable {X : Cx} {pins : List (Addr × Obj)} {σ : St} {H : Hp} {s : Shared} {A : Around} {E : Value → Shared → Prop} {Q : Value → Shared → Prop} {c : Value} {b : Bool}
end
end L2
namespace L2
open PySem PySem.Spec PyProof.Rows
structure Room (k : Nat) (A : Around) : Prop where
  hd : A.handled = none
  dp : A.depth + 3 * k + 5 < recursionLimit
  un : A.units + 16 * k + 200 < cLine
theorem Room.mono {j k : Nat} {A : Around} (r : Room k A) (h : j ≤ k) : Room j A := ⟨r.hd, by have := r.dp; omega, by have := r.un; omega⟩
theorem Room.deeper {k : Nat} {A : Around} (r : Room (k + 1) A) (env : Env) : Room k (A.deeper env) :=
  ⟨r.hd, by have := r.dp; show A.depth + 1 + 3 * k + 5 < _; omega, by have := r.un; show A.units + 3 + 16 * k + 200 < _; omega⟩
theorem make_depth {A : Around} {C : Addr} {us : List Value} {kw : List (Str × Value)} : (A.under (.builtin "type.__call__" ⟨.ref C :: us, kw⟩)).depth = A.depth + 1 := by
  first | rfl | simp [Around.under, Code.weight, Code.isCreation, Code.isGuard, Code.isCaller, Code.frames, Code.isFrame, guardIds]
theorem make_units {A : Around} {C : Addr} {us : List Value} {kw : List (Str × Value)} : (A.under (.builtin "type.__call__" ⟨.ref C :: us, kw⟩)).units = A.units + 1 := by
  first | rfl | simp [Around.under, Code.cUnits, Code.frames, Code.isFrame]
theorem Room.make {k : Nat} {A : Around} (r : Room (k + 1) A) (C : Addr) (us : List Value) (kw : List (Str × Value)) : Room k (A.under (.builtin "type.__call__" ⟨.ref C :: us, kw⟩)) :=
  ⟨r.hd, by have := r.dp; rw [make_depth]; omega, by have := r.un; rw [make_units]; omega⟩
theorem Room.depth {k : Nat} {A : Around} (r : Room k A) : A.depth < recursionLimit := by have := r.dp; omega
theorem Room.units {k : Nat} {A : Around} (r : Room k A) : A.units + 64 < cLine := by have := r.un; omega
def tNil : TA := fun _ H Q => Q [] H
def tCons (ta : TE) (tr : TA) : TA := fun σ H Q => ta σ H fun x H1 => tr σ H1 fun xs H2 => Q (x :: xs) H2
section
variable {X : Cx} {e : Expr} {es : List Expr} {te : TE} {t : TA} {pos : Pos}
theorem pa_nil : PA X [] tNil := fun _ _ _ _ H Q I h => Calls.spliced_nil ⟨[], H, I, .nil, h⟩
theorem pa_cons (ha : PE X e te) (hr : PA X es t) (hs : starEach (e :: es) X.env = (false, eval e X.env) :: starEach es X.env := by rfl) : PA X (e :: es) (tCons te t) := by
  intro pos pins s σ H Q I h
  rw [hs]
  show wpAny _ _ (spliced ((false, eval e X.env) :: backTo pos (starEach es X.env))) _ _ s
  refine Calls.spliced_cons (thn (ha pins s σ H _ I h) fun u s1 ⟨x, H1, I1, r1, q1⟩ => ?_)
  exact thn (hr pos pins s1 σ H1 _ I1 q1) fun us s2 ⟨xs, H2, I2, r2, q2⟩ => ⟨x :: xs, H2, I2, .cons r1 r2, q2⟩
def tTup (t : TA) : TE := fun σ H Q => t σ H fun xs H1 => xs.length ≤ sizeLine ∧ ∀ p, H1 p = none → Q (.ref p) (upd H1 p (.tup xs))
def tLst (t : TA) : TE := fun σ H Q => t σ H fun xs H1 => xs.length ≤ sizeLine ∧ ∀ p, H1 p = none → Q (.ref p) (upd H1 p (.lst xs))
theorem pe_tup {x1} (h : PA X es t) : PE X (.Tuple es x1 pos) (tTup t) := by
  intro pins s σ H Q I hq
  refine wpAny_Tuple_spliced (thn (h pos pins s σ H _ I hq) fun us s1 ⟨xs, H1, I1, r, z, q⟩ => ⟨by rw [← r.length]; exact z, ?_⟩)
  have hf : H1 s1.heap.objs.size = none := I1.hok.fresh (Nat.le_refl _)
  refine ⟨.ref s1.heap.objs.size, upd H1 s1.heap.objs.size (.tup xs), I1.laid (t' := s1.toks) (fun b u e => Heap.get?_push_of_some _ e) (Nat.le_refl _) ?_, rfl, q _ hf⟩
  exact ⟨z, us, r, ⟨_, Heap.get?_push_size _ rfl, rfl, _, rfl⟩⟩
theorem pe_lst (h : PA X es t) : PE X (.List es pos) (tLst t) := by
  intro pins s σ H Q I hq
  refine wpAny_List_spliced (thn (h pos pins s σ H _ I hq) fun us s1 ⟨xs, H1, I1, r, z, q⟩ => ⟨by rw [← r.length]; exact z, ?_⟩)
  have hf : H1 s1.heap.objs.size = none := I1.hok.fresh (Nat.le_refl _)
  refine ⟨.ref s1.heap.objs.size, upd H1 s1.heap.objs.size (.lst xs), I1.laid (t' := s1.toks) (fun b u e => Heap.get?_push_of_some _ e) (Nat.le_refl _) ?_, rfl, q _ hf⟩
  exact ⟨z, us, 0, r, Heap.get?_push_size _ rfl⟩
end
abbrev Sp := List V → Hp → VK → XK → Prop
abbrev CXT := List Env → Hp → Shared → XK → Value → Shared → Prop
structure Env0 (P : Program) (w : World) (K : PySem.W.Frag) (mg : Str → Option Value) (base : Heap) (A : Around) (outer : List Env) (s : Shared) (H : Hp) : Prop where
  frames : A.frames = some outer
  mod : Mod K mg base
  bs : ∀ b o, base.get? b = some o → s.heap.get? b = some o ∧ H b = none
  bsz : base.objs.size ≤ s.heap.objs.size
  funs : s.heap.FunFrames base outer
  frf : ∀ b ∈ frs outer, H b = none
  hok : HOk P w H s.heap
  bare : AllBare s.gens
def CE (outer : List Env) (P : Program) (w : World) (H : Hp) (s : Shared) (Q : VK) (u : Value) (s' : Shared) : Prop :=
  ∃ v H', s'.os = s.os ∧ AllBare s'.gens ∧ Un (frs outer) [] H H' s.heap s'.heap ∧ HOk P w H' s'.heap ∧ RelV v u ∧ Q v H'
def CR (CX : CXT) (outer : List Env) (P : Program) (w : World) (H : Hp) (s : Shared) (Q : VK) (E : XK) (r : Result) (s' : Shared) : Prop :=
  match r with
  | .ok (.ret u) => CE outer P w H s Q u s'
  | .ok _ => False
  | .error e => CX outer H s E e s'
structure FnOk (P : Program) (w : World) (K : PySem.W.Frag) (mg : Str → Option Value) (base : Heap) (CX : CXT) (k : Nat) (f : Addr) (fd : FuncData) (ps : List Str) (sp : Sp) : Prop where
  len : ∀ vs H Q E, sp vs H Q E → vs.length = ps.length
  run : ∀ (A : Around) (outer : List Env) (s : Shared) (H : Hp) (args : Args) (us : List Value) (vs : List V) (Q : VK) (E : XK), Room k A → Env0 P w K mg base A outer s H → BindsTo s fd args (ps.zip us) → Vals vs us → sp vs H Q E →
    codeAny (model P w) A (.call (.ref f) args) (CR CX outer P w H s Q E) s
theorem FnOk.mono {P : Program} {w : World} {K : PySem.W.Frag} {mg : Str → Option Value} {base : Heap} {CX : CXT} {j k : Nat} {f : Addr} {fd : FuncData} {ps : List Str} {sp : Sp} (F : FnOk P w K mg base CX j f fd ps sp) (h : j ≤ k) :
    FnOk P w K mg base CX k f fd ps sp := ⟨F.len, fun A outer s H args us vs Q E hr => F.run A outer s H args us vs Q E (hr.mono h)⟩
theorem Env0.make {P : Program} {w : World} {K : PySem.W.Frag} {mg : Str → Option Value} {base : Heap} {A : Around} {outer : List Env} {s : Shared} {H : Hp} (e : Env0 P w K mg base A outer s H) (C : Addr) (us : List Value) (kw : List (Str × Value)) :
    Env0 P w K mg base (A.under (.builtin "type.__call__" ⟨.ref C :: us, kw⟩)) outer s H := ⟨by first | exact e.frames | (simpa [Around.under, Code.envs, Code.isFrame, pushEnvs] using e.frames), e.mod, e.bs, e.bsz, e.funs, e.frf, e.hok, e.bare⟩
section
variable {X : Cx} {pins : List (Addr × Obj)} {σ : St} {H : Hp} {s s' : Shared}
theorem Inv.env0 (I : Inv X pins σ H s) : Env0 X.prog X.w X.K X.mg X.base X.A X.stack s H :=
  ⟨I.ok.frames, I.ok.mod, I.bs, Nat.le_trans I.ok.bsz I.sz, I.stack, I.stkFree, I.hok, I.bare⟩
theorem Inv.after {Q : VK} {u : Value} (I : Inv X pins σ H s) (h : CE X.stack X.prog X.w H s Q u s') : EP X pins σ Q u s' := by
  obtain ⟨v, H', os, bare, un, hok, r, q⟩ := h
  obtain ⟨hh, g, d, t, os'⟩ := s'
  obtain rfl : os' = s.os := os
  exact ⟨v, H', I.call (h' := hh) (g' := g) (d' := d) (t' := t) (ch := []) un hok bare (fun b z => absurd z (by simp)), r, q⟩
end
def tCall (sp : Sp) (dvs : List V) (E : XK) (t : TA) : TE := fun σ H Q => t σ H fun vs H1 => sp (vs ++ dvs) H1 Q E
def tMeth (C : Addr) (m : Str) (sp : Sp) (dvs : List V) (E : XK) (ta : TE) (t : TA) : TE := fun σ H Q => ta σ H fun x H1 => ∃ a dx fs, x = .ref a ∧ H1 a = some (.ins C dx fs) ∧ fs.lookup m = none ∧
  t σ H1 fun vs H2 => sp (x :: (vs ++ dvs)) H2 Q E
def tMake (C : Addr) (sp : Sp) (dvs : List V) (E : XK) (t : TA) : TE := fun σ H Q => t σ H fun vs H1 => ∀ x dx, H1 x = none → H1 dx = none → dx ≠ x →
  sp (.ref x :: (vs ++ dvs)) (upd (upd H1 dx (.own x)) x (.ins C dx [])) (fun v H2 => v = .non ∧ Q (.ref x) H2) E
def Binds (K : PySem.W.Frag) (fd : FuncData) (ps : List Str) (ds : List Value) : Prop :=
  ∀ (s : Shared) (us : List Value), K.In s.heap → (us ++ ds).length = ps.length → BindsTo s fd ⟨us, []⟩ (ps.zip (us ++ ds))
theorem Binds.all {K : PySem.W.Frag} {fd : FuncData} {ps : List Str} (h : ∀ us : List Value, us.length = ps.length → bindArgs fd ⟨us, []⟩ = pure (ps.zip us)) : Binds K fd ps [] := fun s us _ hl => by
  rw [List.append_nil] at hl ⊢
  exact .of_eq (h us hl)
def Passes (CX : CXT) (X : Cx) (E : XK) : Prop := ∀ (pins : List (Addr × Obj)) (σ : St) (H : Hp) (s : Shared) (e : Value) (s' : Shared), Inv X pins σ H s → CX X.stack H s E e s' → X.xe e s'
section
variable {X : Cx} {CX : CXT} {k : Nat} {f C : Addr} {fd : FuncData} {ps : List Str} {sp : Sp} {dvs : List V} {ds : List Value} {E : XK} {x m : Str} {p pos apos : Pos} {e o : Expr} {es : List Expr} {ta : TE} {t : TA}
theorem run_fn {pins : List (Addr × Obj)} {σ : St} {H : Hp} {s : Shared} {Q : VK} {us : List Value} {vs : List V} (F : FnOk X.prog X.w X.K X.mg X.base CX k f fd ps sp) (hr : Room k X.A) (hb : Binds X.K fd ps ds) (hd : Vals dvs ds) (hx : Passes CX X E)
    (I : Inv X pins σ H s) (r : Vals vs us) (h : sp (vs ++ dvs) H Q E) : wpAny (model X.prog X.w) X.A (call (.ref f) us) (EP X pins σ Q) X.xe s := by
  have r2 : Vals (vs ++ dvs) (us ++ ds) := r.append hd
  have hl : (us ++ ds).length = ps.length := by rw [← r2.length]; exact F.len _ _ _ _ h
  refine wpAny_call (codeAny_mono (F.run X.A X.stack s H ⟨us, []⟩ (us ++ ds) (vs ++ dvs) Q E hr I.env0 (hb s us I.kIn hl) r2 h) fun r s' hq => ?_)
  cases r with
  | error e => exact hx pins σ H s e s' I hq
  | ok fl =>
    cases fl with
    | ret u => exact I.after hq
    | next => exact False.elim hq
    | brk => exact False.elim hq
    | cont => exact False.elim hq
theorem pe_call (F : FnOk X.prog X.w X.K X.mg X.base CX k f fd ps sp) (hr : Room k X.A) (hg : Gl X x) (hm : X.mg x = some (.ref f)) (hk : PySem.W.keepIn X.K (.ref f) = true) (hb : Binds X.K fd ps ds) (hd : Vals dvs ds) (hx : Passes CX X E)
    (ha : PA X (e :: es) t) (hdb : (x == ("__debug__" : Str)) = false := by decide) (he : starEach (e :: es) X.env = (false, eval e X.env) :: starEach es X.env := by rfl) (hpl : (backTo pos (starEach es X.env)).any (·.1) = false := by rfl) :
    PE X (.Call (.Name x p) (e :: es) [] pos) (tCall sp dvs E t) := by
  intro pins s σ H Q I h
  refine wpAny_Call_Name_kw (ld_glob I hg hm ?_ hdb)
  refine PySem.W.callWith_K (h₀ := X.base) I.ok.mod.kin hk (thn (ha pos pins s σ H _ I h) fun us s1 ⟨vs, H1, I1, r, q⟩ => ⟨I1.kIn, ?_⟩) he hpl
  exact run_fn F hr hb hd hx I1 r q
theorem pe_meth {pl : Sem Bool} (he : PE X o ta) (c : Cls X.K C) (hm : Meth X.K C m f) (F : FnOk X.prog X.w X.K X.mg X.base CX k f fd ps sp) (hr : Room k X.A) (hb : Binds X.K fd ps ds) (hd : Vals dvs ds) (hx : Passes CX X E) (ha : PA X (e :: es) t)
    (hst : starEach (e :: es) X.env = (false, eval e X.env) :: starEach es X.env := by rfl) (hpl : (backTo pos (starEach es X.env)).any (·.1) = false := by rfl)
    (ht : eval (.Call (.Attribute o m apos) (e :: es) [] pos) X.env = (do
      let ov ← eval o X.env
      standAt apos.atName
      let (f, first) ← holding [ov] (getMethod ov m pl)
      callWith pos f first (backTo pos (starEach (e :: es) X.env)) (backToKw pos (keywordEach [] X.env))) := by rfl) :
    PE X (.Call (.Attribute o m apos) (e :: es) [] pos) (tMeth C m sp dvs E ta t) := by
  intro pins s σ H Q I h
  refine PySem.W.methodCall_KW (pl := pl) (thn (he pins s σ H _ I h) fun u s1 ⟨x, H1, I1, rx, a, dx, fs, ex, ea, l, q⟩ => ?_) ht
  subst ex
  obtain rfl : u = Value.ref a := rx
  refine getmeth_ok I1 ea c hm l ?_
  refine PySem.W.callWith_K (first := [.ref a]) (h₀ := X.base) I.ok.mod.kin hm.kp (thn (ha pos pins s1 σ H1 _ I1 q) fun us s2 ⟨vs, H2, I2, r, q2⟩ => ⟨I2.kIn, ?_⟩) hst hpl
  exact run_fn (us := .ref a :: us) (vs := .ref a :: vs) F hr hb hd hx I2 (.cons rfl r) q2
theorem pe_meth0 {pl : Sem Bool} (he : PE X o ta) (c : Cls X.K C) (hm : Meth X.K C m f) (F : FnOk X.prog X.w X.K X.mg X.base CX k f fd ps sp) (hr : Room k X.A) (hb : Binds X.K fd ps ds) (hd : Vals dvs ds) (hx : Passes CX X E)
    (ht : eval (.Call (.Attribute o m apos) [] [] pos) X.env = (do
      let ov ← eval o X.env
      standAt apos.atName
      let (f, first) ← holding [ov] (getMethod ov m pl)
      callWith pos f first (backTo pos (starEach [] X.env)) (backToKw pos (keywordEach [] X.env))) := by rfl) :
    PE X (.Call (.Attribute o m apos) [] [] pos) (tMeth C m sp dvs E ta tNil) := by
  intro pins s σ H Q I h
  refine PySem.W.methodCall_KW (pl := pl) (thn (he pins s σ H _ I h) fun u s1 ⟨x, H1, I1, rx, a, dx, fs, ex, ea, l, q⟩ => ?_) ht
  subst ex
  obtain rfl : u = Value.ref a := rx
  refine getmeth_ok I1 ea c hm l ?_
  exact PySem.W.callWith_K0 (first := [.ref a]) I1.kIn hm.kp (run_fn (us := [.ref a]) (vs := [.ref a]) F hr hb hd hx I1 (.cons rfl .nil) q)
structure Mk (K : PySem.W.Frag) (C f : Addr) : Prop where
  makes : PySem.W.makesIn K C = true
  init : PySem.W.findIn K (.ref C) "__init__" = some (some (.ref f))
  fn : PySem.W.isFn K (.ref f) = true
  kp : PySem.W.keepIn K (.ref C) = true
theorem run_make {pins : List (Addr × Obj)} {σ : St} {H : Hp} {s : Shared} {Q : VK} {us : List Value} {vs : List V} (M : Mk X.K C f) (F : FnOk X.prog X.w X.K X.mg X.base CX k f fd ps sp) (hr : Room (k + 1) X.A) (hb : Binds X.K fd ps ds) (hd : Vals dvs ds)
    (hx : Passes CX X E) (I : Inv X pins σ H s) (r : Vals vs us)
    (h : ∀ x dx, H x = none → H dx = none → dx ≠ x → sp (.ref x :: (vs ++ dvs)) (upd (upd H dx (.own x)) x (.ins C dx [])) (fun v H2 => v = .non ∧ Q (.ref x) H2) E) :
    wpAny (model X.prog X.w) X.A (call (.ref C) us) (EP X pins σ Q) X.xe s := by
  have hq := h (s.heap.objs.size + 1) s.heap.objs.size (I.hok.fresh (Nat.le_succ _)) (I.hok.fresh (Nat.le_refl _)) (Nat.ne_of_lt (Nat.lt_succ_self _))
  have I2 := Inv.made (C := C) I
  have r2 : Vals (V.ref (s.heap.objs.size + 1) :: (vs ++ dvs)) (Value.ref (s.heap.objs.size + 1) :: (us ++ ds)) := .cons rfl (r.append hd)
  have hl : (Value.ref (s.heap.objs.size + 1) :: us ++ ds).length = ps.length := by
    have e := r2.length
    rw [F.len _ _ _ _ hq] at e
    exact e.symm
  refine wpAny_call (make_map (f := f) I.kIn M.makes M.init (beq_iff_eq.mp M.fn) (codeAny_mono (F.run _ X.stack _ _ ⟨Value.ref (s.heap.objs.size + 1) :: us, []⟩ (Value.ref (s.heap.objs.size + 1) :: (us ++ ds)) _ _ E (hr.make C us [])
    (I2.env0.make C us []) (hb _ (Value.ref (s.heap.objs.size + 1) :: us) I2.kIn hl) r2 hq) fun r s' hq' => ?_))
  cases r with
  | error e => exact hx pins σ _ _ e s' I2 hq'
  | ok fl =>
    cases fl with
    | ret u =>
      obtain ⟨v, H', I3, rv, ev, q3⟩ := I2.after hq'
      subst ev
      exact ⟨rv, ⟨V.ref (s.heap.objs.size + 1), H', I3, rfl, q3⟩⟩
    | next => exact False.elim hq'
    | brk => exact False.elim hq'
    | cont => exact False.elim hq'
theorem pe_make (M : Mk X.K C f) (F : FnOk X.prog X.w X.K X.mg X.base CX k f fd ps sp) (hr : Room (k + 1) X.A) (hg : Gl X x) (hm : X.mg x = some (.ref C)) (hb : Binds X.K fd ps ds) (hd : Vals dvs ds) (hx : Passes CX X E)
    (ha : PA X (e :: es) t) (hdb : (x == ("__debug__" : Str)) = false := by decide) (he : starEach (e :: es) X.env = (false, eval e X.env) :: starEach es X.env := by rfl) (hpl : (backTo pos (starEach es X.env)).any (·.1) = false := by rfl) :
    PE X (.Call (.Name x p) (e :: es) [] pos) (tMake C sp dvs E t) := by
  intro pins s σ H Q I h
  refine wpAny_Call_Name_kw (ld_glob I hg hm ?_ hdb)
  refine PySem.W.callWith_K (h₀ := X.base) I.ok.mod.kin M.kp (thn (ha pos pins s σ H _ I h) fun us s1 ⟨vs, H1, I1, r, q⟩ => ⟨I1.kIn, ?_⟩) he hpl
  exact run_make M F hr hb hd hx I1 r q
theorem pe_make0 (M : Mk X.K C f) (F : FnOk X.prog X.w X.K X.mg X.base CX k f fd ps sp) (hr : Room (k + 1) X.A) (hg : Gl X x) (hm : X.mg x = some (.ref C)) (hb : Binds X.K fd ps ds) (hd : Vals dvs ds) (hx : Passes CX X E)
    (hdb : (x == ("__debug__" : Str)) = false := by decide) : PE X (.Call (.Name x p) [] [] pos) (tMake C sp dvs E tNil) := by
  intro pins s σ H Q I h
  refine wpAny_Call_Name_kw (ld_glob I hg hm ?_ hdb)
  exact PySem.W.callWith_K0 I.kIn M.kp (run_make (us := []) M F hr hb hd hx I .nil h)
end
section
variable {X : Cx} {CX : CXT} {k : Nat} {f C : Addr} {fd : FuncData} {ps ks : List Str} {sp : Sp} {E : XK} {x m : Str} {p pos apos kpos : Pos} {e o : Expr} {es : List Expr} {kws : List Keyword} {te ta : TE} {t tk : TA} {nm : Option Str}
variable {g : List Value → List Value → List Value} {gV : List V → List V → List V}
end
structure FnScope (N P : List Str) (sc : Scope) : Prop where
  kind : sc.kind = .function
  co : sc.isCoroutine = false
  gen : sc.isGenerator = false
  nd : N.Nodup
  pre : N.take P.length = P
  par : ∀ x ∈ P, sc.names.lookup x = some .local ∨ sc.names.lookup x = some .cell
  nofree : ∀ y ∈ sc.names, y.2 ≠ .free
theorem bindL_out {kindOf : Str → Option NameKind} {x : Str} : ∀ {binds : List (Str × Value)} {m : Str → Option Value}, (∀ v, (x, v) ∉ binds) → bindL kindOf binds m x = m x
  | [], _, _ => rfl
  | (n, v) :: r, m, h => by
    unfold bindL
    rw [bindL_out fun w hw => h w (List.mem_cons_of_mem _ hw)]
    split
    · have : x ≠ n := by rintro rfl; exact h v List.mem_cons_self
      simp [this]
    · rfl
theorem bindC_out {kindOf : Str → Option NameKind} {x : Str} : ∀ {binds : List (Str × Value)} {m : Str → Option Value}, (∀ v, (x, v) ∉ binds) → bindC kindOf binds m x = m x
  | [], _, _ => rfl
  | (n, v) :: r, m, h => by
    unfold bindC
    rw [bindC_out fun w hw => h w (List.mem_cons_of_mem _ hw)]
    split
    · rfl
    · have : x ≠ n := by rintro rfl; exact h v List.mem_cons_self
      simp [this]
theorem bindL_get {kindOf : Str → Option NameKind} {x : Str} {v : Value} : ∀ {P : List Str} {vs : List Value} {i : Nat} {m : Str → Option Value}, P.Nodup → P[i]? = some x → vs[i]? = some v → kindOf x = some .local →
    bindL kindOf (P.zip vs) m x = some v
  | [], _, _, _, _, h, _, _ => by simp at h
  | _ :: _, [], _, _, _, _, h, _ => by simp at h
  | p :: P, w :: vs, 0, m, nd, h1, h2, hk => by
    simp at h1 h2; subst h1; subst h2
    show bindL kindOf ((p, w) :: P.zip vs) m p = _
    unfold bindL
    rw [bindL_out fun v hv => (List.nodup_cons.mp nd).1 (List.of_mem_zip hv).1, if_pos hk]
    simp
  | p :: P, w :: vs, i + 1, m, nd, h1, h2, hk => by
    show bindL kindOf ((p, w) :: P.zip vs) m x = _
    unfold bindL
    exact bindL_get (i := i) (List.nodup_cons.mp nd).2 (by simpa using h1) (by simpa using h2) hk
theorem bindC_get {kindOf : Str → Option NameKind} {x : Str} {v : Value} : ∀ {P : List Str} {vs : List Value} {i : Nat} {m : Str → Option Value}, P.Nodup → P[i]? = some x → vs[i]? = some v → kindOf x ≠ some .local →
    bindC kindOf (P.zip vs) m x = some v
  | [], _, _, _, _, h, _, _ => by simp at h
  | _ :: _, [], _, _, _, _, h, _ => by simp at h
  | p :: P, w :: vs, 0, m, nd, h1, h2, hk => by
    simp at h1 h2; subst h1; subst h2
    show bindC kindOf ((p, w) :: P.zip vs) m p = _
    unfold bindC
    rw [bindC_out fun v hv => (List.nodup_cons.mp nd).1 (List.of_mem_zip hv).1, if_neg hk]
    simp
  | p :: P, w :: vs, i + 1, m, nd, h1, h2, hk => by
    show bindC kindOf ((p, w) :: P.zip vs) m x = _
    unfold bindC
    exact bindC_get (i := i) (List.nodup_cons.mp nd).2 (by simpa using h1) (by simpa using h2) hk
def start (N : List Str) (vs : List V) : St := vs.map some ++ List.replicate (N.length - vs.length) none
def cxOf (CX : CXT) (P : Program) (w : World) (K : PySem.W.Frag) (mg : Str → Option Value) (base : Heap) (N : List Str) (qual : Str) (scope : Scope) (f : Addr) (cd : Value) (A : Around) (outer : List Env) (s : Shared) (H : Hp) (E : XK) : Cx where
  prog := P
  w := w
  K := K
  mg := mg
  base := base
  A := A.deeper (envOfC qual scope s.heap.objs.size f cd)
  N := N
  s_0 := s
  H_0 := H
  env := envOfC qual scope s.heap.objs.size f cd
  outer := outer
  stack := envOfC qual scope s.heap.objs.size f cd :: outer
  ex := []
  calm := true
  fn := fun _ => true
  pn := []
  xe := fun e s' => wpAny (model P w) (A.deeper (envOfC qual scope s.heap.objs.size f cd)) (leaving (envOfC qual scope s.heap.objs.size f cd) e) (fun _ s'' => CX outer H s E e s'') (fun e' s'' => CX outer H s E e' s'') s'
theorem cell_has {sc : Scope} {n : Nat} {x : Str} (h : sc.names.lookup x = some .cell) : ∃ c, (cellsFrom n sc.names []).lookup x = some c := by
  have q := PySem.W.cellsFrom_some sc.names n [] (.inl h)
  exact Option.isSome_iff_exists.mp q
theorem inv_start {CX : CXT} {P : Program} {w : World} {K : PySem.W.Frag} {mg : Str → Option Value} {base : Heap} {N ps : List Str} {qual : Str} {scope : Scope} {f : Addr} {cd : Value} {A : Around} {outer : List Env} {s s1 : Shared} {H : Hp} {E : XK} {us : List Value} {vs : List V}
    (S : FnScope N ps scope) (hd : A.handled = none) (e0 : Env0 P w K mg base A outer s H) (hl : vs.length = ps.length) (r : Vals vs us)
    (x : InCallC s s.heap.objs.size (bindL (envOfC qual scope s.heap.objs.size f cd).kindOf (ps.zip us) fun _ => none) (cellsFrom (s.heap.objs.size + 1) scope.names []) (bindC (envOfC qual scope s.heap.objs.size f cd).kindOf (ps.zip us) fun _ => none) s1) :
    Inv (cxOf CX P w K mg base N qual scope f cd A outer s H E) [] (start N vs) H s1 := by
  have hpl : ps.length ≤ N.length := by have := congrArg List.length S.pre; rw [List.length_take] at this; omega
  obtain ⟨h1, tk, rfl, hk⟩ := x.done
  have noA : ∀ b : Addr, b ∉ (cxOf CX P w K mg base N qual scope f cd A outer s H E).ex := fun b z => absurd (show b ∈ ([] : List Addr) from z) (by simp)
  refine ⟨⟨e0.mod, S.kind, rfl, rfl, Nat.le_refl _, fun y z c h1 h2 => ?_, fun y hy => ?_, fun y c _ h => ?_, fun _ => hd, Around.frames_deeper e0.frames, .inr ⟨rfl, rfl⟩, fun b z => absurd z (noA b), e0.bs, e0.bsz, fun b _ _ => noA b, fun b z => absurd z (noA b), e0.funs, e0.frf⟩,
    rfl, e0.bare, Un.kept hk, ⟨_, x.toInCall.ns, fun i y v h1 h2 h3 => ?_⟩, fun y c h => ⟨_, x.cell y c h⟩, e0.hok.fresh (Nat.le_refl _), fun y c h => ?_, fun p hp => absurd (show p ∈ ([] : List (Addr × Obj)) from hp) (by simp), e0.hok.kept hk, ?_⟩
  · exact name_of_addr x.apart (PySem.mem_of_lookup h1) (PySem.mem_of_lookup h2)
  · have hy : scope.names.lookup y = some .cell ∨ scope.names.lookup y = some .free := hy
    rcases hy with hy | hy
    · exact cell_has hy
    · exact absurd rfl (S.nofree _ (PySem.mem_of_lookup hy))
  · exact Nat.le_of_lt (x.above y c (PySem.mem_of_lookup h))
  · have hi : i < vs.length := by
      unfold start at h2
      by_cases hi : i < vs.length
      · exact hi
      · rw [List.getElem?_append_right (by simpa using hi)] at h2
        rw [List.getElem?_replicate] at h2
        split at h2 <;> cases h2
    have ha : vs[i]? = some v := by
      unfold start at h2
      rw [List.getElem?_append_left (by simpa using hi), List.getElem?_map] at h2
      cases e : vs[i]? with
      | none => rw [e] at h2; cases h2
      | some a => rw [e] at h2; cases h2; rfl
    obtain ⟨u, hu, rv⟩ := r.get ha
    have hp : ps[i]? = some y := by
      rw [← S.pre, List.getElem?_take_of_lt (by omega)]; exact h1
    have ndP : ps.Nodup := by rw [← S.pre]; exact S.nd.sublist (List.take_sublist _ _)
    refine ⟨u, rv, ?_⟩
    rcases S.par y (List.mem_of_getElem? hp) with k | k
    · exact .inl ⟨k, bindL_get ndP hp hu k⟩
    · obtain ⟨c, e⟩ := cell_has (n := s.heap.objs.size + 1) k
      refine .inr ⟨.inl k, c, e, ?_⟩
      have q := x.cell y c e
      rw [bindC_get ndP hp hu (by show scope.names.lookup y ≠ _; rw [k]; decide)] at q
      exact q
  · exact e0.hok.fresh (Nat.le_of_lt (x.above y c (PySem.mem_of_lookup h)))
  · unfold start
    show _ = N.length
    rw [List.length_append, List.length_map, List.length_replicate]
    omega
theorem fn_of {CX : CXT} {P : Program} {w : World} {K : PySem.W.Frag} {mg : Str → Option Value} {base : Heap} {k : Nat} {f : Addr} {name qual : Str} {params : Arguments} {body : List Stmt} {scope : Scope} {dV kV doc pm cdv ct oc : Value} {an od : Option Addr}
    {osl : Array (Option Value)} {N ps : List Str} {sp : Sp} (lk : K.lookup f = some ⟨oc, od, .func (PySem.W.fnOf name qual params body scope dV kV doc pm an cdv ct), osl⟩) (hcd : PySem.W.codeIn K cdv qual = true) (S : FnScope N ps scope)
    (len : ∀ vs H Q E, sp vs H Q E → vs.length = ps.length)
    (hbody : ∀ (A : Around) (outer : List Env) (s : Shared) (H : Hp) (vs : List V) (Q : VK) (E : XK), Room k (A.deeper (envOfC qual scope s.heap.objs.size f cdv)) → sp vs H Q E →
      ∃ t, PSs (cxOf CX P w K mg base N qual scope f cdv A outer s H E) body t ∧ t { nx := fun _ H' => Q .non H', rt := Q } (start N vs) H) :
    FnOk P w K mg base CX (k + 1) f (PySem.W.fnOf name qual params body scope dV kV doc pm an cdv ct) ps sp := by
  refine ⟨len, fun A outer s H args us vs Q E hr e0 hb r hsp => ?_⟩
  have hl := len _ _ _ _ hsp
  have KX : K.In s.heap := e0.mod.kin.keeps fun b o e => (e0.bs b o e).1
  have lim : s.heap.NoLimit := e0.mod.nolimit.keeps fun b o e => (e0.bs b o e).1
  have hkind : ∀ y ∈ ps.zip us, scope.names.lookup y.1 = some .local ∨ (scope.names.lookup y.1 = some .cell ∧ ((cellsFrom (s.heap.objs.size + 1) scope.names []).lookup y.1).isSome = true) := fun ⟨n, v⟩ hy => by
    rcases S.par n (List.of_mem_zip hy).1 with q | q
    · exact .inl q
    · exact .inr ⟨q, PySem.W.cellsFrom_some _ _ _ (.inl q)⟩
  refine codeAny_call_function hr.depth (KX _ _ lk) rfl S.co S.gen rfl (PySem.W.codeRec_of KX hcd) (hb _ _ _ _ ?_)
  refine wpAny_newFunctionEnv_cells S.kind hkind fun env he s1 x => ?_
  subst he
  refine ⟨lim.keeps x.toInCall.keep, codeAny_func ?_⟩
  obtain ⟨t, ht, hq⟩ := hbody A outer s H vs Q E (hr.deeper _) hsp
  have I : Inv (cxOf CX P w K mg base N qual scope f cdv A outer s H E) [] (start N vs) H s1 := inv_start S hr.hd e0 hl r x
  refine wpAny_mono (ht [] s1 (start N vs) H _ I hq) (fun fl s' hs => ?_) fun e s' hs => hs
  have fin : ∀ {σ' : St} {H' : Hp} {v : V} {u : Value}, Inv (cxOf CX P w K mg base N qual scope f cdv A outer s H E) [] σ' H' s' → RelV v u → Q v H' → CE outer P w H s Q u s' :=
    fun {σ' H' v u} J rv q => ⟨v, H', J.os, J.bare, J.base, J.hok, rv, q⟩
  cases fl with
  | ret u =>
    obtain ⟨v, σ', H', J, rv, q⟩ := hs
    exact fin J rv q
  | next =>
    obtain ⟨σ', H', J, q⟩ := hs
    exact fin (v := V.non) (u := Value.none) J rfl q
  | brk =>
    obtain ⟨_, _, _, q⟩ := hs
    exact False.elim q
  | cont =>
    obtain ⟨_, _, _, q⟩ := hs
    exact False.elim q
end L2
namespace L2
open PySem PySem.Spec PyProof.Rows
section
variable {X : Cx} {x : Str} {p pos : Pos} {e : Expr} {es : List Expr} {t : TA} {id T : String} {r : List V → Hp → VK → Prop}
def tCB (r : List V → Hp → VK → Prop) (t : TA) : TE := fun σ H Q => t σ H fun vs H1 => r vs H1 Q
theorem pe_callB (hc : CallR X (.builtin id) r) (hg : Gl X x) (hm : X.mg x = none) (hv : bootBuiltins x = some (.builtin id)) (ha : PA X (e :: es) t) (hn : x ≠ "__name__" := by decide) (hdb : (x == ("__debug__" : Str)) = false := by decide)
    (he : starEach (e :: es) X.env = (false, eval e X.env) :: starEach es X.env := by rfl) (hpl : (backTo pos (starEach es X.env)).any (·.1) = false := by rfl) : PE X (.Call (.Name x p) (e :: es) [] pos) (tCB r t) := by
  intro pins s σ H Q I h
  refine wpAny_Call_Name_kw (ld_blt I hg hm hv ?_ hn hdb)
  exact PyProof.Rows.callWith_builtin1 (thn (ha pos pins s σ H _ I h) fun us s1 ⟨vs, H1, I1, r1, q1⟩ => hc pins s1 σ H1 vs us Q I1 r1 q1) he hpl
theorem pe_callTy (hc : CallR X (.type T) r) (hg : Gl X x) (hm : X.mg x = none) (hv : bootBuiltins x = some (.type T)) (ha : PA X (e :: es) t) (hn : x ≠ "__name__" := by decide) (hdb : (x == ("__debug__" : Str)) = false := by decide)
    (he : starEach (e :: es) X.env = (false, eval e X.env) :: starEach es X.env := by rfl) (hpl : (backTo pos (starEach es X.env)).any (·.1) = false := by rfl) : PE X (.Call (.Name x p) (e :: es) [] pos) (tCB r t) := by
  intro pins s σ H Q I h
  refine wpAny_Call_Name_kw (ld_blt I hg hm hv ?_ hn hdb)
  exact PyProof.Rows.callWith_type1 (thn (ha pos pins s σ H _ I h) fun us s1 ⟨vs, H1, I1, r1, q1⟩ => hc pins s1 σ H1 vs us Q I1 r1 q1) he hpl
end
end L2
namespace HT
open PySem PyProof.Rows
section
open PySem.SeqAt
open PySem.AutoSeq1 (wpAny_loadPart')
open PySem.MeetsSeq PySem.MeetsSeq2 PySem.MeetsSeq3
end
section
variable {prog : Program} {w : World} {A : Around} {E : Value → Shared → Prop} {s : Shared}
def sIx (n d : Nat) : Option Int → Nat
  | none => d
  | some v => if v < 0 then (v + (n : Int)).toNat else min v.toNat n
theorem sIx_nat (n d k : Nat) : sIx n d (some (k : Int)) = min k n := by
  show (if (k : Int) < 0 then ((k : Int) + (n : Int)).toNat else min (k : Int).toNat n) = min k n
  rw [if_neg (by omega), Int.toNat_natCast]
end
end HT
namespace L2
open PySem PySem.Spec PyProof.Rows
abbrev TO := St → Hp → (Option Int → Hp → Prop) → Prop
def PO (X : Cx) (e : Option Expr) (t : TO) : Prop :=
  ∀ (pins : List (Addr × Obj)) (s : Shared) (σ : St) (H : Hp) (Q : Option Int → Hp → Prop), Inv X pins σ H s → t σ H Q →
    wpAny (model X.prog X.w) X.A (evalPart e X.env) (fun u s' => ∃ o H', Inv X pins σ H' s' ∧ IsPart u o ∧ Q o H') X.xe s
def tPart (t : TE) : TO := fun σ H Q => t σ H fun x H1 => ∃ i, x = .int i ∧ Q (some i) H1
section
variable {X : Cx} {e : Expr} {te : TE} {lo hi : Option Expr} {tl th : TO} {pos p2 : Pos}
theorem po_some (h : PE X e te) : PO X (some e) (tPart te) := by
  intro pins s σ H Q I hw
  rw [evalPart_some]
  refine thn (h pins s σ H _ I hw) fun u s1 ⟨x, H1, I1, r1, q1⟩ => ?_
  obtain ⟨i, rfl, q⟩ := q1
  obtain ⟨t, rfl⟩ := r1
  exact ⟨some i, H1, I1, .int i t, q⟩
def SlR (X : Cx) (r : V → Option Int → Option Int → Hp → VK → Prop) : Prop :=
  ∀ (pins : List (Addr × Obj)) (s : Shared) (σ : St) (H : Hp) (x : V) (v vl vu : Value) (lo hi : Option Int) (sl : Addr) (Q : VK), Inv X pins σ H s → RelV x v → s.heap.IsSliceOf sl vl vu .none → IsPart vl lo → IsPart vu hi → r x lo hi H Q →
    ∃ T id, typeLookup (.type T) "__getitem__" = pure (some (.builtin id)) ∧ s.TypeIs v T ∧ wpAny (model X.prog X.w) X.A (getItem v (.ref sl)) (EP X pins σ Q) X.xe s
def tSl (r : V → Option Int → Option Int → Hp → VK → Prop) (te : TE) (tl th : TO) : TE := fun σ H Q => te σ H fun x H1 => tl σ H1 fun l H2 => th σ H2 fun u H3 => r x l u H3 Q
theorem pe_slice {r : V → Option Int → Option Int → Hp → VK → Prop} (hr : SlR X r) (he : PE X e te) (hl : PO X lo tl) (hu : PO X hi th) : PE X (.Subscript e (.Slice lo hi none p2) pos) (tSl r te tl th) := by
  intro pins s σ H Q I h
  refine Subscript_ (thn (he pins s σ H _ I h) fun v s1 ⟨x, H1, I1, r1, q1⟩ => ?_)
  refine wpAny_Slice (thn (hl pins s1 σ H1 _ I1 q1) fun vl s2 ⟨l, H2, I2, pl, q2⟩ => thn (hu pins s2 σ H2 _ I2 q2) fun vu s3 ⟨u, H3, I3, pu, q3⟩ => ?_)
  rw [evalPart_none]
  refine wpAny_pure ?_
  have I4 : Inv X pins σ H3 { s3 with heap := s3.heap.push { cls := .type "slice", data := .fields #[vl, vu, .none] } } := I3.kept (t' := s3.toks) fun b ob q => Heap.get?_push_of_some _ q
  obtain ⟨T, id, hT, ht, hg⟩ := hr pins { s3 with heap := s3.heap.push { cls := .type "slice", data := .fields #[vl, vu, .none] } } σ H3 x v vl vu l u s3.heap.objs.size Q I4 r1 (Heap.IsSliceOf.new ..) pl pu q3
  show wpAny (model X.prog X.w) X.A (subscriptTail e (.Slice lo hi none p2) v (.ref s3.heap.objs.size)) (EP X pins σ Q) X.xe { s3 with heap := s3.heap.push { cls := .type "slice", data := .fields #[vl, vu, .none] } }
  exact tail_any (ops := [.ref s3.heap.objs.size, v]) ht hT hg (by with_unfolding_all rfl)
def cutV (xs : List V) (lo hi : Option Int) : List V := (xs.drop (HT.sIx xs.length 0 lo)).take (HT.sIx xs.length xs.length hi - HT.sIx xs.length 0 lo)
theorem cutV_length (xs : List V) (lo hi : Option Int) : (cutV xs lo hi).length ≤ xs.length := by
  unfold cutV
  rw [List.length_take, List.length_drop]
  omega
end
end L2
namespace L2
open PySem PySem.Spec PyProof.Rows
def ixN (n : Nat) (i : Int) : Option Nat := if 0 ≤ i then (if i < n then some i.toNat else none) else if -(n : Int) ≤ i then some (i + n).toNat else none
def atI {α : Type} (xs : List α) (i : Int) : Option α := (ixN xs.length i).bind fun j => xs[j]?
theorem ixN_seq {n : Nat} {i : Int} {j : Nat} (h : ixN n i = some j) : seqIndex? i n = some j ∧ j < n ∧ -(n : Int) ≤ i ∧ i < n := by
  unfold ixN at h
  by_cases h0 : 0 ≤ i
  · rw [if_pos h0] at h
    by_cases h1 : i < n
    · rw [if_pos h1] at h
      have e : i.toNat = j := Option.some.inj h
      exact ⟨by rw [seqIndex_of h0 h1, e], by omega, by omega, h1⟩
    · rw [if_neg h1] at h; cases h
  · rw [if_neg h0] at h
    by_cases h1 : -(n : Int) ≤ i
    · rw [if_pos h1] at h
      have e : (i + n).toNat = j := Option.some.inj h
      exact ⟨by rw [seqIndex_neg (by omega) h1, e], by omega, h1, by omega⟩
    · rw [if_neg h1] at h; cases h
theorem atI_get {α : Type} {xs : List α} {i : Int} {v : α} (h : atI xs i = some v) : ∃ j, seqIndex? i xs.length = some j ∧ xs[j]? = some v ∧ j < xs.length ∧ -(xs.length : Int) ≤ i ∧ i < xs.length := by
  unfold atI at h
  cases e : ixN xs.length i with
  | none => rw [e] at h; cases h
  | some j =>
    rw [e] at h
    obtain ⟨h1, h2, h3, h4⟩ := ixN_seq e
    exact ⟨j, h1, h, h2, h3, h4⟩
theorem atI_nat {α : Type} {xs : List α} {j : Nat} {v : α} (h : xs[j]? = some v) : atI xs (j : Int) = some v := by
  have hj : j < xs.length := (List.getElem?_eq_some_iff.mp h).1
  have e : ixN xs.length (j : Int) = some j := by
    unfold ixN
    rw [if_pos (by omega), if_pos (by omega)]; simp
  unfold atI; rw [e]; exact h
def PlainIx (b : Expr) : Prop := ∀ o i, subscripted b false o i = operate [o, i] (getItem o i)
def IxR (X : Cx) (r : R2) : Prop :=
  ∀ (value slice : Expr) (pins : List (Addr × Obj)) (s : Shared) (σ : St) (H : Hp) (x y : V) (v u : Value) (Q : VK), Inv X pins σ H s → RelV x v → RelV y u → r x y H Q →
    subscripted slice false v u = operate [v, u] (getItem v u) → wpAny (model X.prog X.w) X.A (subscriptTail value slice v u) (EP X pins σ Q) X.xe s
def MtR (X : Cx) (id : String) (r : V → List V → Hp → VK → Prop) : Prop :=
  ∀ (pins : List (Addr × Obj)) (s : Shared) (σ : St) (H : Hp) (x : V) (xs : List V) (v : Value) (us : List Value) (Q : VK), Inv X pins σ H s → RelV x v → Vals xs us → r x xs H Q →
    wpAny (model X.prog X.w) X.A (call (.builtin id) (v :: us)) (EP X pins σ Q) X.xe s
section
variable {X : Cx} {a b : Expr} {ta tb : TE} {pos : Pos}
theorem pe_ix {r : R2} (hr : IxR X r) (ha : PE X a ta) (hb : PE X b tb) (hs : PlainIx b) : PE X (.Subscript a b pos) (tOp r ta tb) := by
  intro pins s σ H Q I h
  exact Subscript_ (binT ha hb I h fun v u s2 x y H2 I2 rx ry q => hr a b pins s2 σ H2 x y v u Q I2 rx ry q (hs _ _))
def rIxL (K : PySem.W.Frag) : R2 := fun x y H Q => ∃ p xs i v, x = .ref p ∧ y = .int i ∧ SqL K H p xs ∧ atI xs i = some v ∧ Q v H
def rIxT (K : PySem.W.Frag) : R2 := fun x y H Q => ∃ p xs i v, x = .ref p ∧ y = .int i ∧ SqT K H p xs ∧ atI xs i = some v ∧ Q v H
theorem ix_list : IxR X (rIxL X.K) := by
  intro value slice pins s σ H x y v u Q I rx ry h hs
  obtain ⟨p, xs, i, z, rfl, rfl, hq, he, q⟩ := h
  cases rx
  obtain ⟨t, rfl⟩ := ry
  obtain ⟨its, r, pl, hz⟩ := I.list hq
  obtain ⟨j, h1, h2, h3, h4, h5⟩ := atI_get he
  obtain ⟨w, ew, rw'⟩ := r.get h2
  have hl := r.length
  have hn := line63
  have fin : EP X pins σ Q w s := ⟨z, H, I, rw', q⟩
  by_cases h0 : 0 ≤ i
  · have hj : i.toNat = j := by
      rw [seqIndex_of h0 h5] at h1
      exact Option.some.inj h1
    exact item_listR pl.isList h0 (by omega) (by rw [hj]; simpa using ew) fin hs
  · have hj : (i + (its.toArray.size : Int)).toNat = j := by
      rw [seqIndex_neg (by omega) h4] at h1
      rw [List.size_toArray, ← hl]
      exact Option.some.inj h1
    exact subscriptTail_builtinR (x := w) pl.isList.typeIs slot_list_getitem.lookup
      (wpAny_getItem_list_neg (Q := fun r s' => r = w ∧ EP X pins σ Q r s') pl.isList (by omega) (by rw [List.size_toArray] <;> omega) (by omega) (by rw [hj]; simpa using ew) ⟨rfl, fin⟩) hs
theorem ix_tup : IxR X (rIxT X.K) := by
  intro value slice pins s σ H x y v u Q I rx ry h hs
  obtain ⟨p, xs, i, z, rfl, rfl, hq, he, q⟩ := h
  cases rx
  obtain ⟨t, rfl⟩ := ry
  obtain ⟨its, r, pl, hz⟩ := I.tuple hq
  obtain ⟨j, h1, h2, h3, h4, h5⟩ := atI_get he
  obtain ⟨w, ew, rw'⟩ := r.get h2
  have hl := r.length
  have hn := line63
  have fin : EP X pins σ Q w s := ⟨z, H, I, rw', q⟩
  exact subscriptTail_builtinR (x := w) pl.typeIs slot_tuple_getitem.lookup
    (getItem_tuple (j := j) (Q := fun r s' => r = w ∧ EP X pins σ Q r s') pl (by omega) (by omega) (by rw [List.size_toArray, ← hl]; exact h1) (by simpa using ew) ⟨rfl, fin⟩) hs
theorem mapSeq_set (its : List Value) (n j : Nat) (u : Value) : Obj.mapSeq (·.setIfInBounds j u) { cls := .type "list", data := .seq its.toArray n } = { cls := .type "list", data := .seq (its.set j u).toArray n } := by
  simp [Obj.mapSeq]
theorem Inv.lst {pins : List (Addr × Obj)} {σ : St} {H : Hp} {s : Shared} {p : Addr} {xs : List V} (I : Inv X pins σ H s) (h : H p = some (.lst xs)) :
    ∃ (its : List Value) (n : Nat), Vals xs its ∧ s.heap.get? p = some { cls := .type "list", data := .seq its.toArray n } ∧ xs.length ≤ sizeLine := by
  obtain ⟨z, its, n, r, e⟩ := I.hok p _ h
  exact ⟨its, n, r, e, z⟩
theorem Inv.lstUpd {pins : List (Addr × Obj)} {σ : St} {H : Hp} {s : Shared} {p : Addr} {xs ys : List V} {its its' : List Value} {n n' : Nat} {f : Obj → Obj} (I : Inv X pins σ H s) (h : H p = some (.lst xs))
    (ho : s.heap.get? p = some { cls := .type "list", data := .seq its.toArray n }) (hf : f { cls := .type "list", data := .seq its.toArray n } = { cls := .type "list", data := .seq its'.toArray n' }) (r : Vals ys its') (hz : ys.length ≤ sizeLine) (t : Nat) :
    Inv X pins σ (upd H p (.lst ys)) { s with heap := s.heap.update p f, toks := t } := by
  have e : (s.heap.update p f).get? p = some { cls := .type "list", data := .seq its'.toArray n' } := by
    rw [Heap.get?_update_self f ho (by rw [hf] <;> rfl), hf]
  refine I.write (x := p) (e := p) (by rw [h]; trivial) (.inl rfl) (fun b u hb q => (Heap.get?_update_other _ _ (Ne.symm hb)).trans q) ⟨_, e⟩ ?_
  exact ⟨hz, its', n', r, e⟩
def rSetL : V → V → V → Hp → (Hp → Prop) → Prop := fun o i v H Q => ∃ p xs k j, o = .ref p ∧ i = .int k ∧ H p = some (.lst xs) ∧ ixN xs.length k = some j ∧ Q (upd H p (.lst (xs.set j v)))
theorem set_list : PSet X rSetL := by
  intro pins s σ H o i v ov iv u Q I ro ri rv h
  obtain ⟨p, xs, k, j, rfl, rfl, hp, hj, q⟩ := h
  cases ro
  obtain ⟨t, rfl⟩ := ri
  obtain ⟨its, n, r, ho, hz⟩ := I.lst hp
  obtain ⟨h1, h2, h3, h4⟩ := ixN_seq hj
  have hl := r.length
  have hn := line63
  have I' : Inv X pins σ (upd H p (.lst (xs.set j v))) { s with heap := s.heap.update p (Obj.mapSeq (·.setIfInBounds j u)) } :=
    I.lstUpd hp ho (mapSeq_set its n j u) (r.set rv j) (by rw [List.length_set]; exact hz) s.toks
  by_cases h0 : 0 ≤ k
  · have hk : k.toNat = j := by
      rw [seqIndex_of h0 h4] at h1
      exact Option.some.inj h1
    exact PySem.W.ki_setAt ho h0 (by omega) (by rw [List.size_toArray, ← hl]; exact h4) (by rw [hk]; exact ⟨_, I', q⟩)
  · have hk : (k + (its.toArray.size : Int)).toNat = j := by
      rw [seqIndex_neg (by omega) h3] at h1
      rw [List.size_toArray, ← hl]
      exact Option.some.inj h1
    exact PySem.W.ki_setBack ho (by omega) (by rw [List.size_toArray, ← hl]; exact h3) (by omega) (by rw [hk]; exact ⟨_, I', q⟩)
theorem slice_bounds (lo hi : Option Int) (n : Nat) : (sliceBounds lo hi none n).1 = ((HT.sIx n 0 lo : Nat) : Int) ∧ (sliceBounds lo hi none n).2.1 = ((HT.sIx n n hi : Nat) : Int) ∧ (sliceBounds lo hi none n).2.2 = 1 := by
  refine ⟨?_, ?_, rfl⟩
  · cases lo with
    | none => simp [sliceBounds, HT.sIx]
    | some i =>
      simp only [sliceBounds, HT.sIx, Option.getD_none, show (1 : Int) > 0 by decide, if_true]
      by_cases h : i < 0
      · simp only [h, if_true] <;> omega
      · simp only [h, if_false] <;> omega
  · cases hi with
    | none => simp [sliceBounds, HT.sIx]
    | some i =>
      simp only [sliceBounds, HT.sIx, Option.getD_none, show (1 : Int) > 0 by decide, if_true]
      by_cases h : i < 0
      · simp only [h, if_true] <;> omega
      · simp only [h, if_false] <;> omega
theorem slicePick_cut (its : List Value) (lo hi : Option Int) : slicePick its.toArray lo hi none = ((its.drop (HT.sIx its.length 0 lo)).take (HT.sIx its.length its.length hi - HT.sIx its.length 0 lo)).toArray := by
  obtain ⟨h1, h2, h3⟩ := slice_bounds lo hi its.toArray.size
  unfold slicePick
  rw [h1, h2, h3]
  simp only [sliceRange_one, pick_run, List.size_toArray] <;> rfl
def rSlL (K : PySem.W.Frag) : V → Option Int → Option Int → Hp → VK → Prop := fun x lo hi H Q => ∃ a xs, x = .ref a ∧ SqL K H a xs ∧ ∀ p, H p = none → Q (.ref p) (upd H p (.lst (cutV xs lo hi)))
theorem sl_list : SlR X (rSlL X.K) := by
  intro pins s σ H x v vl vu lo hi sl Q I rx hs pl pu h
  obtain ⟨a, xs, rfl, hx, q⟩ := h
  cases rx
  obtain ⟨its, r, ht, hz⟩ := I.list hx
  have hlen := r.length
  refine ⟨"list", _, slot_list_getitem.lookup, ht.isList.typeIs, ?_⟩
  refine wpAny_getItem_list_slice ht.isList hs pl pu .none (by simp) ?_ (by rw [List.size_toArray] <;> omega)
  rw [slicePick_cut, ← hlen]
  refine ⟨.ref s.heap.objs.size, _, I.laid (t' := s.toks) (o := .lst (cutV xs lo hi)) (fun b ob q => Heap.get?_push_of_some _ q) (Nat.le_refl _) ?_, rfl, q _ (I.hok.fresh (Nat.le_refl _))⟩
  exact ⟨Nat.le_trans (cutV_length xs lo hi) hz, _, 0, (r.drop (HT.sIx xs.length 0 lo)).take (HT.sIx xs.length xs.length hi - HT.sIx xs.length 0 lo), Heap.get?_push_size _ rfl⟩
theorem call_len_seq : CallR X (.builtin "len") (fun xs H Q => ∃ p ys, xs = [.ref p] ∧ (SqL X.K H p ys ∨ SqT X.K H p ys) ∧ Q (.int ys.length) H) := by
  intro pins s σ H xs us Q I r h
  obtain ⟨p, ys, rfl, hq, q⟩ := h
  obtain ⟨u, rfl, rx⟩ := vals1 r
  cases rx
  have hn := line63
  rcases hq with hq | hq
  · obtain ⟨its, r', pl, hz⟩ := I.list hq
    have hlen := r'.length
    exact Calls.call_len_list pl.isList (by simp only [List.size_toArray] <;> omega) ⟨.int ys.length, H, I.tok _, ⟨s.toks + 1, by rw [List.size_toArray, hlen]⟩, q⟩
  · obtain ⟨its, r', pl, hz⟩ := I.tuple hq
    have hlen := r'.length
    exact len_tuple pl (by simp only [List.size_toArray] <;> omega) ⟨.int ys.length, H, I.tok _, ⟨s.toks + 1, by rw [List.size_toArray, hlen]⟩, q⟩
theorem call_tuple_of : CallR X (.type "tuple") (fun xs H Q => ∃ p ys, xs = [.ref p] ∧ ((SqL X.K H p ys ∧ ∀ l, H l = none → Q (.ref l) (upd H l (.tup ys))) ∨ (SqT X.K H p ys ∧ Q (.ref p) H))) := by
  intro pins s σ H xs us Q I r h
  obtain ⟨p, ys, rfl, h⟩ := h
  obtain ⟨u, rfl, rx⟩ := vals1 r
  cases rx
  rcases h with ⟨hq, q⟩ | ⟨hq, q⟩
  · obtain ⟨its, r', pl, hz⟩ := I.list hq
    have hlen := r'.length
    refine call_tuple_list pl.isList (fun h' kp => ?_) (by simp only [List.size_toArray] <;> omega)
    have I1 : Inv X pins σ H { s with heap := h' } := I.kept (t' := s.toks) kp
    have I2 : Inv X pins σ (upd H h'.objs.size (.tup ys)) { s with heap := h'.push { cls := .type "tuple", data := .seq its.toArray } } :=
      I1.laid (t' := s.toks) (fun b o e => Heap.get?_push_of_some _ e) (Nat.le_refl _) (show ObjOk X.prog X.w _ _ _ (.tup ys) from ⟨hz, its, r', IsTup.new _ _⟩)
    exact ⟨.ref h'.objs.size, _, I2, rfl, q _ (I1.hok.fresh (Nat.le_refl _))⟩
  · obtain ⟨its, r', pl, hz⟩ := I.tuple hq
    exact call_tuple_same pl ⟨.ref p, H, I, rfl, q⟩
def tyV (K : PySem.W.Frag) (T : String) (x : V) (H : Hp) : Prop := match x with
  | .str _ => T = "str"
  | .int _ => T = "int"
  | .ref p => (T = "list" ∧ ∃ xs, SqL K H p xs) ∨ (T = "tuple" ∧ ∃ o, K.lookup p = some o ∧ o.cls = .type "tuple" ∧ o.dict = none) ∨
      (T = "dict" ∧ ((∃ kvs, H p = some (.dK kvs)) ∨ ∃ kvs, H p = some (.dT kvs))) ∨ (T = "set" ∧ ∃ S n, H p = some (.set S n))
  | _ => False
theorem tyV_is {pins : List (Addr × Obj)} {σ : St} {H : Hp} {s : Shared} {T : String} {x : V} {v : Value} (I : Inv X pins σ H s) (r : RelV x v) (ty : tyV X.K T x H) :
    s.TypeIs v T ∧ ∀ a, v = .ref a → ∃ ob, s.heap.get? a = some ob ∧ ob.dict = none := by
  cases x with
  | str z =>
    obtain ⟨t, rfl⟩ := r
    cases (show T = "str" from ty)
    exact ⟨typeIs_str s z t, fun _ e => nomatch e⟩
  | int i =>
    obtain ⟨t, rfl⟩ := r
    cases (show T = "int" from ty)
    exact ⟨typeIs_int s i t, fun _ e => nomatch e⟩
  | ref p =>
    cases r
    rcases ty with ⟨rfl, xs, hq⟩ | ⟨rfl, o, hk, hc, hd⟩ | ⟨rfl, hk⟩ | ⟨rfl, S, n, hk⟩
    · obtain ⟨its, _, pl, _⟩ := I.list hq
      refine ⟨pl.isList.typeIs, fun a e => ?_⟩
      cases e
      obtain ⟨o, n, e, c, hd, _⟩ := pl
      exact ⟨o, e, hd⟩
    · refine ⟨⟨o, I.kIn p o hk, hc⟩, fun a e => ?_⟩
      cases e
      exact ⟨o, I.kIn _ o hk, hd⟩
    · have z : ∃ o, s.heap.get? p = some o ∧ o.ExactDict := by
        rcases hk with ⟨kvs, hk⟩ | ⟨kvs, hk⟩
        · obtain ⟨_, _, _, _, o, _, _, e, ex, _⟩ := I.hok p _ hk
          exact ⟨o, e, ex⟩
        · obtain ⟨_, _, _, _, o, _, _, e, ex, _⟩ := I.hok p _ hk
          exact ⟨o, e, ex⟩
      obtain ⟨o, e, ex⟩ := z
      refine ⟨⟨o, e, ex.1⟩, fun a e2 => ?_⟩
      cases e2
      exact ⟨o, e, ex.2.1⟩
    · obtain ⟨o, _, _, _, e, ex, _⟩ := I.hok p _ hk
      refine ⟨⟨o, e, ex.1⟩, fun a e2 => ?_⟩
      cases e2
      exact ⟨o, e, ex.2.1⟩
  | _ => exact False.elim ty
def tBM (K : PySem.W.Frag) (T : String) (r : V → List V → Hp → VK → Prop) (to : TE) (t : TA) : TE := fun σ H Q => to σ H fun x H1 => tyV K T x H1 ∧ t σ H1 fun xs H2 => r x xs H2 Q
variable {o e : Expr} {es : List Expr} {to : TE} {t : TA} {name : Str} {apos cpos : Pos} {T id : String} {r : V → List V → Hp → VK → Prop}
theorem pe_bm (pa : PlainAttrs T) (slot : Slot T name id) (hty : typeOf (.builtin id) = pure (.type "method_descriptor")) (hm : MtR X id r) (ho : PE X o to) (ha : PA X (e :: es) t)
    (hbase : attributeBase o name X.env (eval o X.env) = eval o X.env := by rfl)
    (hfew : ((backTo cpos (starEach (e :: es) X.env)).all (fun x => !x.1) && (backToKw cpos (keywordEach [] X.env)).all (fun x => x.1.isSome)
      && decide ((e :: es).length + ([] : List Keyword).length + (if ([] : List Keyword).isEmpty then 0 else 1) < 30)) = true := by rfl)
    (hline : (apos.endLine == cpos.line) = true := by rfl) (hs : starEach (e :: es) X.env = (false, eval e X.env) :: starEach es X.env := by rfl) (hplain : (backTo cpos (starEach es X.env)).any (·.1) = false := by rfl) :
    PE X (.Call (.Attribute o name apos) (e :: es) [] cpos) (tBM X.K T r to t) := by
  intro pins s σ H Q I h
  refine wpAny_Call_method_late hbase hfew hline rfl (thn (ho pins s σ H _ I h) fun v s1 ⟨x, H1, I1, r1, ty, q1⟩ => ?_)
  obtain ⟨h1, h2⟩ := tyV_is I1 r1 ty
  refine ⟨T, id, pa, slot, hty, h1, h2, ?_⟩
  have hA := ha cpos pins s1 σ H1 _ I1 q1
  rw [hs] at hA ⊢
  refine Calls.callWith_builtin (by show (false || (backTo cpos (starEach es X.env)).any (·.1)) = false; rw [hplain] <;> rfl) (Calls.evalArgs_plain ?_)
  exact thn hA fun us s2 ⟨vs, H2, I2, r2, q2⟩ => hm pins s2 σ H2 x vs v us Q I2 r1 r2 q2
end
end L2
namespace L2
open PySem PySem.Spec PyProof.Rows
def MtM (X : Cx) (id : String) (r : V → List V → Hp → VK → Prop) : Prop :=
  ∀ (pins : List (Addr × Obj)) (s : Shared) (σ : St) (H : Hp) (x : V) (xs : List V) (v : Value) (us : List Value) (Q : VK), Inv X pins σ H s → RelV x v → Vals xs us → r x xs H Q →
    wpAny (model X.prog X.w) X.A (call (.builtin id) (v :: us)) (EP X pins σ Q) X.xe s
theorem Vals.one : ∀ {x : V} {us : List Value}, Vals [x] us → ∃ u, us = [u] ∧ RelV x u
  | _, _, .cons r .nil => ⟨_, rfl, r⟩
theorem Vals.rep {xs : List V} {us : List Value} (h : Vals xs us) : ∀ k : Nat, Vals (List.replicate k xs).flatten (List.replicate k us).flatten
  | 0 => .nil
  | k + 1 => by
    rw [List.replicate_succ, List.replicate_succ, List.flatten_cons, List.flatten_cons]
    exact Vals.append h (Vals.rep h k)
theorem foldl_rep (its : List Value) : ∀ (k : Nat) (acc : List Value),
    List.foldl (fun x1 x2 => x1 ++ x2) acc.toArray (List.replicate k its.toArray) = (acc ++ (List.replicate k its).flatten).toArray
  | 0, acc => by simp
  | k + 1, acc => by
    have e : acc.toArray ++ its.toArray = (acc ++ its).toArray := by simp
    have e2 : (acc ++ its) ++ (List.replicate k its).flatten = acc ++ (List.replicate (k + 1) its).flatten := by
      rw [List.replicate_succ, List.flatten_cons, List.append_assoc]
    rw [← e2, ← foldl_rep its k (acc ++ its), ← e, List.replicate_succ, List.foldl_cons]
section
variable {X : Cx} {pins : List (Addr × Obj)} {σ : St} {H : Hp} {s : Shared} {l b : Addr} {xs ys zs : List V}
theorem Inv.lset {its its' : List Value} {n : Nat} {f : Array Value → Array Value} {t' : Nat} (I : Inv X pins σ H s) (hH : H l = some (.lst xs))
    (e : s.heap.get? l = some { cls := .type "list", data := .seq its.toArray n }) (hf : f its.toArray = its'.toArray) (hv : Vals ys its') (hz : ys.length ≤ sizeLine) :
    Inv X pins σ (upd H l (.lst ys)) { s with heap := s.heap.update l (Obj.mapSeq f), toks := t' } := by
  have q := PySem.IsL.update e f
  rw [hf] at q
  refine I.write (x := l) (e := l) (by rw [hH]; exact trivial) (.inl rfl) (fun b' u hb hu => (Heap.get?_update_other s.heap (Obj.mapSeq f) (Ne.symm hb)).trans hu) ⟨_, q⟩ ?_
  exact ⟨hz, its', _, hv, q⟩
theorem Inv.lnew {its : List Value} {t' : Nat} (I : Inv X pins σ H s) (hv : Vals ys its) (hz : ys.length ≤ sizeLine) :
    Inv X pins σ (upd H s.heap.objs.size (.lst ys)) { s with heap := s.heap.push { cls := .type "list", data := .seq its.toArray }, toks := t' } :=
  I.laid (fun _ _ q => Heap.get?_push_of_some _ q) (Nat.le_refl _) ⟨hz, its, 0, hv, Heap.get?_push_size _ rfl⟩
theorem Inv.fresh (I : Inv X pins σ H s) : H s.heap.objs.size = none := I.hok.fresh (Nat.le_refl _)
theorem Inv.lstM (I : Inv X pins σ H s) (hH : H l = some (.lst xs)) : xs.length ≤ sizeLine ∧ ∃ (its : List Value) (n : Nat), Vals xs its ∧ xs.length = its.length ∧ s.heap.get? l = some { cls := .type "list", data := .seq its.toArray n } := by
  obtain ⟨z, its, n, r, e⟩ := I.hok l _ hH
  exact ⟨z, its, n, r, r.length, e⟩
theorem notLongL {n : Nat} (h : n ≤ sizeLine) : Builtin.List.listTooLong n = false := by
  unfold Builtin.List.listTooLong
  exact decide_eq_false (by omega)
end
section
variable {X : Cx}
def rAppend : V → List V → Hp → VK → Prop := fun x vs H Q => ∃ l xs y, x = .ref l ∧ vs = [y] ∧ H l = some (.lst xs) ∧ xs.length < sizeLine ∧ Q .non (upd H l (.lst (xs ++ [y])))
theorem mt_append : MtM X "list.append" rAppend := by
  intro pins s σ H x vs v us Q I rx rv h
  obtain ⟨l, xs, y, rfl, rfl, hH, hz, q⟩ := h
  cases rx
  obtain ⟨u, rfl, ru⟩ := rv.one
  obtain ⟨z, its, n, r, hl, e⟩ := I.lstM hH
  refine call_meets F.slot_list_append ⟨_, e, rfl⟩ F.entry_list_append (F.args_list_append_2 _ _) (PySem.list_append l its.toArray n u (by rw [List.size_toArray]; omega)) ⟨e, ?_⟩
  refine ⟨.non, _, I.lset (its' := its ++ [u]) hH e (by simp) (r.append (.cons ru .nil)) ?_, rfl, q⟩
  rw [List.length_append, List.length_singleton]
  omega
def rExtend : V → List V → Hp → VK → Prop := fun x vs H Q => ∃ l b xs zs, x = .ref l ∧ vs = [.ref b] ∧ H l = some (.lst xs) ∧ H b = some (.lst zs) ∧ xs.length + zs.length ≤ sizeLine ∧ Q .non (upd H l (.lst (xs ++ zs)))
theorem mt_extend : MtM X "list.extend" rExtend := by
  intro pins s σ H x vs v us Q I rx rv h
  obtain ⟨l, b, xs, zs, rfl, rfl, hH, hB, hz, q⟩ := h
  cases rx
  obtain ⟨u, rfl, ru⟩ := rv.one
  cases ru
  obtain ⟨z, its, n, r, hl, e⟩ := I.lstM hH
  obtain ⟨z2, its2, n2, r2, hl2, e2⟩ := I.lstM hB
  have hsz : its.toArray.size + its2.toArray.size ≤ sizeLine := by rw [List.size_toArray, List.size_toArray]; omega
  have hlong : ¬ (!its.toArray.isEmpty && Builtin.List.listTooLong (its.toArray.size + its2.toArray.size)) = true := by
    rw [notLongL hsz, Bool.and_false]
    exact Bool.false_ne_true
  refine call_meets F.slot_list_extend ⟨_, e, rfl⟩ F.entry_list_extend (F.args_list_extend_2 _ _)
    (AutoSeq1.list_extend_list_list_0 l its.toArray n b its2.toArray n2 hlong (by rw [List.size_toArray]; omega) (by omega)) ⟨e, e2, ?_⟩
  refine ⟨.non, _, I.lset (its' := its ++ its2) hH e (by simp) (r.append r2) ?_, rfl, q⟩
  rw [List.length_append]
  omega
def rCat : R2 := fun x y H Q => ∃ l b xs zs, x = .ref l ∧ y = .ref b ∧ H l = some (.lst xs) ∧ H b = some (.lst zs) ∧ xs.length + zs.length ≤ sizeLine ∧ ∀ p, H p = none → Q (.ref p) (upd H p (.lst (xs ++ zs)))
theorem op_cat : OpR X (binaryOp .Add) rCat := by
  intro pins s σ H x y v u Q I rx ry h
  obtain ⟨l, b, xs, zs, rfl, rfl, hH, hB, hz, q⟩ := h
  cases rx
  cases ry
  obtain ⟨z, its, n, r, hl, e⟩ := I.lstM hH
  obtain ⟨z2, its2, n2, r2, hl2, e2⟩ := I.lstM hB
  refine PySem.P.add_list e e2 ?_ (by rw [List.size_toArray, List.size_toArray]; omega)
  have ea : its.toArray ++ its2.toArray = (its ++ its2).toArray := by simp
  rw [ea]
  exact ⟨.ref _, _, I.lnew (t' := s.toks) (r.append r2) (by rw [List.length_append]; omega), rfl, q _ I.fresh⟩
def rRep : R2 := fun x y H Q => ∃ l k xs, x = .ref l ∧ y = .int k ∧ H l = some (.lst xs) ∧ -(2 ^ 63) ≤ k ∧ k < 2 ^ 63 ∧ xs.length * k.toNat ≤ sizeLine ∧
  ∀ p, H p = none → Q (.ref p) (upd H p (.lst (List.replicate k.toNat xs).flatten))
theorem len_rep {α : Type} (xs : List α) (k : Nat) : (List.replicate k xs).flatten.length = k * xs.length := by
  induction k with
  | zero => simp
  | succ k ih => rw [List.replicate_succ, List.flatten_cons, List.length_append, ih, Nat.succ_mul, Nat.add_comm]
theorem op_rep : OpR X (binaryOp .Mult) rRep := by
  intro pins s σ H x y v u Q I rx ry h
  obtain ⟨l, k, xs, rfl, rfl, hH, h1, h2, hz, q⟩ := h
  cases rx
  obtain ⟨t, rfl⟩ := ry
  obtain ⟨z, its, n, r, hl, e⟩ := I.lstM hH
  have hlen : its.toArray.size * k.toNat ≤ sizeLine := by rw [List.size_toArray, ← hl]; exact hz
  have hcap : ¬ its.toArray.size * k.toNat > (2 ^ 63 - 1) / 8 := by
    have : (sizeLine : Nat) ≤ (2 ^ 63 - 1) / 8 := by decide
    omega
  have hfit : ¬ (!Builtin.List.listFitsIndex k) = true := by
    rw [fitsIndex_both h1 h2]
    exact Bool.false_ne_true
  have hlong : ¬ Builtin.List.listTooLong (its.toArray.size * k.toNat) = true := by
    rw [notLongL hlen]
    exact Bool.false_ne_true
  have hnew : List.foldl (fun x1 x2 => x1 ++ x2) #[] (List.replicate (if its.toArray.isEmpty = true then 0 else k.toNat) its.toArray) = (List.replicate k.toNat its).flatten.toArray := by
    have f0 : ∀ m : Nat, List.foldl (fun x1 x2 => x1 ++ x2) #[] (List.replicate m its.toArray) = (List.replicate m its).flatten.toArray := fun m => by
      have := foldl_rep its m []
      rw [List.nil_append] at this
      exact this
    rw [f0]
    cases its with
    | nil => simp
    | cons a r' => rw [if_neg (by simp)]
  refine wpAny_binaryOp_repeat_ref (T := "list") (U := "int") (by decide) ⟨_, e, rfl⟩ (fun s' => typeIs_int s' k t) noFill_list_mul F.fills_int_mul F.slot_int_rmul repeat_list F.slot_int_index.lookup
    (call_meets F.slot_int_rmul (typeIs_int s k t) F.entry_int_rmul (F.args_int_rmul_2 _ _) (int___rmul___int_list k t l its.toArray n)
      ⟨e, rfl, ⟨_, e, rfl⟩, call_meets F.slot_list_mul ⟨_, e, rfl⟩ F.entry_list_mul (F.args_list_mul_2 _ _) (AutoListH.list___mul___list_int_3 l its.toArray n k t hfit hcap hlong) ⟨e, ?_⟩⟩)
  rw [hnew]
  exact ⟨.ref _, _, I.lnew (t' := s.toks) (r.rep k.toNat) (by rw [len_rep, Nat.mul_comm]; exact hz), rfl, q _ I.fresh⟩
end
section
variable {prog : Program} {w : World} {A : Around} {E : Value → Shared → Prop} {s : Shared}
end
section
variable {X : Cx}
end
end L2
namespace L2
open PySem PySem.Spec PyProof.Rows
theorem Vals.ints : ∀ {ns : List Int} {us : List Value}, Vals (ns.map V.int) us → IntsAre us ns
  | [], us, h => by
    rw [List.map_nil] at h
    cases h
    exact IntsAre.nil
  | n :: ns, us, h => by
    rw [List.map_cons] at h
    cases h with
    | cons r t =>
      obtain ⟨k, rfl⟩ := r
      exact IntsAre.cons n k (Vals.ints t)
theorem Vals.ref1 {a : Addr} {us : List Value} (r : Vals [V.ref a] us) : us = [Value.ref a] := by
  cases r with
  | cons r t =>
    cases t
    cases r
    rfl
section
variable {prog : Program} {w : World} {A : Around} {E : Value → Shared → Prop} {s : Shared} {l : Addr} {its : List Value} {ns : List Int} {Q : Value → Shared → Prop}
theorem sum_raw (hh : A.handled = none) (hl : s.heap.IsList l its.toArray) (hi : IntsAre its ns)
    (h : ∀ h' tk t', (∀ b o, s.heap.get? b = some o → h'.get? b = some o) → Q (.int ns.sum t') { s with heap := h', toks := tk }) : wpAny (model prog w) A (call (.builtin "sum") [.ref l]) Q E s := by
  obtain ⟨xs, e⟩ := hi.allInts.items
  have hn : numsOf (intItems xs).toList = ns := by rw [← e]; exact hi.numsOf
  rw [nums_intItems] at hn
  rw [e] at hl
  refine PySem.sum_intListG hh hl fun h' tk t' hk => ?_
  have := h h' tk t' hk
  rw [preSum_eq, List.take_of_length_le (by simp), hn]; exact this
end
section
variable {X : Cx}
def rSum (K : PySem.W.Frag) : List V → Hp → VK → Prop := fun vs H Q => ∃ (a : Addr) (ns : List Int), vs = [V.ref a] ∧ SqL K H a (ns.map V.int) ∧ Q (.int ns.sum) H
theorem cr_sum (hc : X.calm = true) : CallR X (.builtin "sum") (rSum X.K) := by
  intro pins s σ H vs us Q I r h
  obtain ⟨a, ns, rfl, hs, q⟩ := h
  obtain ⟨its, rv, hl, _⟩ := I.list hs
  rw [Vals.ref1 r]
  exact sum_raw (I.ok.hd hc) hl.isList rv.ints fun h' tk t' hk => ⟨.int _, H, I.kept hk, ⟨_, rfl⟩, q⟩
end
section
variable {X : Cx}
end
section
variable {X : Cx}
end
section
variable {X : Cx}
end
mutual
inductive Dp (K : PySem.W.Frag) (H : Hp) : V → PyData → Prop
  | non : Dp K H .non .none
  | bl (b : Bool) : Dp K H (.bl b) (.bool b)
  | int (i : Int) : Dp K H (.int i) (.int i)
  | str (x : Str) : Dp K H (.str x) (.str x)
  | lst {a : Addr} {xs : List V} {ds : List PyData} : SqL K H a xs → DpAll K H xs ds → Dp K H (.ref a) (.list ds)
  | tup {a : Addr} {xs : List V} {ds : List PyData} : SqT K H a xs → DpAll K H xs ds → Dp K H (.ref a) (.tuple ds)
inductive DpAll (K : PySem.W.Frag) (H : Hp) : List V → List PyData → Prop
  | nil : DpAll K H [] []
  | cons {v : V} {vs : List V} {d : PyData} {ds : List PyData} : Dp K H v d → DpAll K H vs ds → DpAll K H (v :: vs) (d :: ds)
end
section
variable {X : Cx} {pins : List (Addr × Obj)} {σ : St} {H : Hp} {s : Shared}
mutual
theorem Dp.reads (I : Inv X pins σ H s) : ∀ (d : PyData) (v : V) (u : Value), Dp X.K H v d → RelV v u → ∃ as, Reads s.heap u d as
  | .none, _, _, h, r => by
    cases h
    cases r
    exact ⟨_, Reads.none⟩
  | .bool b, _, _, h, r => by
    cases h
    cases r
    exact ⟨_, Reads.bool b⟩
  | .int i, _, _, h, r => by
    cases h
    obtain ⟨t, rfl⟩ := r
    exact ⟨_, Reads.int i t⟩
  | .str x, _, _, h, r => by
    cases h
    obtain ⟨t, rfl⟩ := r
    exact ⟨_, Reads.str x t⟩
  | .list ds, _, _, h, r => by
    cases h with
    | lst hs ha =>
      cases r
      obtain ⟨its, rv, ⟨o, n, ho, hc, _, hd⟩, _⟩ := I.list hs
      obtain ⟨as, hr⟩ := Dp.readsAll I ds _ its ha rv
      exact ⟨_, Reads.list ho hc hd hr⟩
  | .tuple ds, _, _, h, r => by
    cases h with
    | tup hs ha =>
      cases r
      obtain ⟨its, rv, ⟨o, ho, hc, n, hd⟩, _⟩ := I.tuple hs
      obtain ⟨as, hr⟩ := Dp.readsAll I ds _ its ha rv
      exact ⟨_, Reads.tuple ho hc hd hr⟩
  | .dict _, _, _, h, _ => by cases h
theorem Dp.readsAll (I : Inv X pins σ H s) : ∀ (ds : List PyData) (vs : List V) (us : List Value), DpAll X.K H vs ds → Vals vs us → ∃ as, ReadsAll s.heap us ds as
  | [], _, _, h, r => by
    cases h
    cases r
    exact ⟨_, ReadsAll.nil⟩
  | d :: ds, _, _, h, r => by
    cases h with
    | cons h1 h2 =>
      cases r with
      | cons r1 r2 =>
        obtain ⟨as, q1⟩ := Dp.reads I d _ _ h1 r1
        obtain ⟨bs, q2⟩ := Dp.readsAll I ds _ _ h2 r2
        exact ⟨_, ReadsAll.cons q1 q2⟩
end
end
section
variable {X : Cx}
def rEqD (K : PySem.W.Frag) : R2 := fun x y H Q => ∃ d e, Dp K H x d ∧ Dp K H y e ∧ SeqAt.shaped d = true ∧ SeqAt.shaped e = true ∧ Q (.bl (PyData.eqv d e)) H
def rNeD (K : PySem.W.Frag) : R2 := fun x y H Q => ∃ d e, Dp K H x d ∧ Dp K H y e ∧ SeqAt.shaped d = true ∧ SeqAt.shaped e = true ∧ Q (.bl (!PyData.eqv d e)) H
theorem op_eqD (hu : X.A.units + 64 < cLine) : OpR X (compareOp .Eq) (rEqD X.K) := by
  intro pins s σ H x y v u Q I rx ry h
  obtain ⟨d, e, hd, he, sd, se, q⟩ := h
  obtain ⟨as, r1⟩ := Dp.reads I d x v hd rx
  obtain ⟨bs, r2⟩ := Dp.reads I e y u he ry
  exact SeqAt.compareEq_shaped r1 r2 sd se hu ⟨.bl _, H, I, rfl, q⟩
theorem op_neD (hu : X.A.units + 64 < cLine) : OpR X (compareOp .NotEq) (rNeD X.K) := by
  intro pins s σ H x y v u Q I rx ry h
  obtain ⟨d, e, hd, he, sd, se, q⟩ := h
  obtain ⟨as, r1⟩ := Dp.reads I d x v hd rx
  obtain ⟨bs, r2⟩ := Dp.reads I e y u he ry
  exact SeqAt.compareNe_shaped r1 r2 sd se hu ⟨.bl _, H, I, rfl, q⟩
end
end L2
namespace L2
open PySem PySem.Spec PyProof.Rows
abbrev CellAt (h : Heap) (c : Addr) (v : Option Value) : Prop := h.IsCell c v
def relS (scope sc : Scope) : Scope :=
  { scope with names := scope.names.map fun (n, k) => if (k == .free && sc.kind == .function && sc.names.lookup n == some .cell) then (n, .cell) else (n, k) }
def cloFrom (cells : List (Str × Addr)) : List (Str × NameKind) → List (Str × Addr) → List (Str × Addr)
  | [], acc => acc
  | (n, k) :: r, acc => if k == .free then cloFrom cells r ((n, (cells.lookup n).getD 0) :: acc) else cloFrom cells r acc
theorem closure_loop (env : Env) (f : Str × NameKind → List (Str × Addr) → Sem (ForInStep (List (Str × Addr))))
    (hf : ∀ n k c, f (n, k) c = if k == .free then (do let a ← cellOf env n; pure (.yield ((n, a) :: c))) else pure (.yield c)) :
    ∀ (names : List (Str × NameKind)) (acc : List (Str × Addr)), (∀ y ∈ names, y.2 = .free → ∃ c, env.cells.lookup y.1 = some c) → forIn names acc f = pure (cloFrom env.cells names acc)
  | [], acc, _ => by rw [List.forIn_nil]; rfl
  | (n, k) :: r, acc, h => by
    rw [List.forIn_cons, hf]
    have ih := fun acc => closure_loop env f hf r acc fun y hy => h y (List.mem_cons_of_mem _ hy)
    unfold cloFrom
    by_cases hk : (k == NameKind.free) = true
    · rw [if_pos hk, if_pos hk]
      obtain ⟨c, hc⟩ := h (n, k) List.mem_cons_self (by simpa using hk)
      have e : cellOf env n = pure c := by unfold cellOf; rw [hc]
      rw [e]
      have e2 : (env.cells.lookup n).getD 0 = c := by rw [hc]; rfl
      rw [e2]
      exact ih _
    · rw [if_neg hk, if_neg hk]
      exact ih _
theorem closure_ok {scope : Scope} {env : Env} (h : ∀ y ∈ scope.names, y.2 = .free → ∃ c, env.cells.lookup y.1 = some c) : closureFor scope env = pure (cloFrom env.cells scope.names []) := by
  simp only [closureFor]
  rw [closure_loop env _ (fun n k c => rfl) scope.names [] h]
  rfl
theorem mem_lookup {α : Type} : ∀ {l : List (Str × α)} {n : Str} {c : α}, (n, c) ∈ l → ∃ c', l.lookup n = some c'
  | (k, v) :: r, n, c, h => by
    rw [List.lookup_cons]
    cases hb : n == k with
    | true => exact ⟨_, rfl⟩
    | false =>
      rcases List.mem_cons.mp h with e | h
      · cases e; simp at hb
      · exact mem_lookup h
theorem cloFrom_mem {cells : List (Str × Addr)} : ∀ {names : List (Str × NameKind)} {acc : List (Str × Addr)} {n : Str} {c : Addr}, (n, c) ∈ cloFrom cells names acc → (n, c) ∈ acc ∨ ((n, .free) ∈ names ∧ c = (cells.lookup n).getD 0)
  | [], _, _, _, h => .inl h
  | (m, k) :: r, acc, n, c, h => by
    unfold cloFrom at h
    split at h
    · rename_i hk
      have hk : k = .free := by simpa using hk
      rcases cloFrom_mem h with h | ⟨h1, h2⟩
      · rcases List.mem_cons.mp h with e | h
        · cases e; exact .inr ⟨hk ▸ List.mem_cons_self, rfl⟩
        · exact .inl h
      · exact .inr ⟨List.mem_cons_of_mem _ h1, h2⟩
    · rcases cloFrom_mem h with h | ⟨h1, h2⟩
      · exact .inl h
      · exact .inr ⟨List.mem_cons_of_mem _ h1, h2⟩
theorem cloFrom_acc {cells : List (Str × Addr)} : ∀ {names : List (Str × NameKind)} {acc : List (Str × Addr)} {p : Str × Addr}, p ∈ acc → p ∈ cloFrom cells names acc
  | [], _, _, h => h
  | (m, k) :: r, acc, p, h => by
    unfold cloFrom
    split
    · exact cloFrom_acc (List.mem_cons_of_mem _ h)
    · exact cloFrom_acc h
theorem cloFrom_has {cells : List (Str × Addr)} : ∀ {names : List (Str × NameKind)} {acc : List (Str × Addr)} {n : Str}, (n, .free) ∈ names → (n, (cells.lookup n).getD 0) ∈ cloFrom cells names acc
  | (m, k) :: r, acc, n, h => by
    unfold cloFrom
    rcases List.mem_cons.mp h with e | h
    · cases e
      exact cloFrom_acc List.mem_cons_self
    · split
      · exact cloFrom_has h
      · exact cloFrom_has h
theorem cells_mem : ∀ {names : List (Str × NameKind)} {h : Heap} {acc : List (Str × Addr)} {x : Str} {c : Addr}, (x, c) ∈ cellsFrom h.objs.size names acc →
    (x, c) ∈ acc ∨ ((x, .cell) ∈ names ∧ h.objs.size ≤ c ∧ CellAt (pushCells h names) c none)
  | [], _, _, _, _, h => .inl h
  | (n, k) :: r, h, acc, x, c, hm => by
    unfold cellsFrom at hm
    unfold pushCells
    split at hm
    · rename_i hk
      rw [if_pos hk]
      have hk : k = .cell := by simpa using hk
      rw [← Heap.size_push h { cls := .type "cell", data := .cell none }] at hm
      rcases cells_mem hm with hm | ⟨h1, h2, h3⟩
      · rcases List.mem_cons.mp hm with e | hm
        · cases e
          exact .inr ⟨hk ▸ List.mem_cons_self, Nat.le_refl _, _, pushCells_keeps r _ _ _ (Heap.get?_push_size _ rfl), rfl⟩
        · exact .inl hm
      · rw [Heap.size_push] at h2
        exact .inr ⟨List.mem_cons_of_mem _ h1, Nat.le_of_succ_le h2, h3⟩
    · rename_i hk
      rw [if_neg hk]
      rcases cells_mem hm with hm | ⟨h1, h2, h3⟩
      · exact .inl hm
      · exact .inr ⟨List.mem_cons_of_mem _ h1, h2, h3⟩
theorem cells_acc : ∀ {names : List (Str × NameKind)} {n : Nat} {acc : List (Str × Addr)} {p : Str × Addr}, p ∈ acc → p ∈ cellsFrom n names acc
  | [], _, _, _, h => h
  | (m, k) :: r, n, acc, p, h => by
    unfold cellsFrom
    split
    · exact cells_acc (List.mem_cons_of_mem _ h)
    · exact cells_acc h
theorem cells_has : ∀ {names : List (Str × NameKind)} {n : Nat} {acc : List (Str × Addr)} {x : Str}, (x, .cell) ∈ names → ∃ c, (x, c) ∈ cellsFrom n names acc
  | (m, k) :: r, n, acc, x, h => by
    unfold cellsFrom
    rcases List.mem_cons.mp h with e | h
    · cases e
      exact ⟨n, cells_acc List.mem_cons_self⟩
    · split
      · exact cells_has h
      · exact cells_has h
theorem cells_inj : ∀ {names : List (Str × NameKind)} {h : Heap} {acc : List (Str × Addr)} {x y : Str} {c : Addr}, (∀ p ∈ acc, p.2 < h.objs.size) → (∀ x y c, (x, c) ∈ acc → (y, c) ∈ acc → x = y) →
    (x, c) ∈ cellsFrom h.objs.size names acc → (y, c) ∈ cellsFrom h.objs.size names acc → x = y
  | [], _, _, _, _, _, _, hi, h1, h2 => hi _ _ _ h1 h2
  | (n, k) :: r, h, acc, x, y, c, hl, hi, h1, h2 => by
    unfold cellsFrom at h1 h2
    split at h1
    · rename_i hk
      rw [if_pos hk] at h2
      rw [← Heap.size_push h { cls := .type "cell", data := .cell none }] at h1 h2
      refine cells_inj (h := h.push _) (fun p hp => ?_) (fun x y c a b => ?_) h1 h2
      · rw [Heap.size_push]
        rcases List.mem_cons.mp hp with rfl | hp
        · exact Nat.lt_succ_self _
        · exact Nat.lt_succ_of_lt (hl p hp)
      · rcases List.mem_cons.mp a with e | a <;> rcases List.mem_cons.mp b with e' | b
        · cases e; cases e'; rfl
        · cases e; exact absurd (hl _ b) (Nat.lt_irrefl _)
        · cases e'; exact absurd (hl _ a) (Nat.lt_irrefl _)
        · exact hi _ _ _ a b
    · rename_i hk
      rw [if_neg hk] at h2
      exact cells_inj hl hi h1 h2
theorem newEnv_comp {M : Model} {A : Around} {E : Value → Shared → Prop} {s : Shared} {scope : Scope} {globals : Addr} {closure : List (Str × Addr)} {qual : Str} {func : Option Addr} {code : Value} {around : Env} {builtins : Addr} {Q : Env → Shared → Prop}
    (h : Q (newEnv scope s.heap.objs.size globals (cellsFrom (s.heap.objs.size + 1) scope.names closure) qual func code (some around) builtins)
      { s with heap := pushCells (s.heap.push { cls := .type "dict", data := .dict #[] }) scope.names }) :
    wpAny M A (newFunctionEnv scope globals closure [] qual func code (some around) builtins) Q E s := by
  simp only [newFunctionEnv, Option.isSome_some, if_true]
  refine wpAny_bind (wpAny_alloc ?_)
  refine wpAny_bind (wpAny_layCells _ (fun n k c => rfl) scope.names closure _ _ ?_)
  rw [show ({ s with heap := s.heap.push { cls := .type "dict", data := .dict #[] } } : Shared).heap.objs.size = s.heap.objs.size + 1 from Heap.size_push ..]
  rw [List.forIn_nil]
  exact wpAny_bind (wpAny_pure (wpAny_pure h))
theorem lookup_relS {sc : Scope} : ∀ {names : List (Str × NameKind)} {x : Str} {k : NameKind},
    (names.map fun (n, k) => if (k == NameKind.free && sc.kind == .function && sc.names.lookup n == some .cell) then (n, NameKind.cell) else (n, k)).lookup x = some k →
    ∃ k', names.lookup x = some k' ∧ (k = k' ∨ (k' = .free ∧ k = .cell))
  | [], _, _, h => by simp at h
  | (n, k₀) :: r, x, k, h => by
    have ih := @lookup_relS sc r x k
    have h' : List.lookup x ((if (k₀ == NameKind.free && sc.kind == .function && sc.names.lookup n == some .cell) = true then (n, NameKind.cell) else (n, k₀)) :: (r.map _)) = some k := h
    cases hx : x == n with
    | true =>
      simp only [List.lookup_cons, hx]
      by_cases hc : (k₀ == NameKind.free && sc.kind == .function && sc.names.lookup n == some .cell) = true
      · rw [if_pos hc] at h'
        simp only [List.lookup_cons, hx] at h'
        cases h'
        simp only [Bool.and_eq_true, beq_iff_eq] at hc
        exact ⟨k₀, rfl, .inr ⟨hc.1.1, rfl⟩⟩
      · rw [if_neg hc] at h'
        simp only [List.lookup_cons, hx] at h'
        cases h'
        exact ⟨_, rfl, .inl rfl⟩
    | false =>
      simp only [List.lookup_cons, hx]
      by_cases hc : (k₀ == NameKind.free && sc.kind == .function && sc.names.lookup n == some .cell) = true
      · rw [if_pos hc] at h'
        simp only [List.lookup_cons, hx] at h'
        exact ih h'
      · rw [if_neg hc] at h'
        simp only [List.lookup_cons, hx] at h'
        exact ih h'
structure BlkOk (N : List Str) (sc scope : Scope) (own : List (Str × Nat)) : Prop where
  kind : scope.kind = .function
  uniq : ∀ y ∈ scope.names, scope.names.lookup y.1 = some y.2
  ix : ∀ p ∈ own, N[p.2]? = some p.1
  free : ∀ y ∈ scope.names, y.2 = .free → sc.names.lookup y.1 = some .cell ∨ sc.names.lookup y.1 = some .free
  own : ∀ y ∈ scope.names, y.2 = .local ∨ y.2 = .cell → y.1 ∈ own.map (·.1) ∨ y.1 ∉ N
def wipe (σ : St) : List Nat → St
  | [] => σ
  | v :: vs => (wipe σ vs).set v none
theorem wipe_length (σ : St) : ∀ vs : List Nat, (wipe σ vs).length = σ.length
  | [] => rfl
  | v :: vs => by unfold wipe; rw [List.length_set, wipe_length σ vs]
theorem wipe_some {σ : St} {i : Nat} {x : V} : ∀ {vs : List Nat}, (wipe σ vs)[i]? = some (some x) → σ[i]? = some (some x) ∧ i ∉ vs
  | [], h => ⟨h, by simp⟩
  | v :: vs, h => by
    unfold wipe at h
    by_cases hi : v = i
    · subst hi
      by_cases hv : v < (wipe σ vs).length
      · rw [List.getElem?_set_self hv] at h; cases h
      · rw [List.getElem?_eq_none (by simpa using hv)] at h; cases h
    · rw [List.getElem?_set_ne hi] at h
      obtain ⟨h1, h2⟩ := wipe_some h
      exact ⟨h1, by simp only [List.mem_cons, not_or]; exact ⟨fun e => hi e.symm, h2⟩⟩
abbrev Cx.blk (X : Cx) (s : Shared) (H : Hp) (scope : Scope) (cenv : Env) (fp : List Addr) : Cx := { X with s_0 := s, H_0 := H, env := cenv, outer := X.stack, ex := fp, fn := fun x => scope.names.lookup x == some .cell, pn := [], xe := fun _ _ => False }
section
variable {X : Cx} {pins : List (Addr × Obj)} {σ : St} {H : Hp} {s : Shared}
theorem block_start {scope : Scope} {own : List (Str × Nat)} {fp : List Addr} (I : Inv X pins σ H s) (ok : BlkOk X.N X.env.scope scope own) (hN : X.N.Nodup) (hfp : ∀ b ∈ fp, FpOk X pins H b ∧ b < s.heap.objs.size) :
    Inv (X.blk s H scope (compEnvC scope (cellsFrom (s.heap.objs.size + 1) scope.names (cloFrom X.env.cells scope.names [])) s.heap.objs.size X.env) fp) [] (wipe σ (own.map (·.2))) H { s with heap := pushCells (s.heap.push { cls := .type "dict", data := .dict #[] }) scope.names } := by
  have hfree : ∀ y ∈ scope.names, y.2 = .free → ∃ c, X.env.cells.lookup y.1 = some c := fun y hy e => by
    rcases ok.free y hy e with k | k
    · exact I.ok.has _ (.inl k)
    · exact I.ok.has _ (.inr k)
  generalize hcenv : compEnvC scope (cellsFrom (s.heap.objs.size + 1) scope.names (cloFrom X.env.cells scope.names [])) s.heap.objs.size X.env = cenv
  have kp : ∀ b o, s.heap.get? b = some o → (pushCells (s.heap.push { cls := .type "dict", data := .dict #[] }) scope.names).get? b = some o := fun b o e => pushCells_keeps _ _ _ _ (Heap.get?_push_of_some _ e)
  have hL : cenv.locals = s.heap.objs.size := by rw [← hcenv]; rfl
  have hcl : cenv.cells = cellsFrom (s.heap.objs.size + 1) scope.names (cloFrom X.env.cells scope.names []) := by rw [← hcenv]; rfl
  have hsc : cenv.scope = relS scope X.env.scope := by rw [← hcenv]; rfl
  rw [← Heap.size_push s.heap { cls := .type "dict", data := .dict #[] }] at hcl
  have cm : ∀ {y c}, (y, c) ∈ cloFrom X.env.cells scope.names [] → X.env.cells.lookup y = some c ∧ c < s.heap.objs.size := fun {y c} hm => by
    rcases cloFrom_mem hm with hm | ⟨h1, rfl⟩
    · cases hm
    · obtain ⟨c, hc⟩ := hfree _ h1 rfl
      rw [hc]
      obtain ⟨w, z⟩ := I.cell _ _ hc
      exact ⟨rfl, z.lt⟩
  have mem : ∀ {y c}, cenv.cells.lookup y = some c → (X.env.cells.lookup y = some c ∧ c < s.heap.objs.size) ∨ (s.heap.objs.size + 1 ≤ c ∧ CellAt (pushCells (s.heap.push { cls := .type "dict", data := .dict #[] }) scope.names) c none) := fun {y c} e => by
    rw [hcl] at e
    rcases cells_mem (PySem.mem_of_lookup e) with hm | ⟨_, h2, h3⟩
    · exact .inl (cm hm)
    · rw [Heap.size_push] at h2; exact .inr ⟨h2, h3⟩
  have look : ∀ {y}, scope.names.lookup y = some .free → ∃ c, cenv.cells.lookup y = some c ∧ X.env.cells.lookup y = some c := fun {y} hl => by
    have hy : (y, NameKind.free) ∈ scope.names := PySem.mem_of_lookup hl
    obtain ⟨c', e'⟩ := mem_lookup (cells_acc (names := scope.names) (n := (s.heap.push { cls := .type "dict", data := .dict #[] }).objs.size) (cloFrom_has (cells := X.env.cells) (acc := []) hy))
    rw [← hcl] at e'
    refine ⟨c', e', ?_⟩
    rw [hcl] at e'
    rcases cells_mem (PySem.mem_of_lookup e') with hm | ⟨h1, _, _⟩
    · exact (cm hm).1
    · have := ok.uniq _ h1
      rw [hl] at this; cases this
  have okB : (X.blk s H scope cenv fp).Ok := by
    refine ⟨I.ok.mod, by show cenv.scope.kind = _; rw [hsc]; exact ok.kind, by show cenv.globals = _; rw [← hcenv]; exact I.ok.glob, by show cenv.builtins = _; rw [← hcenv]; exact I.ok.blt, by show s.heap.objs.size ≤ cenv.locals; rw [hL]; exact Nat.le_refl _,
      fun y z c e1 e2 => ?_, fun y hy => ?_, fun y c z e => ?_, I.ok.hd, I.ok.frames, .inl rfl, fun b hb => ⟨?_, fun y c e z => ?_⟩, I.bs, Nat.le_trans I.ok.bsz I.sz, fun b o e hb => ?_, fun b hb z => ?_, I.stack, I.stkFree⟩
    · have e1 : cenv.cells.lookup y = some c := e1
      have e2 : cenv.cells.lookup z = some c := e2
      rw [hcl] at e1 e2
      refine cells_inj (fun p hp => ?_) (fun y z c a b => I.ok.inj y z c (cm a).1 (cm b).1) (PySem.mem_of_lookup e1) (PySem.mem_of_lookup e2)
      rw [Heap.size_push]
      exact Nat.lt_succ_of_lt (cm (y := p.1) (c := p.2) hp).2
    · show ∃ c, cenv.cells.lookup y = some c
      have key : ∀ k, cenv.kindOf y = some k → (k = .cell ∨ k = .free) → ∃ c, cenv.cells.lookup y = some c := fun k hk hk' => by
        unfold Env.kindOf at hk
        rw [hsc] at hk
        obtain ⟨k', e, r⟩ := lookup_relS hk
        have : k' = .cell ∨ k' = .free := by
          rcases r with rfl | ⟨rfl, _⟩
          · exact hk'
          · exact .inr rfl
        rcases this with rfl | rfl
        · obtain ⟨c, hm⟩ := cells_has (n := (s.heap.push { cls := .type "dict", data := .dict #[] }).objs.size) (acc := cloFrom X.env.cells scope.names []) (PySem.mem_of_lookup e)
          obtain ⟨c', e'⟩ := mem_lookup hm
          exact ⟨c', by rw [hcl]; exact e'⟩
        · obtain ⟨c, h1, _⟩ := look e
          exact ⟨c, h1⟩
      rcases hy with hy | hy
      · exact key _ hy (.inl rfl)
      · exact key _ hy (.inr rfl)
    · have z : (scope.names.lookup y == some NameKind.cell) = true := z
      have z : scope.names.lookup y = some .cell := by simpa using z
      have e : cenv.cells.lookup y = some c := e
      rw [hcl] at e
      rcases cells_mem (PySem.mem_of_lookup e) with hm | ⟨_, h2, _⟩
      · rcases cloFrom_mem hm with hm | ⟨h1, _⟩
        · cases hm
        · have q := ok.uniq _ h1
          rw [z] at q; cases q
      · rw [Heap.size_push] at h2
        exact Nat.le_of_succ_le h2
    · show b ≠ cenv.locals
      rw [hL]; exact Nat.ne_of_lt (hfp b hb).2
    · have e : cenv.cells.lookup y = some c := e
      rcases mem e with ⟨h1, _⟩ | ⟨h1, _⟩
      · exact (hfp b hb).1.2.2.2.2.1 y c h1 z
      · have h2 : s.heap.objs.size + 1 ≤ b := by rw [← z]; exact h1
        exact absurd (Nat.lt_of_lt_of_le (hfp b hb).2 (Nat.le_of_succ_le h2)) (Nat.lt_irrefl _)
    · rcases (hfp b hb).1.2.2.2.1 with z | z
      · exact I.ok.noex b o e z
      · exact absurd (Nat.lt_of_lt_of_le (Heap.lt_size e) (Nat.le_trans I.ok.bsz z)) (Nat.lt_irrefl _)
    · rcases List.mem_cons.mp (I.stkSub b z) with z | z
      · exact (hfp b hb).1.2.1 z
      · exact (hfp b hb).1.2.2.1 z
  refine ⟨okB, rfl, I.bare, Un.kept kp, ⟨fun _ => none, ?_, fun i y av e1 e2 e3 => ?_⟩, fun y c e => ?_, ?_, fun y c e => ?_, fun p hp => ?_, I.hok.kept kp, by rw [wipe_length]; exact I.len⟩
  · show Heap.Ns _ cenv.locals _
    rw [hL]
    exact Heap.Ns.keeps (Heap.Ns.new ..) fun b o e => pushCells_keeps _ _ _ _ e
  · obtain ⟨e2, hne⟩ := wipe_some e2
    have hfr : scope.names.lookup y = some .free ∧ (cenv.kindOf y = some .cell ∨ cenv.kindOf y = some .free) := by
      have key : ∀ k, cenv.scope.names.lookup y = some k → k = .local ∨ k = .cell ∨ k = .free → scope.names.lookup y = some .free ∧ (cenv.kindOf y = some .cell ∨ cenv.kindOf y = some .free) := fun k hk hk' => by
        have hk0 := hk
        rw [hsc] at hk
        obtain ⟨k', e, r⟩ := lookup_relS hk
        have no : ¬ (k' = .local ∨ k' = .cell) := fun hh => by
          rcases ok.own _ (PySem.mem_of_lookup e) hh with e' | e'
          · obtain ⟨p, hp, hpy⟩ := List.mem_map.mp e'
            have e3 := ok.ix p hp
            have : p.1 = y := hpy
            rw [this] at e3
            exact hne (List.mem_map.mpr ⟨p, hp, nodup_ix hN e3 e1⟩)
          · exact e' (List.mem_of_getElem? e1)
        rcases r with rfl | ⟨rfl, rfl⟩
        · rcases hk' with rfl | rfl | rfl
          · exact absurd (.inl rfl) no
          · exact absurd (.inr rfl) no
          · exact ⟨e, .inr hk0⟩
        · exact ⟨e, .inl hk0⟩
      have e3 : Vis cenv.scope y := e3
      rcases e3 with e3 | e3 | e3
      · exact key _ e3 (.inl rfl)
      · exact key _ e3 (.inr (.inl rfl))
      · exact key _ e3 (.inr (.inr rfl))
    obtain ⟨m, hn, hl⟩ := I.loc
    have hvis : Vis X.env.scope y := (ok.free _ (PySem.mem_of_lookup hfr.1) rfl).elim (fun k => .inr (.inl k)) (fun k => .inr (.inr k))
    obtain ⟨w, r, q⟩ := hl i y av e1 e2 hvis
    refine ⟨w, r, .inr ⟨hfr.2, ?_⟩⟩
    obtain ⟨c, h1, h2⟩ := look hfr.1
    rcases q with ⟨k, _⟩ | ⟨_, c', e', z⟩
    · have k : X.env.scope.names.lookup y = some .local := k
      rcases ok.free _ (PySem.mem_of_lookup hfr.1) rfl with k' | k' <;> rw [show X.env.scope.names.lookup y = _ from k'] at k <;> cases k
    · rw [h2] at e'; cases e'
      exact ⟨c, h1, z.keeps kp⟩
  · have e : cenv.cells.lookup y = some c := e
    rcases mem e with ⟨h1, _⟩ | ⟨_, z⟩
    · obtain ⟨w, z⟩ := I.cell y c h1
      exact ⟨w, z.keeps kp⟩
    · exact ⟨_, z⟩
  · show H cenv.locals = none
    rw [hL]; exact I.hok.fresh (Nat.le_refl _)
  · have e : cenv.cells.lookup y = some c := e
    rcases mem e with ⟨h1, _⟩ | ⟨h1, _⟩
    · exact I.freeC y c h1
    · exact I.hok.fresh (Nat.le_of_succ_le h1)
  · exact absurd (show p ∈ ([] : List (Addr × Obj)) ++ [] from hp) (by simp)
theorem app_ok {E : Value → Shared → Prop} {D : Addr} {xs : List V} {y : V} {v : Value} {Q : Value → Shared → Prop} (I : Inv X pins σ H s) (hD : H D = some (.lst xs)) (hz : xs.length < sizeLine) (r : RelV y v)
    (h : ∀ s', Inv X pins σ (upd H D (.lst (xs ++ [y]))) s' → Q .none s') : wpAny (model X.prog X.w) X.A (call (.builtin "list.append") [.ref D, v]) Q E s := by
  obtain ⟨hz', its, n, ri, e⟩ := I.hok D _ hD
  have hl := ri.length
  refine append_at (hsz := by rw [List.size_toArray]; omega) e fun h' sb ho' => ?_
  refine h { s with heap := h' } (I.write (t' := s.toks) (by rw [hD]; trivial) (.inl rfl) (fun b u hb q => (sb.2 b hb).trans q) ⟨_, ho'⟩ ⟨by rw [List.length_append]; exact hz, its ++ [v], n + 1, ri.append (.cons r .nil), ?_⟩)
  rw [ho']
  simp
def PTs (X : Cx) (ifs : List Expr) (t : TT) : Prop :=
  ∀ (pins : List (Addr × Obj)) (s : Shared) (σ : St) (H : Hp) (Q : Bool → Hp → Prop), Inv X pins σ H s → t σ H Q →
    wpAny (model X.prog X.w) X.A (forIn ifs true fun c r => if r = true then do let ok ← isTrue c X.env (eval c X.env); pure (ForInStep.yield ok) else pure (ForInStep.yield r)) (TP X pins σ Q) X.xe s
def tYes : TT := fun _ H Q => Q true H
theorem pts_nil : PTs X [] tYes := fun _ _ _ H _ I h => wpAny_tests_nil ⟨H, I, h⟩
theorem pts_one {c : Expr} {t : TT} (h : PT X c t) : PTs X [c] t := fun pins s σ H Q I hw => wpAny_tests_one (h pins s σ H Q I hw)
end
theorem thnF {α : Type} {t : Sem α} {Q Q' : α → Shared → Prop} {M : Model} {A : Around} {E : Value → Shared → Prop} {s : Shared} (h : wpAny M A t Q (fun _ _ => False) s) (hQ : ∀ a s, Q a s → Q' a s) : wpAny M A t Q' E s := wpAny_mono h hQ fun _ _ z => False.elim z
theorem compLoop_any {prog : Program} {w : World} {A : Around} {R : Result → Shared → Prop} {s : Shared} {elt target iter : Expr} {ifs : List Expr} {scope : Scope} {pos : Pos} {it acc : Value} {env : Env} (I : Nat → Shared → Prop)
    (turn : ∀ n s, I n s → wpAny (model prog w) A (pyNext it) (fun r s₁ => match r with
      | none => R (.ok .next) s₁
      | some v => wpAny (model prog w) A (letOwnedTupleGo target it v) (fun _ s₁' => wpAny (model prog w) A (assign target env v) (fun _ s₂ =>
          wpAny (model prog w) A (forIn ifs true fun c r => if r = true then do let ok ← isTrue c env (eval c env); pure (ForInStep.yield ok) else pure (ForInStep.yield r)) (fun ok s₃ =>
            if ok = true then wpAny (model prog w) A (eval elt env) (fun x s₄ =>
              wpAny (model prog w) A (call (.builtin "list.append") [acc, x]) (fun _ s₅ => ∃ m, m < n ∧ I m s₅) (notedBy (model prog w) A env fun e s' => R (.error e) s') s₄) (notedBy (model prog w) A env fun e s' => R (.error e) s') s₃
            else ∃ m, m < n ∧ I m s₃) (notedBy (model prog w) A env fun e s' => R (.error e) s') s₂) (notedBy (model prog w) A env fun e s' => R (.error e) s') s₁') (notedBy (model prog w) A env fun e s' => R (.error e) s') s₁) (notedBy (model prog w) A env fun e s' => R (.error e) s') s)
    (n : Nat) (h : I n s) :
    codeAny (model prog w) A (.compLoop (.ListComp elt [⟨target, iter, ifs, 0⟩] scope pos) 0 it acc env) R s := by
  refine codeAny_loop rfl I (fun n s hI => ?_) n h
  show wpAny _ A ((compTurn (.ListComp elt [⟨target, iter, ifs, 0⟩] scope pos) 0 it acc env).onRaise (fun x => do noteFrame x env; theTreesLotGoes x)) _ _ s
  refine wpAny_noted ?_
  rw [compTurn_list]
  refine wpAny_bind (wpAny_standAt (wpAny_bind (wpAny_mono (turn n s hI) (fun r s₁ h₁ => ?_) fun _ _ h' => h')))
  cases r with
  | none => exact wpAny_pure h₁
  | some v =>
    refine wpAny_bind (wpAny_mono h₁ (fun _ s₁' h₁' => ?_) fun _ _ h' => h')
    refine wpAny_bind (wpAny_mono h₁' (fun _ s₂ h₂ => wpAny_bind (wpAny_mono h₂ (fun ok s₃ h₃ => ?_) fun _ _ h' => h')) fun _ _ h' => h')
    cases ok with
    | false => exact wpAny_pure ⟨rfl, h₃⟩
    | true =>
      exact wpAny_bind (wpAny_bind (wpAny_mono h₃ (fun x s₄ h₄ => wpAny_bind (wpAny_mono h₄ (fun _ s₅ h₅ => wpAny_pure (wpAny_pure ⟨rfl, h₅⟩)) fun _ _ h' => h')) fun _ _ h' => h'))
section
variable {X : Cx}
def tLc (wi : TI) (g : TG) (tt : TT) (te : TE) (vs : List Nat) : TE := fun σ H Q => wi σ H fun J H1 => ∀ D, H1 D = none → ∃ W : Nat → Nat → Hp → Prop, (∃ m, W 0 m (upd H1 D (.lst []))) ∧ ∀ i m H, W i m H →
  (J.stop i H ∧ Q (.ref D) H) ∨ (J.go i H ∧ ∃ Nx : Hp → Prop, (∀ H', Nx H' → ∃ m', m' < m ∧ W (i + 1) m' H') ∧ ∀ x H', J.yld i H x H' → g x (wipe σ vs) H' fun σ2 H2 => wipe σ2 vs = wipe σ vs ∧ tt σ2 H2 fun b H3 =>
    if b = true then te σ2 H3 fun y H4 => ∃ acc, H4 D = some (.lst acc) ∧ acc.length < sizeLine ∧ Nx (upd H4 D (.lst (acc ++ [y]))) else Nx H3)
theorem lc_core {pins : List (Addr × Obj)} {s : Shared} {σ : St} {H : Hp} {Q : VK} {elt tg iter : Expr} {ifs : List Expr} {scope : Scope} {own : List (Str × Nat)} {pos pos' : Pos} {wi : TI} {g : TG} {tt : TT} {te : TE} {use : Option (Value → Sem Unit)} {Qf : Value → Shared → Prop}
    (hc : X.calm = true) (hN : X.N.Nodup) (I : Inv X pins σ H s) (hi : PI X tg iter wi) (ok : BlkOk X.N X.env.scope scope own)
    (hg : ∀ (s : Shared) (H : Hp) (C : Addr) (cl : List (Str × Addr)) (fp : List Addr), PG (X.blk s H scope (compEnvC scope cl C X.env) fp) tg g) (ht : ∀ (s : Shared) (H : Hp) (C : Addr) (cl : List (Str × Addr)) (fp : List Addr), PTs (X.blk s H scope (compEnvC scope cl C X.env) fp) ifs tt)
    (he : ∀ (s : Shared) (H : Hp) (C : Addr) (cl : List (Str × Addr)) (fp : List Addr), PE (X.blk s H scope (compEnvC scope cl C X.env) fp) elt te) (hs : ∀ x, foldedSetIterable iter X.env x = pure x)
    (h : tLc wi g tt te (own.map (·.2)) σ H Q)
    (hRR : ∀ D C s' m H', Inv X pins σ H' s' → Q (.ref D) H' → s'.heap.Ns C m → FpOk X pins H' C → compPost (model X.prog X.w) X.A X.xe use Qf (.ref D) C (.ok .next) s') :
    wpAny (model X.prog X.w) X.A (comprehension (.ListComp elt [⟨tg, iter, ifs, 0⟩] scope pos) scope X.env pos' (newList []) false (eval iter X.env) use) Qf X.xe s := by
  have hfree : ∀ y ∈ scope.names, y.2 = .free → ∃ c, X.env.cells.lookup y.1 = some c := fun y hy e => by
    rcases ok.free y hy e with k | k
    · exact I.ok.has _ (.inl k)
    · exact I.ok.has _ (.inr k)
  refine wpAny_comprehension_free (use := use) rfl hs (closure_ok hfree) ok.kind (fun y hy e => by rw [ok.uniq y hy, e])
    (thn (hi pins s σ H _ I h) fun xv s1 hx => thn hx fun itv s2 h2 => ?_)
  obtain ⟨it, fp, tn, J, H2, e, I2, T, st2, f2, q⟩ := h2
  subst e
  refine wpAny_newObj_type (newEnv_comp ?_) (by show 0 ≤ sizeLine; decide)
  generalize hD : s2.heap.objs.size = D
  have hDn : H2 D = none := I2.hok.fresh (Nat.le_of_eq hD)
  obtain ⟨W, ⟨m0, w0⟩, turn⟩ := q D hDn
  -- the new list
  generalize hs3 : ({ s2 with heap := s2.heap.push { cls := .type "list", data := .seq ([] : List Value).toArray } } : Shared) = s3
  have I3 : Inv X pins σ (upd H2 D (.lst [])) s3 := by
    rw [← hs3]
    refine I2.laid (t' := s2.toks) (fun b o e => Heap.get?_push_of_some _ e) (Nat.le_of_eq hD) ⟨Nat.zero_le _, [], 0, .nil, ?_⟩
    rw [← hD]
    exact Heap.get?_push_size _ rfl
  have h3 : s3.heap = s2.heap.push { cls := .type "list", data := .seq ([] : List Value).toArray } := by rw [← hs3]
  have sz : ∀ b ∈ fp, b < s2.heap.objs.size := fun b hb => by
    obtain ⟨o, e, _⟩ := T.obj _ _ st2 b hb
    exact Heap.lt_size e
  have f3 : ∀ b ∈ fp, FpOk X pins (upd H2 D (.lst [])) b ∧ b < s3.heap.objs.size := fun b hb => by
    have hlt := sz b hb
    refine ⟨⟨?_, (f2 b hb).2⟩, by rw [h3, Heap.size_push]; exact Nat.lt_succ_of_lt hlt⟩
    rw [upd_ne (by rw [← hD]; exact Nat.ne_of_lt hlt)]
    exact (f2 b hb).1
  have st3 : tn 0 s3.heap := T.keep _ _ _ st2 fun b _ o e => by rw [h3]; exact Heap.get?_push_of_some _ e
  have I4 := block_start I3 ok hN f3
  have pg := hg s3 (upd H2 D (.lst [])) s3.heap.objs.size (cellsFrom (s3.heap.objs.size + 1) scope.names (cloFrom X.env.cells scope.names [])) fp
  have pt := ht s3 (upd H2 D (.lst [])) s3.heap.objs.size (cellsFrom (s3.heap.objs.size + 1) scope.names (cloFrom X.env.cells scope.names [])) fp
  have pe := he s3 (upd H2 D (.lst [])) s3.heap.objs.size (cellsFrom (s3.heap.objs.size + 1) scope.names (cloFrom X.env.cells scope.names [])) fp
  show codeAny _ _ (.compStart (.ListComp elt [⟨tg, iter, ifs, 0⟩] scope pos) 0 (.ref it) (.ref D) (compEnvC scope (cellsFrom (s3.heap.objs.size + 1) scope.names (cloFrom X.env.cells scope.names [])) s3.heap.objs.size X.env)) (compPost (model X.prog X.w) X.A X.xe use Qf (.ref D) s3.heap.objs.size) { s3 with heap := pushCells (s3.heap.push { cls := .type "dict", data := .dict #[] }) scope.names }
  have nfp : ∀ b ∈ fp, (upd H2 D (.lst [])) b = none := fun b hb => (f3 b hb).1.1
  generalize hce : compEnvC scope (cellsFrom (s3.heap.objs.size + 1) scope.names (cloFrom X.env.cells scope.names [])) s3.heap.objs.size X.env = ce at I4 pg pt pe ⊢
  have cL : ce.locals = s3.heap.objs.size := by subst hce; rfl
  generalize hH3 : upd H2 D (.lst []) = H3 at I3 I4 pg pt pe w0 nfp f3
  generalize hs4 : ({ s3 with heap := pushCells (s3.heap.push { cls := .type "dict", data := .dict #[] }) scope.names } : Shared) = s4 at I4 ⊢
  have st4 : tn 0 s4.heap := T.keep _ _ _ st3 fun b _ o e => by rw [← hs4]; exact pushCells_keeps _ _ _ _ (Heap.get?_push_of_some _ e)
  have stat : ∀ {σ' : St} {H' : Hp} {s' : Shared}, Inv (X.blk s3 H3 scope ce fp) [] σ' H' s' → (∀ b ∈ fp, H' b = none) → ∀ b ∈ fp, FpOk (X.blk s3 H3 scope ce fp) [] H' b := fun {σ' H' s'} I' hn b hb =>
    ⟨hn b hb, (I'.ok.exf b hb).1, I'.ok.exfs b hb, .inl hb, fun x c e => (I'.ok.exf b hb).2 x c e, fun p hp => absurd (show p ∈ ([] : List (Addr × Obj)) ++ [] from hp) (by simp)⟩
  have loop : codeAny (model X.prog X.w) X.A (.compLoop (.ListComp elt [⟨tg, iter, ifs, 0⟩] scope pos) 0 (.ref it) (.ref D) ce) (compPost (model X.prog X.w) X.A X.xe use Qf (.ref D) s3.heap.objs.size) s4 := by
    refine compLoop_any (fun n s' => ∃ i H', Inv (X.blk s3 H3 scope ce fp) [] (wipe σ (own.map (·.2))) H' s' ∧ tn i s'.heap ∧ (∀ b ∈ fp, H' b = none) ∧ W i n H') ?_ m0 ⟨0, H3, I4, st4, nfp, w0⟩
    rintro n s5 ⟨i, H5, I5, st5, n5, w5⟩
    rcases turn i n H5 w5 with ⟨stop, qq⟩ | ⟨go, Nx, hNx, step⟩
    · have td := T.done (X.blk s3 H3 scope ce fp) rfl rfl rfl hc i [] s5 _ H5 (fun _ _ => False) I5 (stat I5 n5) st5 stop
      refine thnF td fun r s6 ⟨hr, I6⟩ => ?_
      subst hr
      -- back in the def's context
      have I7 : Inv X pins σ H5 s6 := I3.call' (ch := fp) I6.os I6.base I6.hok I6.bare fun b hb => ⟨(f3 b hb).1.2.2.2.1, (f3 b hb).1.2.1, (f3 b hb).1.2.2.2.2.1, (f3 b hb).1.2.2.2.2.2⟩
      have nC : H5 s3.heap.objs.size = none := by
        have z : H5 ce.locals = none := I6.free
        rw [cL] at z
        exact z
      obtain ⟨m, hn, _⟩ := I6.loc
      have hn : s6.heap.Ns ce.locals m := hn
      rw [cL] at hn
      exact hRR D s3.heap.objs.size s6 m H5 I7 qq hn (I3.fpOk (Nat.le_refl _) nC)
    · have ti := T.item (X.blk s3 H3 scope ce fp) rfl rfl rfl hc i [] s5 _ H5 (fun _ _ => False) I5 (stat I5 n5) st5 go
      refine thnF ti fun r s6 ⟨u, hr, h6⟩ => ?_
      subst hr
      refine thnF h6 fun _ s7 ⟨x, H7, I7, r7, y7, st7, n7⟩ => ?_
      have I7' := I7.pinned (stat I7 n7) (T.obj _ _ st7)
      refine thnF (pg _ s7 _ H7 x u _ I7' r7 (step x H7 y7)) fun _ s8 ⟨σ8, H8, I8, hw8, q8⟩ => ?_
      refine thnF (pt _ s8 σ8 H8 _ I8 q8) fun b s9 ⟨H9, I9, q9⟩ => ?_
      -- the turn's end
      have fin : ∀ {s' : Shared} {H' : Hp}, Inv (X.blk s3 H3 scope ce fp) ([] ++ pinsAt fp s7.heap) σ8 H' s' → Nx H' → ∃ m, m < n ∧ ∃ i H', Inv (X.blk s3 H3 scope ce fp) [] (wipe σ (own.map (·.2))) H' s' ∧ tn i s'.heap ∧ (∀ b ∈ fp, H' b = none) ∧ W i m H' := fun {s' H'} I' nx => by
        obtain ⟨m', hm, w'⟩ := hNx H' nx
        have pin' : ∀ b ∈ fp, ∀ o, s7.heap.get? b = some o → s'.heap.get? b = some o ∧ H' b = none := fun b hb o e =>
          let z := I'.pin (b, o) (List.mem_append_right _ (List.mem_append_right _ (mem_pinsAt hb e)))
          ⟨z.1, z.2.1⟩
        have hl : (wipe σ (own.map (·.2))).length = σ8.length := by rw [← hw8, wipe_length]
        refine ⟨m', hm, i + 1, H', (I'.unpinned (pins := [])).weak hl (fun j v e => ?_), T.keep _ _ _ st7 fun b hb o e => (pin' b hb o e).1, fun b hb => ?_, w'⟩
        · rw [← hw8] at e
          exact (wipe_some e).1
        · obtain ⟨o, e, _⟩ := T.obj _ _ st7 b hb
          exact (pin' b hb o e).2
      cases b with
      | false =>
        simp only [Bool.false_eq_true, if_false] at q9 ⊢
        exact fin I9 q9
      | true =>
        simp only [if_true] at q9 ⊢
        refine thnF (pe _ s9 σ8 H9 _ I9 q9) fun z s10 ⟨yv, H10, I10, r10, acc, hD10, hz10, nx⟩ => ?_
        exact app_ok (X := X.blk s3 H3 scope ce fp) I10 hD10 hz10 r10 fun s11 I11 => fin I11 nx
  exact codeAny_compStart_list loop (T.self X.A 0 _ _ _ st4 loop)
theorem pe_lc {elt tg iter : Expr} {ifs : List Expr} {scope : Scope} {own : List (Str × Nat)} {pos : Pos} {wi : TI} {g : TG} {tt : TT} {te : TE} (hc : X.calm = true) (hN : X.N.Nodup) (hi : PI X tg iter wi) (ok : BlkOk X.N X.env.scope scope own)
    (hg : ∀ (s : Shared) (H : Hp) (C : Addr) (cl : List (Str × Addr)) (fp : List Addr), PG (X.blk s H scope (compEnvC scope cl C X.env) fp) tg g) (ht : ∀ (s : Shared) (H : Hp) (C : Addr) (cl : List (Str × Addr)) (fp : List Addr), PTs (X.blk s H scope (compEnvC scope cl C X.env) fp) ifs tt)
    (he : ∀ (s : Shared) (H : Hp) (C : Addr) (cl : List (Str × Addr)) (fp : List Addr), PE (X.blk s H scope (compEnvC scope cl C X.env) fp) elt te) (hs : ∀ x, foldedSetIterable iter X.env x = pure x := by intro _; rfl) :
    PE X (.ListComp elt [⟨tg, iter, ifs, 0⟩] scope pos) (tLc wi g tt te (own.map (·.2))) := by
  intro pins s σ H Q I h
  rw [eval_ListComp]
  refine lc_core hc hN I hi ok hg ht he hs h fun D C s' m H' I' q hn f => ⟨m, hn, fun h'' sb => ?_⟩
  obtain ⟨f0, f1, f2, f3, f4, f5⟩ := f
  exact ⟨.ref D, H', I'.turned (t' := s'.toks) (fun b o hb e => (sb.2 b hb).trans e) f0 f1 f3 f4 f5, rfl, q⟩
theorem ps_setLc {i : Nat} {y : Str} {py : Pos} {elt tg iter : Expr} {ifs : List Expr} {scope : Scope} {own : List (Str × Nat)} {pos spos : Pos} {wi : TI} {g : TG} {tt : TT} {te : TE} (hc : X.calm = true) (hN : X.N.Nodup) (hy : X.N[i]? = some y) (hyl : X.env.scope.names.lookup y = some .local)
    (hsw : swapsWith (.ListComp elt [⟨tg, iter, ifs, 0⟩] scope pos) (some (.Name y py)) spos.line X.env = pure true) (hi : PI X tg iter wi) (ok : BlkOk X.N X.env.scope scope own)
    (hg : ∀ (s : Shared) (H : Hp) (C : Addr) (cl : List (Str × Addr)) (fp : List Addr), PG (X.blk s H scope (compEnvC scope cl C X.env) fp) tg g) (ht : ∀ (s : Shared) (H : Hp) (C : Addr) (cl : List (Str × Addr)) (fp : List Addr), PTs (X.blk s H scope (compEnvC scope cl C X.env) fp) ifs tt)
    (he : ∀ (s : Shared) (H : Hp) (C : Addr) (cl : List (Str × Addr)) (fp : List Addr), PE (X.blk s H scope (compEnvC scope cl C X.env) fp) elt te) (hs : ∀ x, foldedSetIterable iter X.env x = pure x := by intro _; rfl) :
    PS X (.Assign [.Name y py] (.ListComp elt [⟨tg, iter, ifs, 0⟩] scope pos) spos) (tAsg (tLc wi g tt te (own.map (·.2))) (gName i)) := by
  intro pins s σ H D I h
  rw [exec_Assign_Name_used _ _ _ _ hsw]
  refine wpAny_bind (wpAny_standAt (wpAny_bind ?_))
  show wpAny _ X.A (do let _ ← comprehension (.ListComp elt [⟨tg, iter, ifs, 0⟩] scope pos) scope X.env (firstIterPos [⟨tg, iter, ifs, 0⟩] pos) (newList []) false (eval iter X.env) (some (assign (.Name y py) X.env))) _ _ s
  have h : tLc wi g tt te (own.map (·.2)) σ H (fun x H1 => gName i x σ H1 D.nx) := h
  refine wpAny_bind (thn (lc_core (Qf := fun _ s' => SP X pins D .next s') hc hN I hi ok hg ht he hs h fun L C s' m H' I' q hn f => ?_) fun _ s' hq => wpAny_pure (wpAny_pure hq))
  show wpAny _ _ (assign (.Name y py) X.env (.ref L)) _ _ _
  refine wpAny_assign_Name (store_ok2 (v := V.ref L) I' hN hy (.inl hyl) rfl (fun s2 I2 ⟨a, sb, ha⟩ => ?_) (.inr hyl))
  obtain ⟨f0, f1, f2, f3, f4, f5⟩ := f
  have haC : C ≠ a := by
    rcases ha with z | z
    · rw [z]; exact f1
    · exact fun e => f4 y a z e.symm
  refine ⟨m, hn.sameBut sb haC, fun h3 sb3 => ?_⟩
  exact ⟨_, H', I2.turned (t' := s2.toks) (fun b o hb e => (sb3.2 b hb).trans e) f0 f1 f3 f4 f5, q⟩
theorem sw_true {elt : Expr} {gs : List Comprehension} {scope : Scope} {pos py : Pos} {y : Str} {l : Nat} {env : Env} (hk : env.scope.kind = .function) (hy : env.scope.names.lookup y = some .local) (hl : (py.line == pos.line) = true)
    (ha : (scope.names.any fun (n, k) => n == y && (k == .local || k == .cell)) = false) : swapsWith (.ListComp elt gs scope pos) (some (.Name y py)) l env = pure true := by
  have ky : env.kindOf y = some .local := hy
  have hb : env.blockKind = .function := by unfold Env.blockKind; rw [hk]; rfl
  unfold swapsWith
  simp only [hb, ky, ha, Expr.pos, hl]
  rfl
end
theorem lc_range {lo : Int} {n : Nat} {g : TG} {tt : TT} {te : TE} {vs : List Nat} {σ : St} {H1 : Hp} {D : Addr} {Qd : Hp → Prop} (Pv : Nat → Hp → Prop) (h0 : Pv 0 (upd H1 D (.lst [])))
    (hs : ∀ i H, i < n → Pv i H → g (.int (lo + i)) (wipe σ vs) H fun σ2 H2 => wipe σ2 vs = wipe σ vs ∧ tt σ2 H2 fun b H3 =>
      if b = true then te σ2 H3 fun y H4 => ∃ acc, H4 D = some (.lst acc) ∧ acc.length < sizeLine ∧ Pv (i + 1) (upd H4 D (.lst (acc ++ [y]))) else Pv (i + 1) H3) (hd : ∀ H, Pv n H → Qd H) :
    ∃ W : Nat → Nat → Hp → Prop, (∃ m, W 0 m (upd H1 D (.lst []))) ∧ ∀ i m H, W i m H →
      ((Itr lo n).stop i H ∧ Qd H) ∨ ((Itr lo n).go i H ∧ ∃ Nx : Hp → Prop, (∀ H', Nx H' → ∃ m', m' < m ∧ W (i + 1) m' H') ∧ ∀ x H', (Itr lo n).yld i H x H' → g x (wipe σ vs) H' fun σ2 H2 => wipe σ2 vs = wipe σ vs ∧ tt σ2 H2 fun b H3 =>
        if b = true then te σ2 H3 fun y H4 => ∃ acc, H4 D = some (.lst acc) ∧ acc.length < sizeLine ∧ Nx (upd H4 D (.lst (acc ++ [y]))) else Nx H3) := by
  refine ⟨fun i m H => m = n - i ∧ i ≤ n ∧ Pv i H, ⟨n, by simp, Nat.zero_le _, h0⟩, ?_⟩
  rintro i m H ⟨rfl, hi, p⟩
  by_cases hlt : i < n
  · refine .inr ⟨hlt, Pv (i + 1), fun H' p' => ⟨n - (i + 1), by omega, rfl, hlt, p'⟩, fun x H' y => ?_⟩
    obtain ⟨e, y⟩ := y
    subst e y
    exact hs i _ hlt p
  · have e : i = n := by omega
    subst e
    exact .inl ⟨Nat.le_refl _, hd H p⟩
theorem lc_list {K : PySem.W.Frag} {a : Addr} {xs : List V} {g : TG} {tt : TT} {te : TE} {vs : List Nat} {σ : St} {H1 : Hp} {D : Addr} {Qd : Hp → Prop} (Pv : Nat → Hp → Prop) (h0 : Pv 0 (upd H1 D (.lst []))) (hl : ∀ i H, i ≤ xs.length → Pv i H → SqL K H a xs)
    (hs : ∀ i x H, xs[i]? = some x → Pv i H → g x (wipe σ vs) H fun σ2 H2 => wipe σ2 vs = wipe σ vs ∧ tt σ2 H2 fun b H3 =>
      if b = true then te σ2 H3 fun y H4 => ∃ acc, H4 D = some (.lst acc) ∧ acc.length < sizeLine ∧ Pv (i + 1) (upd H4 D (.lst (acc ++ [y]))) else Pv (i + 1) H3) (hd : ∀ H, Pv xs.length H → Qd H) :
    ∃ W : Nat → Nat → Hp → Prop, (∃ m, W 0 m (upd H1 D (.lst []))) ∧ ∀ i m H, W i m H →
      ((Itl K a).stop i H ∧ Qd H) ∨ ((Itl K a).go i H ∧ ∃ Nx : Hp → Prop, (∀ H', Nx H' → ∃ m', m' < m ∧ W (i + 1) m' H') ∧ ∀ x H', (Itl K a).yld i H x H' → g x (wipe σ vs) H' fun σ2 H2 => wipe σ2 vs = wipe σ vs ∧ tt σ2 H2 fun b H3 =>
        if b = true then te σ2 H3 fun y H4 => ∃ acc, H4 D = some (.lst acc) ∧ acc.length < sizeLine ∧ Nx (upd H4 D (.lst (acc ++ [y]))) else Nx H3) := by
  refine ⟨fun i m H => m = xs.length - i ∧ i ≤ xs.length ∧ Pv i H, ⟨xs.length, by simp, Nat.zero_le _, h0⟩, ?_⟩
  rintro i m H ⟨rfl, hi, p⟩
  have q := hl i H hi p
  by_cases hlt : i < xs.length
  · refine .inr ⟨⟨xs, xs[i], q, by simp [hlt]⟩, Pv (i + 1), fun H' p' => ⟨xs.length - (i + 1), by omega, rfl, hlt, p'⟩, fun x H' y => ?_⟩
    obtain ⟨e, y⟩ := y
    subst e
    exact hs i x _ (y xs q) p
  · have e : i = xs.length := by omega
    subst e
    exact .inl ⟨⟨xs, q, Nat.le_refl _⟩, hd H p⟩
def blkC (N : List Str) (sc scope : Scope) (own : List (Str × Nat)) : Bool :=
  (match scope.kind with | .function => true | _ => false) && (scope.names.all fun y => decide (scope.names.lookup y.1 = some y.2)) && (own.all fun p => decide (N[p.2]? = some p.1)) &&
    (scope.names.all fun y => match y.2 with
      | .free => (match sc.names.lookup y.1 with | some .cell => true | some .free => true | _ => false)
      | .local => decide (y.1 ∈ own.map (·.1)) || decide (y.1 ∉ N)
      | .cell => decide (y.1 ∈ own.map (·.1)) || decide (y.1 ∉ N)
      | _ => true)
theorem blkOk_by {N : List Str} {sc scope : Scope} {own : List (Str × Nat)} (h : blkC N sc scope own = true) : BlkOk N sc scope own := by
  unfold blkC at h
  simp only [Bool.and_eq_true, List.all_eq_true, decide_eq_true_eq] at h
  obtain ⟨⟨⟨h1, h2⟩, h3⟩, h4⟩ := h
  refine ⟨?_, h2, h3, fun y hy e => ?_, fun y hy e => ?_⟩
  · split at h1
    · assumption
    · cases h1
  · have q := h4 y hy
    simp only [e] at q
    split at q <;> first | exact .inl (by assumption) | exact .inr (by assumption) | cases q
  · have q := h4 y hy
    rcases e with e | e <;> (simp only [e, Bool.or_eq_true, decide_eq_true_eq] at q; exact q)
end L2
namespace L2
open PySem PySem.Spec PyProof.Rows
section
variable {prog : Program} {w : World} {A : Around} {R : Result → Shared → Prop} {s : Shared} {elt t0 i0 t1 i1 : Expr} {ifs0 ifs1 : List Expr} {scope : Scope} {pos : Pos} {it acc : Value} {env : Env}
end
section
variable {X : Cx}
end
end L2
namespace L2
open PySem PySem.Spec PyProof.Rows
section
variable {κ : Type} [DecidableEq κ]
theorem RelO.isSome_eq {o : Option V} {u : Option Value} (r : RelO o u) : o.isSome = u.isSome := by
  cases o with
  | none => cases u with
    | none => rfl
    | some _ => exact (show False from r).elim
  | some _ => cases u with
    | none => exact (show False from r).elim
    | some _ => rfl
end
section
variable {P : Program} {w : World} {H : Hp} {h : Heap} {a : Addr}
end
section
variable {X : Cx} {pins : List (Addr × Obj)} {σ : St} {H : Hp} {s : Shared} {a : Addr} {y v : V} {u r : Value} {o : Option V} {A : Around} {E : Value → Shared → Prop}
theorem Inv.big (I : Inv X pins σ H s) : sysModules < s.heap.objs.size := by
  have h : mainGlobals < s.heap.objs.size := (I.mod.glob.keeps I.bk).lt
  exact Nat.lt_trans (by decide) h
theorem d_write {h' : Heap} {t' : Nat} {ob : HO} (I : Inv X pins σ H s) (mu : Mut (H a)) (hs : Heap.SameBut a s.heap h') (he : ∃ q, h'.get? a = some q) (new : ObjOk X.prog X.w (upd H a ob) h' a ob) :
    Inv X pins σ (upd H a ob) { s with heap := h', toks := t' } :=
  I.write (x := a) (e := a) mu (.inl rfl) (fun b q hb z => (hs.2 b hb).trans z) he new
end
section
variable {X : Cx} {pins : List (Addr × Obj)} {σ : St} {H : Hp} {s : Shared} {a : Addr} {kvs : List (Key × V)} {k : Key} {u : Value} {A : Around} {E : Value → Shared → Prop}
end
def NoSl (i : Expr) : Prop := ∀ ov iv, subscripted i false ov iv = operate [ov, iv] (getItem ov iv)
theorem subD_of {prog : Program} {w : World} {A : Around} {E : Value → Shared → Prop} {s : Shared} {env : Env} {value slice : Expr} {pos : Pos} {T id : String} {Q : Value → Shared → Prop}
    (hl : typeLookup (.type T) "__getitem__" = pure (some (.builtin id))) (hs : NoSl slice)
    (h : wpAny (model prog w) A (eval value env) (fun o s₁ => wpAny (model prog w) A (eval slice env) (fun i s₂ => s₂.TypeIs o T ∧ wpAny (model prog w) A (getItem o i) Q E s₂) E s₁) E s) :
    wpAny (model prog w) A (eval (.Subscript value slice pos) env) Q E s := by
  refine Subscript_ (wpAny_mono h (fun o s₁ h₁ => wpAny_mono h₁ (fun i s₂ h₂ => ?_) fun _ _ x => x) fun _ _ x => x)
  obtain ⟨hT, h₂⟩ := h₂
  unfold subscriptTail
  refine wpAny_bind ?_
  rw [getitemInPython_of_ne hT.not_modules]
  refine wpAny_bind (wpAny_specialOf hT hl ?_)
  have fin : wpAny (model prog w) A (subscripted slice false o i) (fun r s₃ => wpAny (model prog w) A (letTemporaryGo value o r >>= fun _ => pure r) Q E s₃) E s₂ := by
    rw [hs o i]
    exact wpAny_operating (wpAny_mono h₂ (fun r s₃ h₃ => wpAny_bind (wpAny_letTemporaryGo (wpAny_pure h₃))) fun _ _ x => x)
  first
    | exact wpAny_pure (wpAny_bind fin)
    | exact wpAny_bind (wpAny_pure (wpAny_bind fin))
    | exact wpAny_bind fin
section
variable {X : Cx} {o i e value : Expr} {pos pos' tpos : Pos} {td ty tv : TE}
end
section
variable {X : Cx} {pos : Pos}
end
section
variable {X : Cx} {pins : List (Addr × Obj)} {σ : St} {H : Hp} {s : Shared} {a : Addr} {y d : V} {u r : Value} {o : Option V} {A : Around} {E : Value → Shared → Prop}
end
section
variable {X : Cx} {o e f : Expr} {apos cpos : Pos} {td ty tx : TE}
end
section
variable {X : Cx} {pins : List (Addr × Obj)} {σ : St} {H : Hp} {s : Shared} {a : Addr} {kvs : List (Key × V)} {A : Around} {E : Value → Shared → Prop}
end
section
variable {X : Cx} {pins : List (Addr × Obj)} {σ : St} {H : Hp} {s : Shared} {a : Addr} {y : V} {u : Value} {A : Around} {E : Value → Shared → Prop}
end
end L2
namespace L2
open PySem PySem.Spec PyProof.Rows
section
variable {prog : Program} {w : World} {A : Around} {E : Value → Shared → Prop}
end
section
variable {X : Cx}
end
end L2
namespace L2
open PySem PySem.Spec PyProof.Rows
section
variable {X : Cx} {pins : List (Addr × Obj)} {σ : St} {H : Hp} {s : Shared} {h' : Heap}
theorem Inv.turnedL {t' : Nat} {ch : List Addr} (I : Inv X pins σ H s) (k : ∀ b o, b ∉ ch → s.heap.get? b = some o → h'.get? b = some o) (hf : ∀ b ∈ ch, FpOk X pins H b) : Inv X pins σ H { s with heap := h', toks := t' } := by
  have nit : ∀ b u, H b = some u → b ∉ ch := fun b u e z => by
    have q := (hf b z).1
    rw [q] at e; cases e
  refine I.step (g' := s.gens) (d' := s.drawn) (ch := ch) (fun b hb => ⟨(hf b hb).2.2.2.1, (hf b hb).2.1, (hf b hb).2.2.2.2.1, (hf b hb).2.2.2.2.2⟩) (fun b o _ _ hc e _ => k b o hc e) (fun b o _ _ hc e _ => ⟨o.slots, k b o hc e⟩)
    (fun _ _ _ _ n => n) (fun b o hc e => ⟨o, k b o hc e⟩) (fun _ _ e => e) (fun _ _ _ e => e) (fun b ps e => ⟨#[], by rw [e]; simp⟩) (fun m hm => ?_) (fun b u e => ?_) I.bare
  · obtain ⟨o, es, ep, ho, r⟩ := hm
    exact ⟨o, es, ep, k _ o (fun z => (hf _ z).2.1 rfl) ho, r⟩
  · refine (I.hok b u e).stay (fun c v hc q => k c v ?_ q) (fun _ q => q) fun _ _ q => q
    rcases hc with z | z
    · rw [z]; exact nit b u e
    · exact nit c _ z
theorem Inv.turnedNew {t' : Nat} {ch : List Addr} {T : Addr} {ob : HO} (I : Inv X pins σ H s) (k : ∀ b o, b ∉ ch → s.heap.get? b = some o → h'.get? b = some o) (hf : ∀ b ∈ ch, FpOk X pins H b) (hT : s.heap.objs.size ≤ T)
    (new : ObjOk X.prog X.w (upd H T ob) h' T ob) : Inv X pins σ (upd H T ob) { s with heap := h', toks := t' } := by
  have hn : H T = none := I.hok.fresh hT
  have nit : ∀ b u, H b = some u → b ∉ ch := fun b u e z => by
    have q := (hf b z).1
    rw [q] at e; cases e
  refine I.step (g' := s.gens) (d' := s.drawn) (ch := ch) (fun b hb => ⟨(hf b hb).2.2.2.1, (hf b hb).2.1, (hf b hb).2.2.2.2.1, (hf b hb).2.2.2.2.2⟩) (fun b o _ _ hc e _ => k b o hc e) (fun b o _ _ hc e _ => ⟨o.slots, k b o hc e⟩)
    (fun b o _ e n => ?_) (fun b o hc e => ⟨o, k b o hc e⟩) (fun b xs e => ?_) (fun b o u e => ?_) (fun b ps e => ⟨#[], ?_⟩) (fun m hm => ?_) (fun b u e => ?_) I.bare
  · rw [upd_ne (Nat.ne_of_lt (Nat.lt_of_lt_of_le (Heap.lt_size e) hT))]; exact n
  · rw [upd_ne (ne_of_none e hn)]; exact e
  · rw [upd_ne (ne_of_none e hn)]; exact e
  · rw [upd_ne (ne_of_none e hn), e]; simp
  · obtain ⟨o, es, ep, ho, r⟩ := hm
    exact ⟨o, es, ep, k _ o (fun z => (hf _ z).2.1 rfl) ho, r⟩
  · by_cases hb : b = T
    · subst hb
      rw [upd_same] at e
      cases e
      exact new
    · rw [upd_ne hb] at e
      refine (I.hok b u e).stay (fun c v hc q => k c v ?_ q) (fun c q => by rw [upd_ne (ne_of_none q hn)]; exact q) fun c xs q => by rw [upd_ne (ne_of_none q hn)]; exact q
      rcases hc with z | z
      · rw [z]; exact nit b u e
      · exact nit c _ z
theorem Inv.lock {d : Addr} {u : HO} (I : Inv X pins σ H s) (h : H d = some u) (mu : Mut (some u)) : ∃ od, Inv X pins σ (upd H d (.frz od u)) s := by
  have x := I.hok d u h
  have ex : ∃ od, s.heap.get? d = some od := by
    cases u with
    | lst xs => obtain ⟨_, _, _, _, e⟩ := x; exact ⟨_, e⟩
    | dK kvs => obtain ⟨_, _, _, _, o, _, _, e, _⟩ := x; exact ⟨o, e⟩
    | dT kvs => obtain ⟨_, _, _, _, o, _, _, e, _⟩ := x; exact ⟨o, e⟩
    | set S n => obtain ⟨o, _, _, _, e, _⟩ := x; exact ⟨o, e⟩
    | ins C dx fs => obtain ⟨_, _, _, e, _⟩ := x; exact ⟨_, e⟩
    | ext φ => obtain ⟨_, ⟨_, e⟩, _⟩ := x; exact ⟨_, e⟩
    | _ => exact False.elim mu
  obtain ⟨od, e⟩ := ex
  have new : ObjOk X.prog X.w (upd H d (.frz od u)) s.heap d (.frz od u) := by
    refine ⟨e, x.stay (fun b v _ q => q) (fun b q => ?_) fun b xs q => ?_⟩
    · rw [upd_ne (fun z => by rw [z, h] at q; cases q; exact mu)]; exact q
    · rw [upd_ne (fun z => by rw [z, h] at q; cases q; exact mu)]; exact q
  exact ⟨od, I.write (x := d) (e := d) (t' := s.toks) (h' := s.heap) (by rw [h]; exact mu) (.inl rfl) (fun b v _ q => q) ⟨od, e⟩ new⟩
theorem Inv.nofrz {d : Addr} {u : HO} (I : Inv X pins σ H s) (h : H d = some u) (mu : Mut (some u)) : ∀ o' u', X.H_0 d ≠ some (.frz o' u') := fun o' u' e => by
  have q := I.base.frzs d o' u' e
  rw [h] at q
  cases q
  exact mu
theorem Inv.unlock {d : Addr} {od : Obj} {u : HO} (I : Inv X pins σ H s) (h : H d = some (.frz od u)) (hn : ∀ o' u', X.H_0 d ≠ some (.frz o' u')) : Inv X pins σ (upd H d u) s := by
  have neH : ∀ b o, H b = some o → (∀ o' u', o ≠ .frz o' u') → b ≠ d := fun b o e hne z => by
    rw [z, h] at e
    cases e
    exact hne _ _ rfl
  have neN : ∀ b, H b = none → b ≠ d := fun b e z => by rw [z, h] at e; cases e
  refine ⟨I.ok, I.os, I.bare, ⟨I.base.keep, I.base.slot, fun b o e n hx => ?_, I.base.there, fun b xs e => ?_, fun b o x e => ?_, fun b ps e => ?_⟩, I.loc, I.cell, ?_, fun x c e => ?_, fun p hp => ?_, fun b o e => ?_, I.len⟩
  · rw [upd_ne (neN b (I.base.free b o e n hx))]; exact I.base.free b o e n hx
  · have q := I.base.tups b xs e
    rw [upd_ne (neH b _ q (fun _ _ z => nomatch z))]; exact q
  · have q := I.base.frzs b o x e
    rw [upd_ne (fun z => by rw [z] at e; exact hn _ _ e)]; exact q
  · obtain ⟨m, q⟩ := I.base.tbls b ps e
    exact ⟨m, by rw [upd_ne (neH b _ q (fun _ _ z => nomatch z))]; exact q⟩
  · rw [upd_ne (neN _ I.free)]; exact I.free
  · rw [upd_ne (neN c (I.freeC x c e))]; exact I.freeC x c e
  · obtain ⟨e, n, r⟩ := I.pin p hp
    exact ⟨e, by rw [upd_ne (neN _ n)]; exact n, r⟩
  · by_cases hb : b = d
    · rw [hb, upd_same] at e
      cases e
      rw [hb]
      obtain ⟨_, x⟩ := I.hok d _ h
      exact x.stay (fun c v _ q => q) (fun c q => by rw [upd_ne (neH c _ q (fun _ _ z => nomatch z))]; exact q) fun c xs q => by rw [upd_ne (neH c _ q (fun _ _ z => nomatch z))]; exact q
    · rw [upd_ne hb] at e
      exact (I.hok b o e).stay (fun c v _ q => q) (fun c q => by rw [upd_ne (neH c _ q (fun _ _ z => nomatch z))]; exact q) fun c xs q => by rw [upd_ne (neH c _ q (fun _ _ z => nomatch z))]; exact q
end
def tLockE (t : TE) : TE := fun σ H Q => ∃ d u, H d = some u ∧ Mut (some u) ∧ ∀ od, t σ (upd H d (.frz od u)) fun v H' => H' d = some (.frz od u) ∧ Q v (upd H' d u)
section
variable {X : Cx}
theorem pe_lock {e : Expr} {t : TE} (h : PE X e t) : PE X e (tLockE t) := by
  intro pins s σ H Q I hw
  obtain ⟨d, u, hd, mu, hw⟩ := hw
  obtain ⟨od, I1⟩ := I.lock hd mu
  refine thn (h pins s σ _ _ I1 (hw od)) fun v s1 ⟨x, H1, I2, r, e2, q⟩ => ?_
  exact ⟨x, _, I2.unlock e2 (I.nofrz hd mu), r, q⟩
end
section
variable {X : Cx} {tg : Expr}
end
section
variable {X : Cx} {tg : Expr}
end
section
variable {prog : Program} {w : World} {A : Around} {E : Value → Shared → Prop} {s : Shared}
end
section
variable {X : Cx} {pins : List (Addr × Obj)} {σ : St} {H : Hp} {s : Shared} {d : Addr} {o : Obj}
end
section
variable {P : Program} {w : World} {K : PySem.W.Frag} {tg : Expr} {d : Addr} {o : Obj} {es : Array DictEntry} {ep : Nat}
end
section
variable {X : Cx} {tg e : Expr} {td : TE} {apos cpos : Pos}
end
def Ite (K : PySem.W.Frag) (a : Addr) : It :=
  ⟨fun i H => ∃ (xs : List V) (x : V), SqL K H a xs ∧ xs[i]? = some x, fun i H v H' => ∃ T x, v = .ref T ∧ H T = none ∧ H' = upd H T (.tup [.int (i : Nat), x]) ∧ ∀ xs, SqL K H a xs → xs[i]? = some x, fun i H => ∃ xs : List V, SqL K H a xs ∧ xs.length ≤ i⟩
theorem turn_enum {P : Program} {w : World} {K : PySem.W.Frag} {elts : List Expr} {kk : Nat} {tpos : Pos} (a e it : Addr) :
    Turn P w K (.Tuple elts kk tpos) (Ite K a) [e, it] e (fun i h => (∃ old, IsEnum h e it ((i : Nat) : Int) old) ∧ h.IsListIter it a i ∧ e ≠ it) where
  mem := by simp
  obj := fun i h st b hb => by
    obtain ⟨⟨old, he⟩, ⟨o, ho, hc, hd⟩, _⟩ := st
    have e' : b = e ∨ b = it := by simpa using hb
    rcases e' with z | z
    · rw [z]; exact ⟨_, he, fun v q => nomatch q⟩
    · rw [z]; exact ⟨o, ho, fun v q => by rw [hd] at q; cases q⟩
  keep := fun i h h' st k => let ⟨⟨old, he⟩, hi, hne⟩ := st; ⟨⟨old, k e (by simp) _ he⟩, hi.at fun o q => k it (by simp) o q, hne⟩
  item := by
    intro X hP hw hK hc i pins s σ H E I hf st hg
    subst hP hw hK
    obtain ⟨⟨old, he⟩, hit, hne⟩ := st
    obtain ⟨xs, x, hq, hx⟩ := hg
    obtain ⟨its, rv, p, hz⟩ := I.list hq
    obtain ⟨u, hu, ru⟩ := rv.get hx
    have hel : e < s.heap.objs.size := Heap.lt_size he
    have hil : it < s.heap.objs.size := by obtain ⟨_, q, _⟩ := hit; exact Heap.lt_size q
    refine wpAny_pyNext_enum_item he hit p.isList (x := u) (by simpa using hu) hne fun h' ho hit' hT hsz hk => ?_
    refine ⟨_, rfl, wpAny_letOwnedTupleGo_enum (s := { s with heap := h', toks := s.toks + 1 }) ho fun h'' he' sb => ?_⟩
    have hT2 : h''.get? s.heap.objs.size = some { cls := .type "tuple", data := .seq #[.int i s.toks, u] } := (sb.2 _ (Nat.ne_of_gt hel)).trans hT
    have new : ObjOk X.prog X.w (upd H s.heap.objs.size (.tup [.int (i : Nat), x])) h'' s.heap.objs.size (.tup [.int (i : Nat), x]) :=
      ⟨by show 2 ≤ sizeLine; decide, [.int i s.toks, u], .cons ⟨_, rfl⟩ (.cons ru .nil), ⟨_, hT2, rfl, _, rfl⟩⟩
    have I1 : Inv X pins σ (upd H s.heap.objs.size (.tup [.int (i : Nat), x])) { s with heap := h'', toks := s.toks + 1 } :=
      I.turnedNew (ch := [e, it]) (fun b ob hb q => (sb.2 b (fun z => hb (by simp [z]))).trans (hk b ob (fun z => hb (by simp [z])) (fun z => hb (by simp [z])) q)) hf (Nat.le_refl _) new
    refine ⟨.ref s.heap.objs.size, _, I1, rfl, ⟨_, x, rfl, I.hok.fresh (Nat.le_refl _), rfl, fun ys hy => by rw [I.list_inj hy hq]; exact hx⟩, ⟨⟨u, ?_⟩, hit'.at fun o q => (sb.2 it (Ne.symm hne)).trans q, hne⟩, fun b hb => ?_⟩
    · have e1 : ((i + 1 : Nat) : Int) = (i : Int) + 1 := by omega
      rw [e1]; exact he'
    · have hb' : b < s.heap.objs.size := by
        have e' : b = e ∨ b = it := by simpa using hb
        rcases e' with z | z
        · rw [z]; exact hel
        · rw [z]; exact hil
      rw [upd_ne (Nat.ne_of_lt hb')]
      exact (hf b hb).1
  done := by
    intro X hP hw hK hc i pins s σ H E I hf st hg
    subst hP hw hK
    obtain ⟨⟨old, he⟩, hit, hne⟩ := st
    obtain ⟨xs, hq, hx⟩ := hg
    obtain ⟨its, rv, p, hz⟩ := I.list hq
    obtain ⟨f0, f1, f2, f3, f4, f5⟩ := hf it (by simp)
    have hl := rv.length
    exact wpAny_pyNext_enum_end (I.ok.hd hc) he hit p.isList (by simp; omega) fun h' eb => ⟨rfl, I.turned (t' := s.toks) (fun b o hb q => eb b o hb q) f0 f1 f3 f4 f5⟩
  self := fun A i s Q E st h => let ⟨⟨_, he⟩, _⟩ := st; wpAny_pyIter_enum he h
def iEnum (K : PySem.W.Frag) (ta : TA) : TI := fun σ H R => ta σ H fun vs H1 => ∃ a xs, vs = [.ref a] ∧ SqL K H1 a xs ∧ R (Ite K a) H1
theorem pi_enum {X : Cx} {e : Expr} {ta : TA} {p pos tpos : Pos} {elts : List Expr} {kk : Nat} (hg : Gl X "enumerate") (hm : X.mg "enumerate" = none) (ha : PA X [e] ta) (hs : starEach [e] X.env = [(false, eval e X.env)] := by rfl) :
    PI X (.Tuple elts kk tpos) (.Call (.Name "enumerate" p) [e] [] pos) (iEnum X.K ta) := by
  intro pins s σ H R I h
  refine Call_ (ld_blt I hg hm boot_enumerate (PyProof.Rows.callWith_type1 (thn (ha pos pins s σ H _ I h) fun us s1 ⟨vs, H1, I1, r1, q1⟩ => ?_) hs rfl))
  obtain ⟨a, xs, ex, hq, q⟩ := q1
  subst ex
  cases r1 with
  | cons r rr =>
    cases rr
    cases r
    obtain ⟨its, rv, p', hz⟩ := I1.list hq
    refine call_enumerate_list p'.isList fun h' he hit hsz hk => wpAny_pyIter_enum he ?_
    have I2 : Inv X pins σ H1 { s1 with heap := h' } := I1.kept (t' := s1.toks) hk
    refine ⟨s1.heap.objs.size + 1, [s1.heap.objs.size + 1, s1.heap.objs.size], _, _, H1, rfl, I2, turn_enum a (s1.heap.objs.size + 1) s1.heap.objs.size, ⟨⟨.none, he⟩, hit, Nat.succ_ne_self _⟩, fun b hb => ?_, q⟩
    have e' : b = s1.heap.objs.size + 1 ∨ b = s1.heap.objs.size := by simpa using hb
    have hle : s1.heap.objs.size ≤ b := by
      rcases e' with z | z
      · rw [z]; exact Nat.le_add_right _ _
      · rw [z]; exact Nat.le_refl _
    exact I1.fpOk hle (I1.hok.fresh hle)
theorem boot_zip5 : bootBuiltins "zip" = some (.type "zip") := by decide +kernel
def Itz (K : PySem.W.Frag) (a b : Addr) : It :=
  ⟨fun i H => ∃ (xs ys : List V) (x y : V), SqL K H a xs ∧ SqL K H b ys ∧ xs[i]? = some x ∧ ys[i]? = some y,
    fun i H v H' => ∃ T x y, v = .ref T ∧ H T = none ∧ H' = upd H T (.tup [x, y]) ∧ (∀ xs, SqL K H a xs → xs[i]? = some x) ∧ ∀ ys, SqL K H b ys → ys[i]? = some y,
    fun i H => ∃ xs ys : List V, SqL K H a xs ∧ SqL K H b ys ∧ (xs.length ≤ i ∨ ys.length ≤ i)⟩
theorem turn_zip {P : Program} {w : World} {K : PySem.W.Frag} {elts : List Expr} {kk : Nat} {tpos : Pos} {a b z TI TO i1 i2 : Addr} (D : ZipApart z TI TO i1 i2 a b) :
    Turn P w K (.Tuple elts kk tpos) (Itz K a b) [z, TI, TO, i1, i2] z (fun i h => IsZip h z TI TO .none ∧ IsPair h TI (.ref i1) (.ref i2) ∧ (∃ x y, IsPair h TO x y) ∧ h.IsListIter i1 a i ∧ h.IsListIter i2 b i) where
  mem := by simp
  obj := fun i h st c hc => by
    obtain ⟨hz, hTI, ⟨x, y, hTO⟩, ⟨o1, e1, _, d1⟩, ⟨o2, e2, _, d2⟩⟩ := st
    have e' : c = z ∨ c = TI ∨ c = TO ∨ c = i1 ∨ c = i2 := by simpa using hc
    rcases e' with q | q | q | q | q
    · rw [q]; exact ⟨_, hz, fun v q => nomatch q⟩
    · rw [q]; exact ⟨_, hTI, fun v q => nomatch q⟩
    · rw [q]; exact ⟨_, hTO, fun v q => nomatch q⟩
    · rw [q]; exact ⟨o1, e1, fun v q => by rw [d1] at q; cases q⟩
    · rw [q]; exact ⟨o2, e2, fun v q => by rw [d2] at q; cases q⟩
  keep := fun i h h' st k => by
    obtain ⟨hz, hTI, ⟨x, y, hTO⟩, h1, h2⟩ := st
    exact ⟨k z (by simp) _ hz, k TI (by simp) _ hTI, ⟨x, y, k TO (by simp) _ hTO⟩, h1.at fun o q => k i1 (by simp) o q, h2.at fun o q => k i2 (by simp) o q⟩
  item := by
    intro X hP hw hK hc i pins s σ H E I hf st hg
    subst hP hw hK
    obtain ⟨hz, hTI, ⟨x0, y0, hTO⟩, h1, h2⟩ := st
    obtain ⟨xs, ys, x, y, hqx, hqy, hx, hy⟩ := hg
    obtain ⟨its, rv, p, _⟩ := I.list hqx
    obtain ⟨its2, rv2, p2, _⟩ := I.list hqy
    obtain ⟨u, hu, ru⟩ := rv.get hx
    obtain ⟨u2, hu2, ru2⟩ := rv2.get hy
    have hzl : z < s.heap.objs.size := Heap.lt_size hz
    refine wpAny_pyNext_zip_item D hz hTI hTO h1 h2 p.isList p2.isList (x := u) (y := u2) (by simpa using hu) (by simpa using hu2) fun h' z' TO' h1' h2' hT hsz hk => ?_
    refine ⟨_, rfl, wpAny_letOwnedTupleGo_zip (s := { s with heap := h' }) z' fun h'' z'' sb => ?_⟩
    have hT2 : h''.get? s.heap.objs.size = some { cls := .type "tuple", data := .seq #[u, u2] } := (sb.2 _ (Nat.ne_of_gt hzl)).trans hT
    have new : ObjOk X.prog X.w (upd H s.heap.objs.size (.tup [x, y])) h'' s.heap.objs.size (.tup [x, y]) :=
      ⟨by show 2 ≤ sizeLine; decide, [u, u2], .cons ru (.cons ru2 .nil), ⟨_, hT2, rfl, _, rfl⟩⟩
    have I1 : Inv X pins σ (upd H s.heap.objs.size (.tup [x, y])) { s with heap := h'' } :=
      I.turnedNew (t' := s.toks) (ch := [z, TI, TO, i1, i2]) (fun c o hb q => (sb.2 c (fun q' => hb (by simp [q']))).trans (hk c o (fun q' => hb (by simp [q'])) (fun q' => hb (by simp [q'])) (fun q' => hb (by simp [q'])) (fun q' => hb (by simp [q'])) q)) hf (Nat.le_refl _) new
    refine ⟨.ref s.heap.objs.size, _, I1, rfl, ⟨_, x, y, rfl, I.hok.fresh (Nat.le_refl _), rfl, fun l hl => by rw [I.list_inj hl hqx]; exact hx, fun l hl => by rw [I.list_inj hl hqy]; exact hy⟩, ⟨z'', ?_, ⟨u, u2, ?_⟩, ?_, ?_⟩, fun c hcm => ?_⟩
    · exact (sb.2 _ D.TIz).trans (hk _ _ D.TIz D.TITO D.TIi1 D.TIi2 hTI)
    · exact (sb.2 _ D.TOz).trans TO'
    · exact h1'.at fun o q => (sb.2 _ D.i1z).trans q
    · exact h2'.at fun o q => (sb.2 _ D.i2z).trans q
    · have hlt : c < s.heap.objs.size := by
        have e' : c = z ∨ c = TI ∨ c = TO ∨ c = i1 ∨ c = i2 := by simpa using hcm
        rcases e' with q | q | q | q | q
        · rw [q]; exact hzl
        · rw [q]; exact Heap.lt_size hTI
        · rw [q]; exact Heap.lt_size hTO
        · rw [q]; obtain ⟨_, e1, _⟩ := h1; exact Heap.lt_size e1
        · rw [q]; obtain ⟨_, e2, _⟩ := h2; exact Heap.lt_size e2
      rw [upd_ne (Nat.ne_of_lt hlt)]
      exact (hf c hcm).1
  done := by
    intro X hP hw hK hc i pins s σ H E I hf st hg
    subst hP hw hK
    obtain ⟨hz, hTI, ⟨x0, y0, hTO⟩, h1, h2⟩ := st
    obtain ⟨xs, ys, hqx, hqy, hend⟩ := hg
    obtain ⟨its, rv, p, _⟩ := I.list hqx
    obtain ⟨its2, rv2, p2, _⟩ := I.list hqy
    have l1 := rv.length
    have l2 := rv2.length
    have he : its.toArray[i]? = none ∨ its2.toArray[i]? = none := by
      rcases hend with q | q
      · exact .inl (by simp; omega)
      · exact .inr (by simp; omega)
    exact wpAny_pyNext_zip_end (I.ok.hd hc) D hz hTI hTO h1 h2 p.isList p2.isList he fun h' hk => ⟨rfl, I.turnedL (t' := s.toks) (ch := [z, TI, TO, i1, i2]) (fun c o hb q =>
      hk c o (fun q' => hb (by simp [q'])) (fun q' => hb (by simp [q'])) (fun q' => hb (by simp [q'])) (fun q' => hb (by simp [q'])) q) hf⟩
  self := fun A i s Q E st h => wpAny_pyIter_zip st.1 h
def iZip (K : PySem.W.Frag) (ta : TA) : TI := fun σ H R => ta σ H fun vs H1 => ∃ a b xs ys, vs = [.ref a, .ref b] ∧ SqL K H1 a xs ∧ SqL K H1 b ys ∧ R (Itz K a b) H1
theorem pi_zip {X : Cx} {e e2 : Expr} {ta : TA} {p pos tpos : Pos} {elts : List Expr} {kk : Nat} (hg : Gl X "zip") (hm : X.mg "zip" = none) (ha : PA X [e, e2] ta)
    (hs : starEach [e, e2] X.env = (false, eval e X.env) :: starEach [e2] X.env := by rfl) (hpl : (backTo pos (starEach [e2] X.env)).any (·.1) = false := by rfl) :
    PI X (.Tuple elts kk tpos) (.Call (.Name "zip" p) [e, e2] [] pos) (iZip X.K ta) := by
  intro pins s σ H R I h
  refine Call_ (ld_blt I hg hm boot_zip5 (PyProof.Rows.callWith_type1 (thn (ha pos pins s σ H _ I h) fun us s1 ⟨vs, H1, I1, r1, q1⟩ => ?_) hs hpl))
  obtain ⟨a, b, xs, ys, ex, hqx, hqy, q⟩ := q1
  subst ex
  cases r1 with
  | cons r rr =>
    cases rr with
    | cons r' rr =>
      cases rr
      cases r
      cases r'
      obtain ⟨its, rv, p1, _⟩ := I1.list hqx
      obtain ⟨its2, rv2, p2, _⟩ := I1.list hqy
      have la : a < s1.heap.objs.size := p1.lt
      have lb : b < s1.heap.objs.size := p2.lt
      refine call_zip_2 p1.isList p2.isList fun h' hz hTI hTO h1 h2 hsz hk => wpAny_pyIter_zip hz ?_
      have I2 : Inv X pins σ H1 { s1 with heap := h' } := I1.kept (t' := s1.toks) hk
      refine ⟨s1.heap.objs.size + 4, [s1.heap.objs.size + 4, s1.heap.objs.size + 2, s1.heap.objs.size + 3, s1.heap.objs.size, s1.heap.objs.size + 1], _, _, H1, rfl, I2, turn_zip (PySem.W.ktu_apart s1.heap.objs.size a b la lb), ⟨hz, hTI, ⟨_, _, hTO⟩, h1, h2⟩, fun c hcm => ?_, q⟩
      have e' : c = s1.heap.objs.size + 4 ∨ c = s1.heap.objs.size + 2 ∨ c = s1.heap.objs.size + 3 ∨ c = s1.heap.objs.size ∨ c = s1.heap.objs.size + 1 := by simpa using hcm
      have hle : s1.heap.objs.size ≤ c := by
        rcases e' with z | z | z | z | z
        · rw [z]; exact Nat.le_add_right _ _
        · rw [z]; exact Nat.le_add_right _ _
        · rw [z]; exact Nat.le_add_right _ _
        · rw [z]; exact Nat.le_refl _
        · rw [z]; exact Nat.le_add_right _ _
      exact I1.fpOk hle (I1.hok.fresh hle)
end L2
section 
namespace Bits
open PySem PyProof.Rows
end Bits
end 
section 
namespace TL
open PySem PySem.Builtin PySem.Builtin.Str PySem.StrLaws
end TL
end 
namespace L2
open PySem PySem.Spec PyProof.Rows
section
variable {X : Cx} {pins : List (Addr × Obj)} {σ : St} {H : Hp} {s : Shared} {Q : VK}
end
section
variable {X : Cx}
end
section
variable {X : Cx} {o e : Expr} {to te : TE}
end
end L2
namespace L2
open PySem PySem.Spec PyProof.Rows
section
variable {X : Cx}
end
end L2
namespace Att
open PySem PySem.W PySem.Calls PyProof.Rows
section
variable {prog : Program} {w : World} {A : Around} {E : Value → Shared → Prop} {s : Shared} {K : Frag}
end
end Att
namespace L2
open PySem PySem.Spec PyProof.Rows
end L2
namespace L2
open PySem PySem.Spec PyProof.Rows
end L2
namespace L2
open PySem PySem.Spec PyProof.Rows
def inClass (s : Stmt) (j : Nat) : Stmt := match s with
  | .ClassDef _ _ _ body _ _ _ _ _ _ _ => body.getD j (.Pass ⟨0, 0, 0, 0⟩)
  | _ => .Pass ⟨0, 0, 0, 0⟩
def defArgs (s : Stmt) : Arguments := match s with
  | .FunctionDef _ a _ _ _ _ _ _ _ _ => a
  | _ => { posonlyargs := [], args := [], vararg := none, kwonlyargs := [], kw_defaults := [], kwarg := none, defaults := [] }
def defBody (s : Stmt) : List Stmt := match s with
  | .FunctionDef _ _ b _ _ _ _ _ _ _ => b
  | _ => []
def defScope (s : Stmt) : Scope := match s with
  | .FunctionDef _ _ _ _ _ _ sc _ _ _ => sc
  | _ => { kind := .function, names := [], isGenerator := false, isCoroutine := false }
abbrev CX0 : CXT := fun _ _ _ _ _ _ => False
abbrev E0 : XK := fun _ _ _ => False
theorem pass0 {X : Cx} : Passes CX0 X E0 := fun _ _ _ _ _ _ _ h => h.elim
structure Fun (K : PySem.W.Frag) (x qual : Str) (st : Stmt) (f : Addr) (fd : FuncData) : Prop where
  ex : ∃ (oc : Value) (od : Option Addr) (kV doc pm : Value) (an : Option Addr) (cdv ct : Value) (osl : Array (Option Value)),
    fd = PySem.W.fnOf x qual (defArgs st) (defBody st) (defScope st) .none kV doc pm an cdv ct ∧ K.lookup f = some ⟨oc, od, .func fd, osl⟩ ∧ PySem.W.codeIn K cdv qual = true
  kp : PySem.W.keepIn K (.ref f) = true
section
variable {P : Program} {w : World} {K : PySem.W.Frag} {mg : Str → Option Value} {base : Heap}
theorem Fun.ok {x qual : Str} {st : Stmt} {f : Addr} {fd : FuncData} {N ps : List Str} {k : Nat} {sp : Sp} (F : Fun K x qual st f fd) (S : FnScope N ps (defScope st)) (len : ∀ vs H Q E, sp vs H Q E → vs.length = ps.length)
    (hbody : ∀ (cdv : Value) (A : Around) (outer : List Env) (s : Shared) (H : Hp) (vs : List V) (Q : VK) (E : XK), Room k (A.deeper (envOfC qual (defScope st) s.heap.objs.size f cdv)) → sp vs H Q E →
      ∃ t, PSs (cxOf CX0 P w K mg base N qual (defScope st) f cdv A outer s H E).nox (defBody st) t ∧ t { nx := fun _ H' => Q .non H', rt := Q } (start N vs) H) : FnOk P w K mg base CX0 (k + 1) f fd ps sp := by
  obtain ⟨oc, od, kV, doc, pm, an, cdv, ct, osl, rfl, lk, hcd⟩ := F.ex
  refine fn_of lk hcd S len fun A outer s H vs Q E hr hsp => ?_
  obtain ⟨t, h, q⟩ := hbody cdv A outer s H vs Q E hr hsp
  exact ⟨t, h.nox, q⟩
theorem Fun.binds {x qual : Str} {st : Stmt} {f : Addr} {fd : FuncData} {ps : List Str} (F : Fun K x qual st f fd)
    (h : ∀ (kV doc pm : Value) (an : Option Addr) (cdv ct : Value) (us : List Value), us.length = ps.length → bindArgs (PySem.W.fnOf x qual (defArgs st) (defBody st) (defScope st) .none kV doc pm an cdv ct) ⟨us, []⟩ = pure (ps.zip us)) : Binds K fd ps [] := by
  obtain ⟨oc, od, kV, doc, pm, an, cdv, ct, osl, rfl, lk, hcd⟩ := F.ex
  exact .all (h kV doc pm an cdv ct)
theorem fun_mk {x qual : Str} {st : Stmt} {f : Addr} {oc : Value} {od an : Option Addr} {osl : Array (Option Value)} {kV doc pm cdv ct : Value} (l : K.lookup f = some ⟨oc, od, .func (PySem.W.fnOf x qual (defArgs st) (defBody st) (defScope st) .none kV doc pm an cdv ct), osl⟩)
    (c : PySem.W.codeIn K cdv qual = true) (k : PySem.W.keepIn K (.ref f) = true) : Fun K x qual st f (PySem.W.fnOf x qual (defArgs st) (defBody st) (defScope st) .none kV doc pm an cdv ct) := ⟨⟨oc, od, kV, doc, pm, an, cdv, ct, osl, rfl, l, c⟩, k⟩
end
theorem small1000 {n : Nat} (h : n ≤ 1000) : n < sizeLine := Nat.lt_of_le_of_lt h (by decide)
section
variable {X : Cx}
theorem pv (i : Nat) {x : Str} {pos : Pos} (hN : X.N[i]? = some x := by rfl) (hv : Vis X.env.scope x := by first | exact Or.inl rfl | exact Or.inr (Or.inl rfl) | exact Or.inr (Or.inr rfl)) (hd : (x == ("__debug__" : Str)) = false := by decide)
    (hcd : (x == ("__classdict__" : Str)) = false := by decide) : PE X (.Name x pos) (tVar i) := pe_var hN hv hd hcd
end
theorem ite2 {c A B : Prop} [Decidable c] (h1 : c → A) (h2 : ¬ c → B) : if c then A else B := by
  by_cases h : c
  · rw [if_pos h]
    exact h1 h
  · rw [if_neg h]
    exact h2 h
def Same (H H' : Hp) : Prop := ∀ b o, H b = some o → H' b = some o
theorem Same.refl (H : Hp) : Same H H := fun _ _ h => h
theorem Same.trans {H H1 H2 : Hp} (a : Same H H1) (b : Same H1 H2) : Same H H2 := fun c o h => b c o (a c o h)
theorem Same.free {H H' : Hp} (e : Same H H') {l : Addr} (h : H' l = Option.none) : H l = Option.none := by
  cases q : H l with
  | none => rfl
  | some o =>
    rw [e l o q] at h
    cases h
theorem Same.seq {K : PySem.W.Frag} {H H' : Hp} {a : Addr} {xs : List V} (e : Same H H') (h : SqL K H a xs) : SqL K H' a xs := by
  rcases h with (h | ⟨o, h⟩) | h
  · exact .inl (.inl (e _ _ h))
  · exact .inl (.inr ⟨o, e _ _ h⟩)
  · exact .inr h
section
variable {κ : Type} [DecidableEq κ]
end
theorem at_of {xs : List V} {z : Int} {j : Nat} {v : V} (e : z = (j : Int)) (h : xs[j]? = some v) : atI xs z = some v := by
  rw [e]
  exact atI_nat h
theorem Same.made {H H1 : Hp} {x dx C : Addr} (nx : H x = Option.none) (nd : H dx = Option.none) (k : ∀ b o, (upd (upd H dx (.own x)) x (.ins C dx [])) b = some o → b ≠ x → H1 b = some o) : Same H H1 := fun b o e =>
  k b o (by rw [upd_ne (ne_of_none e nx), upd_ne (ne_of_none e nd)]; exact e) (ne_of_none e nx)
end L2
section
set_option Elab.async false
set_option linter.all false
set_option maxRecDepth 100000
set_option maxHeartbeats 2000000
namespace L2
open PySem PySem.Spec PyProof.Rows
open PySem.W (WData Codec OpenSpec Well WellAll ReadsW ReadsAllW)
mutual
inductive Dw (K : PySem.W.Frag) (H : Hp) : V → WData → Prop
  | non : Dw K H .non .none
  | bl (b : Bool) : Dw K H (.bl b) (.bool b)
  | int (i : Int) : Dw K H (.int i) (.int i)
  | str (x : Str) : Dw K H (.str x) (.str x)
  | byt (b : Array UInt8) : Dw K H (.byt b) (.bytes b.toList)
  | lst {a : Addr} {xs : List V} {ds : List WData} : SqL K H a xs → DwAll K H xs ds → Dw K H (.ref a) (.list ds)
  | tup {a : Addr} {xs : List V} {ds : List WData} : SqT K H a xs → DwAll K H xs ds → Dw K H (.ref a) (.tuple ds)
inductive DwAll (K : PySem.W.Frag) (H : Hp) : List V → List WData → Prop
  | nil : DwAll K H [] []
  | cons {v : V} {vs : List V} {d : WData} {ds : List WData} : Dw K H v d → DwAll K H vs ds → DwAll K H (v :: vs) (d :: ds)
end
theorem dw_ints {K : PySem.W.Frag} {H : Hp} : ∀ ns : List Int, DwAll K H (ns.map V.int) (ns.map WData.int)
  | [] => .nil
  | n :: r => .cons (.int n) (dw_ints r)
theorem ints_dw {K : PySem.W.Frag} {H : Hp} : ∀ (ns : List Int) (xs : List V), DwAll K H xs (ns.map WData.int) → xs = ns.map V.int
  | [], xs, h => by
    cases h
    rfl
  | n :: r, xs, h => by
    cases h with
    | cons h1 h2 =>
      cases h1
      rw [ints_dw r _ h2] <;> rfl
section
variable {P : Program} {w : World} {K : PySem.W.Frag} {H : Hp} {h : Heap} {R : PySem.W.WRecords} {cl : Str → Option Addr}
theorem sqL_at {a : Addr} {xs : List V} (hok : HOk P w H h) (KX : K.In h) (q : SqL K H a xs) : ∃ (its : List Value) (o : Obj) (n : Nat), Vals xs its ∧ h.get? a = some o ∧ o.cls = .type "list" ∧ o.data = .seq its.toArray n := by
  rcases q with q | ⟨o, its, n, e, hc, _, hd, _, hv⟩
  · obtain ⟨_, its, n, hv, e⟩ := (show ObjOk P w H h a (.lst xs) from q.ok hok)
    exact ⟨its, _, n, hv, e, rfl, rfl⟩
  · exact ⟨its.toList, o, n, hv, KX _ _ e, hc, by simp [hd]⟩
theorem sqT_at {a : Addr} {xs : List V} (hok : HOk P w H h) (KX : K.In h) (q : SqT K H a xs) : ∃ (its : List Value) (o : Obj) (n : Nat), Vals xs its ∧ h.get? a = some o ∧ o.cls = .type "tuple" ∧ o.data = .seq its.toArray n := by
  rcases q with q | ⟨o, its, n, e, hc, hd, _, hv⟩
  · obtain ⟨_, its, hv, o, e, hc, n, hd⟩ := (show ObjOk P w H h a (.tup xs) from q.ok hok)
    exact ⟨its, o, n, hv, e, hc, hd⟩
  · exact ⟨its.toList, o, n, hv, KX _ _ e, hc, by simp [hd]⟩
mutual
theorem Dw.reads (hok : HOk P w H h) (KX : K.In h) : ∀ (d : WData) (v : V) (u : Value), Dw K H v d → RelV v u → ∃ as, ReadsW R cl h u d as
  | .none, _, _, x, r => by
    cases x
    cases r
    exact ⟨_, ReadsW.none⟩
  | .bool b, _, _, x, r => by
    cases x
    cases r
    exact ⟨_, ReadsW.bool b⟩
  | .int i, _, _, x, r => by
    cases x
    obtain ⟨t, rfl⟩ := r
    exact ⟨_, ReadsW.int i t⟩
  | .str s, _, _, x, r => by
    cases x
    obtain ⟨t, rfl⟩ := r
    exact ⟨_, ReadsW.str s t⟩
  | .bytes b, _, _, x, r => by
    cases x
    obtain ⟨t, rfl⟩ := r
    exact ⟨_, ReadsW.bytes _ t⟩
  | .list ds, _, _, x, r => by
    cases x with
    | lst hs ha =>
      cases r
      obtain ⟨its, o, n, rv, ho, hc, hd⟩ := sqL_at hok KX hs
      obtain ⟨as, hr⟩ := Dw.readsAll hok KX ds _ its ha rv
      exact ⟨_, ReadsW.list ho hc hd hr⟩
  | .tuple ds, _, _, x, r => by
    cases x with
    | tup hs ha =>
      cases r
      obtain ⟨its, o, n, rv, ho, hc, hd⟩ := sqT_at hok KX hs
      obtain ⟨as, hr⟩ := Dw.readsAll hok KX ds _ its ha rv
      exact ⟨_, ReadsW.tuple ho hc hd hr⟩
  | .float _, _, _, x, _ => by cases x
  | .dict _, _, _, x, _ => by cases x
  | .bytearray _, _, _, x, _ => by cases x
  | .set _, _, _, x, _ => by cases x
  | .frozenset _, _, _, x, _ => by cases x
  | .obj _ _, _, _, x, _ => by cases x
theorem Dw.readsAll (hok : HOk P w H h) (KX : K.In h) : ∀ (ds : List WData) (vs : List V) (us : List Value), DwAll K H vs ds → Vals vs us → ∃ as, ReadsAllW R cl h us ds as
  | [], _, _, x, r => by
    cases x
    cases r
    exact ⟨_, ReadsAllW.nil⟩
  | d :: ds, _, _, x, r => by
    cases x with
    | cons h1 h2 =>
      cases r with
      | cons r1 r2 =>
        obtain ⟨as, q1⟩ := Dw.reads hok KX d _ _ h1 r1
        obtain ⟨bs, q2⟩ := Dw.readsAll hok KX ds _ _ h2 r2
        exact ⟨_, ReadsAllW.cons q1 q2⟩
end
end
mutual
def plW : WData → Bool
  | .none => true
  | .bool _ => true
  | .int _ => true
  | .str _ => true
  | .bytes _ => true
  | .list xs => plWs xs
  | .tuple xs => plWs xs
  | _ => false
def plWs : List WData → Bool
  | [] => true
  | x :: r => plW x && plWs r
end
theorem plWs_map {α : Type} {f : α → WData} (h : ∀ a, plW (f a) = true) : ∀ l : List α, plWs (l.map f) = true
  | [] => rfl
  | x :: r => by
    show (plW (f x) && plWs (r.map f)) = true
    rw [h x, plWs_map h r] <;> rfl
theorem pl_enc : ∀ (c : Codec) (a : c.denote), plW (c.enc a) = true
  | .unit, _ => rfl
  | .bool, _ => rfl
  | .int _ _, _ => rfl
  | .nat _ _, _ => rfl
  | .u8, _ => rfl
  | .bytes _ _, _ => rfl
  | .text _ _ _ _, _ => rfl
  | .list _ _ c, a => plWs_map (fun x => pl_enc c x) a
  | .pair c d, a => by
    show (plW (c.enc a.1) && (plW (d.enc a.2) && true)) = true
    rw [pl_enc c a.1, pl_enc d a.2] <;> rfl
  | .triple c d e, a => by
    show (plW (c.enc a.1) && (plW (d.enc a.2.1) && (plW (e.enc a.2.2) && true))) = true
    rw [pl_enc c a.1, pl_enc d a.2.1, pl_enc e a.2.2] <;> rfl
  | .option c, none => rfl
  | .option c, some x => pl_enc c x
theorem pl_encAll : ∀ (cs : List Codec) (a : Codec.denoteAll cs), plWs (Codec.encAll cs a) = true
  | [], _ => rfl
  | c :: cs, a => by
    show (plW (c.enc a.1) && plWs (Codec.encAll cs a.2)) = true
    rw [pl_enc c a.1, pl_encAll cs a.2] <;> rfl
theorem weight_mem : ∀ {xs : List WData} {d : WData}, d ∈ xs → d.weight ≤ WData.weightAll xs
  | [], d, h => absurd h (by simp)
  | x :: r, d, h => by
    show d.weight ≤ x.weight + 1 + WData.weightAll r
    rcases List.mem_cons.mp h with e | m
    · rw [e]
      omega
    · have z := weight_mem m
      omega
def toV : Value → V
  | .none => .non
  | .bool b => .bl b
  | .int i _ => .int i
  | .str x _ => .str x
  | .bytes b _ => .byt b
  | .ref a => .ref a
  | _ => .non
def OkU (A : List Addr) : Value → Prop
  | .none => True
  | .bool _ => True
  | .int _ _ => True
  | .str _ _ => True
  | .bytes _ _ => True
  | .ref a => a ∈ A
  | _ => False
theorem OkU.mono {A B : List Addr} (h : ∀ a ∈ A, a ∈ B) : ∀ {u : Value}, OkU A u → OkU B u := fun {u} x => by
  cases u with
  | ref a => exact h a x
  | none => trivial
  | bool b => trivial
  | int i t => trivial
  | str s t => trivial
  | bytes b t => trivial
  | _ => exact False.elim x
theorem relV_toV {A : List Addr} {u : Value} (x : OkU A u) : RelV (toV u) u := by
  cases u with
  | ref a => rfl
  | none => rfl
  | bool b => rfl
  | int i t => exact ⟨t, rfl⟩
  | str s t => exact ⟨t, rfl⟩
  | bytes b t => exact ⟨t, rfl⟩
  | _ => exact False.elim x
theorem vals_toV {A : List Addr} : ∀ {vs : List Value}, (∀ u ∈ vs, OkU A u) → Vals (vs.map toV) vs
  | [], _ => .nil
  | u :: r, h => .cons (relV_toV (h u (List.mem_cons_self ..))) (vals_toV fun x hx => h x (List.mem_cons_of_mem _ hx))
def ArgOb (h : Heap) (A : List Addr) (a : Addr) : Prop := ∃ vs : List Value, vs.length ≤ sizeLine ∧ (∀ u ∈ vs, OkU A u) ∧
  (h.get? a = some { cls := .type "list", data := .seq vs.toArray } ∨ h.get? a = some { cls := .type "tuple", data := .seq vs.toArray })
theorem ArgOb.mono {h : Heap} {A B : List Addr} {a : Addr} (k : ∀ a ∈ A, a ∈ B) (x : ArgOb h A a) : ArgOb h B a := by
  obtain ⟨vs, h1, h2, h3⟩ := x
  exact ⟨vs, h1, fun u hu => (h2 u hu).mono k, h3⟩
theorem wellAll_len {P : Params} {h : Heap} : ∀ {vs : List Value} {ds : List WData}, WellAll P h vs ds → vs.length = ds.length
  | _, _, .nil => rfl
  | _, _, .cons _ b => by
    show _ + 1 = _ + 1
    rw [wellAll_len b]
theorem well_list {P : Params} {h : Heap} {v : Value} {ds : List WData} (x : Well P h v (.list ds)) : ∃ (a : Addr) (vs : List Value), v = .ref a ∧ h.get? a = some { cls := .type "list", data := .seq vs.toArray } ∧ WellAll P h vs ds := by
  cases x with
  | list ho hall => exact ⟨_, _, rfl, ho, hall⟩
theorem well_tuple {P : Params} {h : Heap} {v : Value} {ds : List WData} (x : Well P h v (.tuple ds)) : ∃ (a : Addr) (vs : List Value), v = .ref a ∧ h.get? a = some { cls := .type "tuple", data := .seq vs.toArray } ∧ WellAll P h vs ds := by
  cases x with
  | tuple ho hall => exact ⟨_, _, rfl, ho, hall⟩
theorem well_cons {P : Params} {h : Heap} {us : List Value} {d : WData} {ds : List WData} (x : WellAll P h us (d :: ds)) : ∃ (v : Value) (vs : List Value), us = v :: vs ∧ Well P h v d ∧ WellAll P h vs ds := by
  cases x with
  | cons a b => exact ⟨_, _, rfl, a, b⟩
theorem line_of {n : Nat} (h : n ≤ 1048576) : n ≤ sizeLine := Nat.le_trans h (by decide)
section
variable {P : Params} {h : Heap}
mutual
theorem area_one : ∀ (d : WData) (v : Value), Well P h v d → plW d = true → d.weight ≤ 1048576 → ∃ A : List Addr, OkU A v ∧ ∀ a ∈ A, ArgOb h A a
  | .none, _, x, _, _ => by
    cases x
    exact ⟨[], trivial, fun a m => absurd m (by simp)⟩
  | .bool b, _, x, _, _ => by
    cases x
    exact ⟨[], trivial, fun a m => absurd m (by simp)⟩
  | .int i, _, x, _, _ => by
    cases x
    exact ⟨[], trivial, fun a m => absurd m (by simp)⟩
  | .str s, _, x, _, _ => by
    cases x
    exact ⟨[], trivial, fun a m => absurd m (by simp)⟩
  | .bytes b, _, x, _, _ => by
    cases x
    exact ⟨[], trivial, fun a m => absurd m (by simp)⟩
  | .list ds, _, x, p, z => by
    obtain ⟨a, vs, rfl, ho, hall⟩ := well_list x
    have z2 : WData.weightAll ds ≤ 1048576 := z
    obtain ⟨A, h1, h2⟩ := area_all ds _ hall p fun d hd => Nat.le_trans (weight_mem hd) z2
    have k : ∀ b ∈ A, b ∈ a :: A := fun b hb => List.mem_cons_of_mem _ hb
    refine ⟨a :: A, List.mem_cons_self .., fun b hb => ?_⟩
    rcases List.mem_cons.mp hb with e | m
    · rw [e]
      exact ⟨vs, line_of (by rw [wellAll_len hall]; exact Nat.le_trans (PySem.W.length_le_weightAllW ds) z2), fun u hu => (h1 u hu).mono k, .inl ho⟩
    · exact (h2 b m).mono k
  | .tuple ds, _, x, p, z => by
    obtain ⟨a, vs, rfl, ho, hall⟩ := well_tuple x
    have z2 : WData.weightAll ds ≤ 1048576 := z
    obtain ⟨A, h1, h2⟩ := area_all ds _ hall p fun d hd => Nat.le_trans (weight_mem hd) z2
    have k : ∀ b ∈ A, b ∈ a :: A := fun b hb => List.mem_cons_of_mem _ hb
    refine ⟨a :: A, List.mem_cons_self .., fun b hb => ?_⟩
    rcases List.mem_cons.mp hb with e | m
    · rw [e]
      exact ⟨vs, line_of (by rw [wellAll_len hall]; exact Nat.le_trans (PySem.W.length_le_weightAllW ds) z2), fun u hu => (h1 u hu).mono k, .inr ho⟩
    · exact (h2 b m).mono k
  | .float _, _, _, p, _ => Bool.noConfusion (show false = true from p)
  | .dict _, _, _, p, _ => Bool.noConfusion (show false = true from p)
  | .bytearray _, _, _, p, _ => Bool.noConfusion (show false = true from p)
  | .set _, _, _, p, _ => Bool.noConfusion (show false = true from p)
  | .frozenset _, _, _, p, _ => Bool.noConfusion (show false = true from p)
  | .obj _ _, _, _, p, _ => Bool.noConfusion (show false = true from p)
theorem area_all : ∀ (ds : List WData) (vs : List Value), WellAll P h vs ds → plWs ds = true → (∀ d ∈ ds, d.weight ≤ 1048576) → ∃ A : List Addr, (∀ u ∈ vs, OkU A u) ∧ ∀ a ∈ A, ArgOb h A a
  | [], _, x, _, _ => by
    cases x
    exact ⟨[], fun u m => absurd m (by simp), fun a m => absurd m (by simp)⟩
  | d :: ds, _, x, p, z => by
    obtain ⟨v, vs, rfl, x1, x2⟩ := well_cons x
    have q : plW d = true ∧ plWs ds = true := Bool.and_eq_true_iff.mp p
    obtain ⟨A, a1, a2⟩ := area_one d v x1 q.1 (z d (List.mem_cons_self ..))
    obtain ⟨B, b1, b2⟩ := area_all ds vs x2 q.2 fun e he => z e (List.mem_cons_of_mem _ he)
    have kA : ∀ b ∈ A, b ∈ A ++ B := fun b hb => List.mem_append.mpr (.inl hb)
    have kB : ∀ b ∈ B, b ∈ A ++ B := fun b hb => List.mem_append.mpr (.inr hb)
    refine ⟨A ++ B, fun u hu => ?_, fun b hb => ?_⟩
    · rcases List.mem_cons.mp hu with e | m
      · rw [e]
        exact a1.mono kA
      · exact (b1 u m).mono kB
    · rcases List.mem_append.mp hb with m | m
      · exact (a2 b m).mono kA
      · exact (b2 b m).mono kB
end
end
def hoOf (o : Obj) : Option HO := match o.data with
  | .seq vs _ => if (o.cls == Value.type "list") = true then some (.frz o (.lst (vs.toList.map toV))) else some (.frz o (.tup (vs.toList.map toV)))
  | _ => none
def argH (K : PySem.W.Frag) (h : Heap) (A : List Addr) : Hp := fun b => if b ∈ A then (if (K.lookup b).isNone = true then (h.get? b).bind hoOf else none) else none
def OnlyF (H : Hp) : Prop := ∀ b, H b = none ∨ ∃ o u, H b = some (.frz o u)
theorem hoOf_lst (vs : List Value) : hoOf { cls := .type "list", data := .seq vs.toArray } = some (.frz { cls := .type "list", data := .seq vs.toArray } (.lst (vs.map toV))) := by
  show (if (Value.type "list" == Value.type "list") = true then some (HO.frz { cls := .type "list", data := .seq vs.toArray } (.lst (vs.toArray.toList.map toV))) else some (HO.frz { cls := .type "list", data := .seq vs.toArray } (.tup (vs.toArray.toList.map toV)))) = _
  rw [if_pos (beq_self_eq_true _)]
theorem hoOf_tup (vs : List Value) : hoOf { cls := .type "tuple", data := .seq vs.toArray } = some (.frz { cls := .type "tuple", data := .seq vs.toArray } (.tup (vs.map toV))) := by
  show (if (Value.type "tuple" == Value.type "list") = true then some (HO.frz { cls := .type "tuple", data := .seq vs.toArray } (.lst (vs.toArray.toList.map toV))) else some (HO.frz { cls := .type "tuple", data := .seq vs.toArray } (.tup (vs.toArray.toList.map toV)))) = _
  rw [if_neg (by decide)]
section
variable {P : Program} {w : World} {K : PySem.W.Frag} {h : Heap} {A : List Addr}
theorem argH_at {b : Addr} {o : Obj} (hb : b ∈ A) (hk : K.lookup b = none) (e : h.get? b = some o) : argH K h A b = hoOf o := by
  unfold argH
  rw [if_pos hb, hk, if_pos (show (none : Option Obj).isNone = true from rfl), e] <;> rfl
theorem of_argH {b : Addr} {u : HO} (q : argH K h A b = some u) : b ∈ A ∧ K.lookup b = none := by
  unfold argH at q
  by_cases hb : b ∈ A
  · rw [if_pos hb] at q
    cases hk : K.lookup b with
    | none => exact ⟨hb, rfl⟩
    | some o =>
      rw [hk, if_neg (by simp)] at q
      cases q
  · rw [if_neg hb] at q
    cases q
theorem argH_is (ar : ∀ a ∈ A, ArgOb h A a) {b : Addr} {u : HO} (q : argH K h A b = some u) : K.lookup b = none ∧ ∃ vs : List Value, vs.length ≤ sizeLine ∧ (∀ u ∈ vs, OkU A u) ∧
    ((h.get? b = some { cls := .type "list", data := .seq vs.toArray } ∧ u = .frz { cls := .type "list", data := .seq vs.toArray } (.lst (vs.map toV))) ∨
     (h.get? b = some { cls := .type "tuple", data := .seq vs.toArray } ∧ u = .frz { cls := .type "tuple", data := .seq vs.toArray } (.tup (vs.map toV)))) := by
  obtain ⟨hb, hk⟩ := of_argH q
  obtain ⟨vs, h1, h2, h3⟩ := ar b hb
  refine ⟨hk, vs, h1, h2, ?_⟩
  rcases h3 with e | e
  · rw [argH_at hb hk e, hoOf_lst] at q
    exact .inl ⟨e, (Option.some.inj q).symm⟩
  · rw [argH_at hb hk e, hoOf_tup] at q
    exact .inr ⟨e, (Option.some.inj q).symm⟩
theorem argH_only (ar : ∀ a ∈ A, ArgOb h A a) : OnlyF (argH K h A) := fun b => by
  cases q : argH K h A b with
  | none => exact .inl rfl
  | some u =>
    obtain ⟨_, vs, _, _, ⟨_, e⟩ | ⟨_, e⟩⟩ := argH_is ar q
    · exact .inr ⟨_, _, by rw [e]⟩
    · exact .inr ⟨_, _, by rw [e]⟩
theorem argH_ok (ar : ∀ a ∈ A, ArgOb h A a) : HOk P w (argH K h A) h := fun b u q => by
  obtain ⟨_, vs, h1, h2, ⟨e, rfl⟩ | ⟨e, rfl⟩⟩ := argH_is ar q
  · exact ⟨e, by rw [List.length_map]; exact h1, vs, _, vals_toV h2, e⟩
  · exact ⟨e, by rw [List.length_map]; exact h1, vs, vals_toV h2, _, e, rfl, _, rfl⟩
theorem seq_inj {c c' : Value} {vs us : List Value} (e : (some { cls := c, data := .seq vs.toArray } : Option Obj) = some { cls := c', data := .seq us.toArray }) : c = c' ∧ vs = us := by
  have e1 := Option.some.inj e
  have e2 : c = c' := congrArg Obj.cls e1
  have e3 : Data.seq vs.toArray = Data.seq us.toArray := congrArg Obj.data e1
  injection e3 with e4
  refine ⟨e2, ?_⟩
  have e5 := congrArg Array.toList e4
  simpa using e5
theorem argL (KX : K.In h) (ar : ∀ a ∈ A, ArgOb h A a) {a : Addr} {vs : List Value} (ha : a ∈ A) (e : h.get? a = some { cls := .type "list", data := .seq vs.toArray }) : (∀ u ∈ vs, OkU A u) ∧ SqL K (argH K h A) a (vs.map toV) := by
  obtain ⟨us, h1, h2, h3⟩ := ar a ha
  have hu : us = vs := by
    rcases h3 with q | q
    · rw [e] at q
      exact (seq_inj q).2.symm
    · rw [e] at q
      exact absurd (Value.type.inj (seq_inj q).1) (by decide)
  subst hu
  refine ⟨h2, ?_⟩
  cases hk : K.lookup a with
  | none => exact .inl (.inr ⟨_, by rw [argH_at ha hk e, hoOf_lst]⟩)
  | some o =>
    have e2 := KX a o hk
    rw [e] at e2
    obtain rfl := Option.some.inj e2
    exact .inr ⟨_, us.toArray, _, hk, rfl, rfl, rfl, by rw [List.size_toArray]; exact h1, by simpa using vals_toV h2⟩
theorem argT (KX : K.In h) (ar : ∀ a ∈ A, ArgOb h A a) {a : Addr} {vs : List Value} (ha : a ∈ A) (e : h.get? a = some { cls := .type "tuple", data := .seq vs.toArray }) : (∀ u ∈ vs, OkU A u) ∧ SqT K (argH K h A) a (vs.map toV) := by
  obtain ⟨us, h1, h2, h3⟩ := ar a ha
  have hu : us = vs := by
    rcases h3 with q | q
    · rw [e] at q
      exact absurd (Value.type.inj (seq_inj q).1) (by decide)
    · rw [e] at q
      exact (seq_inj q).2.symm
  subst hu
  refine ⟨h2, ?_⟩
  cases hk : K.lookup a with
  | none => exact .inl (.inr ⟨_, by rw [argH_at ha hk e, hoOf_tup]⟩)
  | some o =>
    have e2 := KX a o hk
    rw [e] at e2
    obtain rfl := Option.some.inj e2
    exact .inr ⟨_, us.toArray, _, hk, rfl, rfl, by rw [List.size_toArray]; exact h1, by simpa using vals_toV h2⟩
mutual
theorem dw_one {Pm : Params} (KX : K.In h) (ar : ∀ a ∈ A, ArgOb h A a) : ∀ (d : WData) (v : Value), Well Pm h v d → plW d = true → OkU A v → Dw K (argH K h A) (toV v) d
  | .none, _, x, _, _ => by
    cases x
    exact .non
  | .bool b, _, x, _, _ => by
    cases x
    exact .bl b
  | .int i, _, x, _, _ => by
    cases x
    exact .int i
  | .str s, _, x, _, _ => by
    cases x
    exact .str s
  | .bytes b, _, x, _, _ => by
    cases x
    have z := Dw.byt (K := K) (H := argH K h A) b.toArray
    exact z
  | .list ds, _, x, p, hu => by
    obtain ⟨a, vs, rfl, ho, hall⟩ := well_list x
    obtain ⟨h2, hs⟩ := argL KX ar hu ho
    exact .lst hs (dw_all KX ar ds _ hall p h2)
  | .tuple ds, _, x, p, hu => by
    obtain ⟨a, vs, rfl, ho, hall⟩ := well_tuple x
    obtain ⟨h2, hs⟩ := argT KX ar hu ho
    exact .tup hs (dw_all KX ar ds _ hall p h2)
  | .float _, _, _, p, _ => Bool.noConfusion (show false = true from p)
  | .dict _, _, _, p, _ => Bool.noConfusion (show false = true from p)
  | .bytearray _, _, _, p, _ => Bool.noConfusion (show false = true from p)
  | .set _, _, _, p, _ => Bool.noConfusion (show false = true from p)
  | .frozenset _, _, _, p, _ => Bool.noConfusion (show false = true from p)
  | .obj _ _, _, _, p, _ => Bool.noConfusion (show false = true from p)
theorem dw_all {Pm : Params} (KX : K.In h) (ar : ∀ a ∈ A, ArgOb h A a) : ∀ (ds : List WData) (vs : List Value), WellAll Pm h vs ds → plWs ds = true → (∀ u ∈ vs, OkU A u) → DwAll K (argH K h A) (vs.map toV) ds
  | [], _, x, _, _ => by
    cases x
    exact .nil
  | d :: ds, _, x, p, hu => by
    obtain ⟨v, vs, rfl, x1, x2⟩ := well_cons x
    have q : plW d = true ∧ plWs ds = true := Bool.and_eq_true_iff.mp p
    exact .cons (dw_one KX ar d v x1 q.1 (hu _ (List.mem_cons_self ..))) (dw_all KX ar ds vs x2 q.2 fun u m => hu u (List.mem_cons_of_mem _ m))
end
end
theorem spec_call {P : Program} {w : World} {K : PySem.W.Frag} {mg mb : Str → Option Value} {CX : CXT} {k : Nat} {fa : Addr} {fd : FuncData} {ps : List Str} {sp : Sp} {s₁ : Shared} {vals : List Value} {ds : List WData} {R : PySem.W.WRecords} {cl : Str → Option Addr} {d0 : WData}
    (KX : K.In s₁.heap) (hns : s₁.heap.Ns mainGlobals mg) (hb : s₁.heap.Ns builtinsNs mb) (hbb : ∀ x : Str, x ≠ "__name__" → mb x = bootBuiltins x) (hlim : s₁.heap.NoLimit) (hg : s₁.gens = #[])
    (hwl : WellAll w.params s₁.heap vals ds) (hpl : plWs ds = true) (hwt : ∀ d ∈ ds, d.weight ≤ 1048576) (hr : Room k callerA)
    (F : ∀ base : Heap, K.In base → base.Ns mainGlobals mg → FnOk P w K mg base CX k fa fd ps sp) (hbind : ∀ (s : Shared) (us : List Value), us.length = ps.length → BindsTo s fd ⟨us, []⟩ (ps.zip us)) (hlen : ds.length = ps.length)
    (hsp : ∀ (H : Hp) (xs : List V), OnlyF H → DwAll K H xs ds → sp xs H (fun v H' => Dw K H' v d0) fun _ _ _ => False)
    (hCX : ∀ H e s', CX [] H s₁ (fun _ _ _ => False) e s' → False) :
    codeAny (model P w) callerA (.call (.ref fa) ⟨vals, []⟩) (fun r s' => ∃ u as, r = .ok (.ret u) ∧ ReadsW R cl s'.heap u d0 as ∧ OldK s₁.heap s'.heap ∧ s'.os = s₁.os ∧ AllBare s'.gens) s₁ := by
  obtain ⟨A, ho, ar⟩ := area_all ds vals hwl hpl hwt
  have hO : OnlyF (argH K s₁.heap A) := argH_only ar
  have hok : HOk P w (argH K s₁.heap A) s₁.heap := argH_ok ar
  have hS := dw_all KX ar ds vals hwl hpl ho
  have hV := vals_toV ho
  have hK : ∀ b u, argH K s₁.heap A b = some u → K.lookup b = none := fun b u q => (argH_is ar q).1
  have noA : ∀ {b : Addr} {o : Obj} {es : Array DictEntry} {ep : Nat}, s₁.heap.get? b = some o → o.data = .dict es ep → argH K s₁.heap A b = none := fun {b o es ep} e d => by
    cases q : argH K s₁.heap A b with
    | none => rfl
    | some u =>
      obtain ⟨_, vs, _, _, ⟨e2, _⟩ | ⟨e2, _⟩⟩ := argH_is ar q
      · rw [e2] at e
        cases e
        have d' : Data.seq vs.toArray _ = Data.dict es ep := d
        cases d'
      · rw [e2] at e
        cases e
        have d' : Data.seq vs.toArray _ = Data.dict es ep := d
        cases d'
  generalize argH K s₁.heap A = H at hO hok hS hK noA
  have base_of : ∀ {b : Addr} {o : Obj}, s₁.heap.get? b = some o → H b = none → (hidT s₁.heap H).get? b = some o := fun e n => hidT_get e n
  have nsK : ∀ {b : Addr} {m : Str → Option Value}, s₁.heap.Ns b m → (hidT s₁.heap H).Ns b m := fun {b m} ⟨o, es, ep, e, d, r⟩ => ⟨o, es, ep, base_of e (noA e d), d, r⟩
  have nK : ∀ b o, K.lookup b = some o → H b = none := fun b o e => by
    cases q : H b with
    | none => rfl
    | some u =>
      rw [hK b u q] at e
      cases e
  have hKb : K.In (hidT s₁.heap H) := fun b o e => base_of (KX b o e) (nK b o e)
  have hM : Mod K mg (hidT s₁.heap H) := ⟨hKb, nsK hns, ⟨mb, nsK hb, hbb⟩, let ⟨mc, h1, h2⟩ := hlim; ⟨mc, nsK h1, h2⟩⟩
  have e0 : Env0 P w K mg (hidT s₁.heap H) callerA [] s₁ H := ⟨rfl, hM, fun b o e => of_hidT e, Nat.le_of_eq (hidT_size _ _), trivial, fun b hb => absurd (show b ∈ ([] : List Addr) from hb) (by simp), hok, .of_eq hg⟩
  have hl : vals.length = ps.length := by rw [wellAll_len hwl]; exact hlen
  refine codeAny_mono ((F _ hKb (nsK hns)).run callerA [] s₁ H ⟨vals, []⟩ vals (vals.map toV) _ _ hr e0 (hbind s₁ vals hl) hV (hsp H _ hO hS)) fun r s' x => ?_
  cases r with
  | error e => exact (hCX H e s' x).elim
  | ok fl =>
    cases fl with
    | next => exact False.elim x
    | brk => exact False.elim x
    | cont => exact False.elim x
    | ret u =>
      obtain ⟨v, H', os, bare, un, hok', r', q⟩ := x
      have kept : ∀ b o, s₁.heap.get? b = some o → s'.heap.get? b = some o := fun b o e => by
        cases q2 : H b with
        | none => exact un.keep b o e q2 (by intro z; exact absurd (show b ∈ ([] : List Addr) from z) (by simp)) (by simp)
        | some u2 =>
          rcases hO b with z | ⟨ob, u3, z⟩
          · rw [q2] at z
            cases z
          · have z2 := un.frzs b ob _ z
            obtain ⟨e1, _⟩ := hok b _ z
            obtain ⟨e2, _⟩ := hok' b _ z2
            rw [e] at e1
            cases e1
            exact e2
      have KX' : K.In s'.heap := fun b o e => kept b o (KX b o e)
      obtain ⟨as, hrd⟩ := Dw.reads (R := R) (cl := cl) hok' KX' d0 v u q r'
      exact ⟨u, as, rfl, hrd, OldK.of_keep kept, os, bare⟩
theorem layable_weight {ds : List WData} (h : WData.layableAll ds = true) : ∀ d ∈ ds, d.weight ≤ 1048576 := fun d hd =>
  (PySem.W.layableW_iff.mp (List.all_eq_true.mp h d hd)).2.2
theorem encAll_len : ∀ (cs : List Codec) (a : Codec.denoteAll cs), (Codec.encAll cs a).length = cs.length
  | [], _ => rfl
  | c :: cs, a => by
    show (Codec.encAll cs a.2).length + 1 = cs.length + 1
    rw [encAll_len cs a.2]
theorem walk_spec {r : OpenSpec} {k : Nat} {q : Program} {loose : List Str} {XP : (Str → Option Value) → Heap → Prop} {YP : World → Heap → Prop} {d : DefRec} {K : Params → PySem.W.Frag} {CX : World → CXT} {ps : List Str} {sp : World → Sp}
    (hwell : r.wellSaid = true) (hdf : d.params.defaults = []) (hlen : r.args.length = ps.length) (hr : Room k callerA)
    (hY : ∀ (w : World) (h : Heap), YP w h → (K w.params).In h)
    (F : ∀ (w : World) (mg : Str → Option Value) (fa : Addr) (h : Heap), YP w h → (K w.params).In h → h.Ns mainGlobals mg → mg d.name = some (.ref fa) →
      ∃ fd : FuncData, (∀ (s : Shared) (us : List Value), us.length = ps.length → BindsTo s fd ⟨us, []⟩ (ps.zip us)) ∧
        ∀ base : Heap, (K w.params).In base → base.Ns mainGlobals mg → FnOk r.prog w (K w.params) mg base (CX w) k fa fd ps (sp w))
    (hsp : ∀ (w : World) (H : Hp) (xs : List V) (a : Codec.denoteAll r.args), OnlyF H → Codec.withinAll r.args a = true → Codec.app r.args r.asked a = true → DwAll (K w.params) H xs (Codec.encAll r.args a) →
      sp w xs H (fun v H' => Dw (K w.params) H' v (r.ret.enc (Codec.app r.args r.f a))) fun _ _ _ => False)
    (hCX : ∀ (w : World) (H : Hp) (s : Shared) (e : Value) (s' : Shared), CX w [] H s (fun _ _ _ => False) e s' → False) :
    PySem.W.WalkOS q loose XP YP r d [] (fun f vs => PySem.call f vs) := by
  intro w s_0 s₁ mg mb G Y fa o pm cd doc dV kV ho hd hcd hD hmg hg args vals as hpre hlay hrd hwl hlo
  obtain ⟨a, e1, e2⟩ := PySem.W.os_pre_some hpre
  obtain ⟨e3, hwi⟩ := Codec.encAll_of_decAll r.args args a e1
  subst e3
  have KX := hY w _ Y
  obtain ⟨fd, hb, hF⟩ := F w mg fa _ Y KX G.T.g hmg
  refine PySem.W.enter_call (codeAny_mono (spec_call (R := []) (cl := classAt s_0.heap) (d0 := r.ret.enc (Codec.app r.args r.f a)) KX G.T.g G.T.b G.T.builtins G.T.nolimit hg hwl (pl_encAll _ _) (layable_weight hlay) hr hF hb (by rw [encAll_len]; exact hlen)
    (fun H xs hO hS => hsp w H xs a hO hwi e2 hS) fun H e s' => hCX w H s₁ e s') fun r' s' hq => ?_)
  obtain ⟨u, as', rfl, h1, h2, h3, h4⟩ := hq
  exact ⟨.inl ⟨u, _, as', rfl, fun _ => rfl, h1, (OpenSpec.post_iff hwell hwi _ _).mpr rfl, fun z => Bool.noConfusion (show false = true from z)⟩, h2, h3, h4⟩
theorem walk_specK {r : OpenSpec} {k : Nat} {q : Program} {loose : List Str} {XP : (Str → Option Value) → Heap → Prop} {YP : World → Heap → Prop} {d : DefRec} {K : Params → PySem.W.Frag} {CX : CXT} {ps : List Str} {sp : PySem.W.Frag → Sp}
    (hwell : r.wellSaid = true) (hdf : d.params.defaults = []) (hlen : r.args.length = ps.length) (hr : Room k callerA)
    (hY : ∀ (w : World) (h : Heap), YP w h → (K w.params).In h)
    (F : ∀ (w : World) (mg : Str → Option Value) (fa : Addr) (h : Heap), YP w h → (K w.params).In h → h.Ns mainGlobals mg → mg d.name = some (.ref fa) →
      ∃ fd : FuncData, (∀ (s : Shared) (us : List Value), us.length = ps.length → BindsTo s fd ⟨us, []⟩ (ps.zip us)) ∧
        ∀ base : Heap, (K w.params).In base → base.Ns mainGlobals mg → FnOk r.prog w (K w.params) mg base CX k fa fd ps (sp (K w.params)))
    (hsp : ∀ (K : PySem.W.Frag) (H : Hp) (xs : List V) (a : Codec.denoteAll r.args), OnlyF H → Codec.withinAll r.args a = true → Codec.app r.args r.asked a = true → DwAll K H xs (Codec.encAll r.args a) →
      sp K xs H (fun v H' => Dw K H' v (r.ret.enc (Codec.app r.args r.f a))) fun _ _ _ => False)
    (hCX : ∀ (H : Hp) (s : Shared) (e : Value) (s' : Shared), CX [] H s (fun _ _ _ => False) e s' → False) :
    PySem.W.WalkOS q loose XP YP r d [] (fun f vs => PySem.call f vs) :=
  walk_spec (K := K) (CX := fun _ => CX) (sp := fun w => sp (K w.params)) hwell hdf hlen hr hY F (fun w H xs a h1 h2 h3 h4 => hsp (K w.params) H xs a h1 h2 h3 h4) fun _ H s e s' => hCX H s e s'
end L2
end
end
section
set_option Elab.async false
namespace PM
open Vbecae

/-! ### places -/
def lf (w n : Nat) : Nat := n / w * w + (n % w + (w - 1)) % w
def rt (w n : Nat) : Nat := n / w * w + (n % w + 1) % w
def up (w h n : Nat) : Nat := (n / w + (h - 1)) % h * w + n % w
def dn (w h n : Nat) : Nat := (n / w + 1) % h * w + n % w

def placeFacts (w h n : Nat) : Prop :=
  lf w n < w * h ∧ rt w n < w * h ∧ up w h n < w * h ∧ dn w h n < w * h ∧
  lf w (rt w n) = n ∧ rt w (lf w n) = n ∧ up w h (dn w h n) = n ∧ dn w h (up w h n) = n ∧
  n / w % h = n / w ∧ n % w % w = n % w ∧ n / w < h ∧ n % w < w ∧ n / w * w + n % w = n
instance (w h n : Nat) : Decidable (placeFacts w h n) := by unfold placeFacts; infer_instance
set_option maxRecDepth 100000 in
theorem place_all : ∀ w, w < 7 → ∀ h, h < 7 → ∀ n, n < 36 → n < w * h → placeFacts w h n := by decide +kernel
theorem place {w h n : Nat} (hw : w ≤ 6) (hh : h ≤ 6) (hn : n < w * h) : placeFacts w h n := by
  have h1 : w * h ≤ 6 * 6 := Nat.mul_le_mul hw hh
  exact place_all w (by omega) h (by omega) n (by omega) hn
theorem lf_iff {w h n k : Nat} (hw : w ≤ 6) (hh : h ≤ 6) (hn : n < w * h) (hk : k < w * h) : n = lf w k ↔ rt w n = k := by
  obtain ⟨a1, a2, a3, a4, b1, b2, b3, b4, _⟩ := place hw hh hn
  obtain ⟨c1, c2, c3, c4, d1, d2, d3, d4, _⟩ := place hw hh hk
  exact ⟨fun e => by rw [e]; exact d2, fun e => by rw [← e]; exact b1.symm⟩
theorem rt_iff {w h n k : Nat} (hw : w ≤ 6) (hh : h ≤ 6) (hn : n < w * h) (hk : k < w * h) : n = rt w k ↔ lf w n = k := by
  obtain ⟨a1, a2, a3, a4, b1, b2, b3, b4, _⟩ := place hw hh hn
  obtain ⟨c1, c2, c3, c4, d1, d2, d3, d4, _⟩ := place hw hh hk
  exact ⟨fun e => by rw [e]; exact d1, fun e => by rw [← e]; exact b2.symm⟩
theorem up_iff {w h n k : Nat} (hw : w ≤ 6) (hh : h ≤ 6) (hn : n < w * h) (hk : k < w * h) : n = up w h k ↔ dn w h n = k := by
  obtain ⟨a1, a2, a3, a4, b1, b2, b3, b4, _⟩ := place hw hh hn
  obtain ⟨c1, c2, c3, c4, d1, d2, d3, d4, _⟩ := place hw hh hk
  exact ⟨fun e => by rw [e]; exact d4, fun e => by rw [← e]; exact b3.symm⟩
theorem dn_iff {w h n k : Nat} (hw : w ≤ 6) (hh : h ≤ 6) (hn : n < w * h) (hk : k < w * h) : n = dn w h k ↔ up w h n = k := by
  obtain ⟨a1, a2, a3, a4, b1, b2, b3, b4, _⟩ := place hw hh hn
  obtain ⟨c1, c2, c3, c4, d1, d2, d3, d4, _⟩ := place hw hh hk
  exact ⟨fun e => by rw [e]; exact d3, fun e => by rw [← e]; exact b4.symm⟩
/-- the program's own reckoning of the neighbours -/
def intFacts (w h y x : Nat) : Prop :=
  y * w + x < w * h ∧ (y * w + x) / w = y ∧ (y * w + x) % w = x ∧
  ((y : Int) * (w : Int) + ((x : Int) - 1) % (w : Int)) = ((lf w (y * w + x) : Nat) : Int) ∧
  ((y : Int) * (w : Int) + ((x : Int) + 1) % (w : Int)) = ((rt w (y * w + x) : Nat) : Int) ∧
  (((y : Int) - 1) % (h : Int) * (w : Int) + (x : Int)) = ((up w h (y * w + x) : Nat) : Int) ∧
  (((y : Int) + 1) % (h : Int) * (w : Int) + (x : Int)) = ((dn w h (y * w + x) : Nat) : Int)
instance (w h y x : Nat) : Decidable (intFacts w h y x) := by unfold intFacts; infer_instance
set_option maxRecDepth 100000 in
theorem int_all : ∀ w, w < 7 → ∀ h, h < 7 → ∀ y, y < h → ∀ x, x < w → intFacts w h y x := by decide +kernel
theorem int_place {w h y x : Nat} (hw : w ≤ 6) (hh : h ≤ 6) (hy : y < h) (hx : x < w) : intFacts w h y x := int_all w (by omega) h (by omega) y hy x hx

/-! ### lists by places -/
theorem at_lt {l : List Nat} {i : Nat} (h : i < l.length) : at_ l i = l[i] := by
  unfold at_
  rw [List.getD_eq_getElem?_getD, List.getElem?_eq_getElem h]
  rfl
theorem at_ge {l : List Nat} {i : Nat} (h : l.length ≤ i) : at_ l i = 0 := by
  unfold at_
  rw [List.getD_eq_getElem?_getD, List.getElem?_eq_none h]
  rfl
theorem at_some {l : List Nat} {i v : Nat} (h : l[i]? = some v) : at_ l i = v := by
  unfold at_
  rw [List.getD_eq_getElem?_getD, h]
  rfl
theorem at_get? {l : List Nat} {i : Nat} (h : i < l.length) : l[i]? = some (at_ l i) := by
  rw [at_lt h, List.getElem?_eq_getElem h]
theorem at_mem {l : List Nat} {i : Nat} (h : i < l.length) : at_ l i ∈ l := by
  rw [at_lt h]
  exact List.getElem_mem h
theorem at_le {l : List Nat} {m : Nat} (h : ∀ v ∈ l, v ≤ m) (i : Nat) : at_ l i ≤ m := by
  by_cases hi : i < l.length
  · exact h _ (at_mem hi)
  · rw [at_ge (by omega)]
    omega
theorem ext_at {x y : List Nat} (hl : x.length = y.length) (h : ∀ i, i < x.length → at_ x i = at_ y i) : x = y := by
  apply List.ext_getElem hl
  intro i h1 h2
  have := h i h1
  rw [at_lt h1, at_lt h2] at this
  exact this
theorem eq_range_map (x : List Nat) : x = (List.range x.length).map (at_ x) := by
  apply ext_at
  · simp
  · intro i hi
    rw [at_lt (l := (List.range x.length).map (at_ x)) (by simpa using hi)]
    simp
theorem at_range_map {n : Nat} {f : Nat → Nat} {i : Nat} (h : i < n) : at_ ((List.range n).map f) i = f i := by
  rw [at_lt (by simpa using h)]
  simp
theorem range_map_set {n : Nat} {f g : Nat → Nat} {i v : Nat} (hi : i < n) (h1 : v = g i) (h2 : ∀ k, k < n → k ≠ i → f k = g k) : ((List.range n).map f).set i v = (List.range n).map g := by
  apply List.ext_getElem
  · simp
  · intro k hk1 hk2
    have hk : k < n := by simpa using hk2
    rw [List.getElem_set]
    by_cases e : i = k
    · subst e
      simp [h1]
    · rw [if_neg e]
      simp only [List.getElem_map, List.getElem_range]
      exact h2 k hk (fun q => e q.symm)

/-! ### spreading, as the program does it: by four counters -/
def gath (w h : Nat) (x : List Nat) (j0 j1 j2 j3 n : Nat) : Nat :=
  share (at_ x n) 4 + ((if rt w n < j0 then share (at_ x (rt w n)) 0 else 0) + ((if lf w n < j1 then share (at_ x (lf w n)) 1 else 0) +
    ((if dn w h n < j2 then share (at_ x (dn w h n)) 2 else 0) + (if up w h n < j3 then share (at_ x (up w h n)) 3 else 0))))
def gathL (w h : Nat) (x : List Nat) (j0 j1 j2 j3 : Nat) : List Nat := (List.range (w * h)).map (gath w h x j0 j1 j2 j3)
theorem if_succ {a j v : Nat} (h : ¬ a = j) : (if a < j + 1 then v else 0) = if a < j then v else 0 := by
  by_cases q : a < j
  · rw [if_pos q, if_pos (by omega)]
  · rw [if_neg q, if_neg (by omega)]
section
variable {w h : Nat} {x : List Nat} {j0 j1 j2 j3 k : Nat}
theorem gath_0 (hw : w ≤ 6) (hh : h ≤ 6) (hk : k < w * h) : (gathL w h x k j1 j2 j3).set (lf w k) (at_ (gathL w h x k j1 j2 j3) (lf w k) + share (at_ x k) 0) = gathL w h x (k + 1) j1 j2 j3 := by
  have hp := (place hw hh hk).1
  have e := (lf_iff hw hh hp hk).mp rfl
  refine range_map_set hp ?_ fun n hn hne => ?_
  · unfold gathL
    rw [at_range_map hp]
    unfold gath
    rw [e, if_neg (Nat.lt_irrefl k), if_pos (Nat.lt_succ_self k)]
    omega
  · unfold gath
    rw [if_succ (fun q => hne ((lf_iff hw hh hn hk).mpr q))]
theorem gath_1 (hw : w ≤ 6) (hh : h ≤ 6) (hk : k < w * h) : (gathL w h x j0 k j2 j3).set (rt w k) (at_ (gathL w h x j0 k j2 j3) (rt w k) + share (at_ x k) 1) = gathL w h x j0 (k + 1) j2 j3 := by
  have hp := (place hw hh hk).2.1
  have e := (rt_iff hw hh hp hk).mp rfl
  refine range_map_set hp ?_ fun n hn hne => ?_
  · unfold gathL
    rw [at_range_map hp]
    unfold gath
    rw [e, if_neg (Nat.lt_irrefl k), if_pos (Nat.lt_succ_self k)]
    omega
  · unfold gath
    rw [if_succ (fun q => hne ((rt_iff hw hh hn hk).mpr q))]
theorem gath_2 (hw : w ≤ 6) (hh : h ≤ 6) (hk : k < w * h) : (gathL w h x j0 j1 k j3).set (up w h k) (at_ (gathL w h x j0 j1 k j3) (up w h k) + share (at_ x k) 2) = gathL w h x j0 j1 (k + 1) j3 := by
  have hp := (place hw hh hk).2.2.1
  have e := (up_iff hw hh hp hk).mp rfl
  refine range_map_set hp ?_ fun n hn hne => ?_
  · unfold gathL
    rw [at_range_map hp]
    unfold gath
    rw [e, if_neg (Nat.lt_irrefl k), if_pos (Nat.lt_succ_self k)]
    omega
  · unfold gath
    rw [if_succ (fun q => hne ((up_iff hw hh hn hk).mpr q))]
theorem gath_3 (hw : w ≤ 6) (hh : h ≤ 6) (hk : k < w * h) : (gathL w h x j0 j1 j2 k).set (dn w h k) (at_ (gathL w h x j0 j1 j2 k) (dn w h k) + share (at_ x k) 3) = gathL w h x j0 j1 j2 (k + 1) := by
  have hp := (place hw hh hk).2.2.2.1
  have e := (dn_iff hw hh hp hk).mp rfl
  refine range_map_set hp ?_ fun n hn hne => ?_
  · unfold gathL
    rw [at_range_map hp]
    unfold gath
    rw [e, if_neg (Nat.lt_irrefl k), if_pos (Nat.lt_succ_self k)]
    omega
  · unfold gath
    rw [if_succ (fun q => hne ((dn_iff hw hh hn hk).mpr q))]
theorem gathL_length : (gathL w h x j0 j1 j2 j3).length = w * h := by simp [gathL]
theorem gathL_zero (hx : x.length = w * h) : gathL w h x 0 0 0 0 = x.map fun v => share v 4 := by
  apply ext_at
  · simp [gathL, hx]
  · intro i hi
    have hi' : i < w * h := by simpa [gathL] using hi
    unfold gathL
    rw [at_range_map hi', at_lt (l := x.map fun v => share v 4) (by simpa [hx] using hi')]
    simp [gath, at_lt (show i < x.length by omega)]
end
theorem spread_length (a : Pond) (x : Cells) : (spread a x).length = a.w * a.h := by simp [spread, size]
theorem spread_gath {a : Pond} (hw : a.w ≤ 6) (hh : a.h ≤ 6) (x : Cells) : spread a x = gathL a.w a.h x (a.w * a.h) (a.w * a.h) (a.w * a.h) (a.w * a.h) := by
  unfold spread gathL size
  apply List.map_congr_left
  intro n hn
  have hn' : n < a.w * a.h := by simpa using hn
  obtain ⟨a1, a2, a3, a4, b1, b2, b3, b4, c1, c2, _⟩ := place hw hh hn'
  unfold gath
  rw [if_pos a1, if_pos a2, if_pos a3, if_pos a4]
  show share (at_ x n) 4 + (share (cell a x (n % a.w + 1) (n / a.w)) 0 + (share (cell a x (n % a.w + (a.w - 1)) (n / a.w)) 1 + (share (cell a x (n % a.w) (n / a.w + 1)) 2 + share (cell a x (n % a.w) (n / a.w + (a.h - 1))) 3))) = _
  unfold cell rt lf up dn
  rw [c1, c2]
end PM
end
section
set_option Elab.async false
set_option linter.all false
namespace PM
open Vbecae

/-! ### what always holds -/
structure TOk (m : Nat) (t : List Nat) : Prop where
  len : t.length = m + 1
  le : ∀ v ∈ t, v ≤ m
  up : ∀ i j, i ≤ j → j ≤ m → at_ t i ≤ at_ t j
structure GOk (n : Nat) (g : List Nat) : Prop where
  len : g.length = n
  le : ∀ v ∈ g, v ≤ 100
structure POk (a : Pond) : Prop where
  w1 : 1 ≤ a.w
  w6 : a.w ≤ 6
  h1 : 1 ≤ a.h
  h6 : a.h ≤ 6
  m1 : 1 ≤ a.most
  m60 : a.most ≤ 60
  p1 : 1 ≤ a.tables.length
  p8 : a.tables.length ≤ 8
  gl : a.grazed.length = a.tables.length
  tb : ∀ t ∈ a.tables, TOk a.most t
  gw : ∀ g ∈ a.grazed, GOk (a.w * a.h) g
structure COk (a : Pond) (x : Cells) : Prop where
  len : x.length = a.w * a.h
  le : ∀ v ∈ x, v ≤ a.most
structure SOk (s : State) : Prop where
  pond : POk s.pond
  cells : COk s.pond s.cells
  season : s.season < s.pond.tables.length
theorem POk.n36 {a : Pond} (o : POk a) : a.w * a.h ≤ 36 := Nat.mul_le_mul o.w6 o.h6
theorem POk.n1 {a : Pond} (o : POk a) : 1 ≤ a.w * a.h := Nat.mul_le_mul o.w1 o.h1
theorem getD_mem {α : Type} {l : List α} {i : Nat} {d : α} (h : i < l.length) : l.getD i d ∈ l := by
  rw [List.getD_eq_getElem?_getD, List.getElem?_eq_getElem h]
  exact List.getElem_mem h
theorem POk.table {a : Pond} (o : POk a) {s : Nat} (h : s < a.tables.length) : TOk a.most (a.tables.getD s []) := o.tb _ (getD_mem h)
theorem POk.wants {a : Pond} (o : POk a) {s : Nat} (h : s < a.tables.length) : GOk (a.w * a.h) (a.grazed.getD s []) := o.gw _ (getD_mem (by rw [o.gl]; exact h))

/-! ### a turn, place by place -/
theorem grown_len {a : Pond} {s : Nat} {x : Cells} : (grown a s x).length = x.length := by simp [grown]
theorem at_map {l : List Nat} {f : Nat → Nat} {i : Nat} (h : i < l.length) : at_ (l.map f) i = f (at_ l i) := by
  rw [at_lt (by simpa using h), at_lt h]
  simp
theorem at_zip {l g : List Nat} {f : Nat × Nat → Nat} {i : Nat} (h : i < l.length) (h2 : i < g.length) : at_ ((l.zip g).map f) i = f (at_ l i, at_ g i) := by
  rw [at_lt (by simp; omega), at_lt h, at_lt h2]
  simp
theorem left_len {a : Pond} {s : Nat} {x : Cells} (h : x.length = (a.grazed.getD s []).length) : (left a s x).length = x.length := by
  simp [left]
  simp at h
  omega
theorem taken_len {a : Pond} {s : Nat} {x : Cells} (h : x.length = (a.grazed.getD s []).length) : (taken a s x).length = x.length := by
  simp [taken]
  simp at h
  omega
theorem mem_at {l : List Nat} {v : Nat} (h : v ∈ l) : ∃ i, i < l.length ∧ at_ l i = v := by
  obtain ⟨i, hi, e⟩ := List.getElem_of_mem h
  exact ⟨i, hi, by rw [at_lt hi]; exact e⟩
theorem all_le {l : List Nat} {m : Nat} (h : ∀ i, i < l.length → at_ l i ≤ m) : ∀ v ∈ l, v ≤ m := fun v hv => by
  obtain ⟨i, hi, e⟩ := mem_at hv
  rw [← e]
  exact h i hi
theorem grown_ok {a : Pond} (o : POk a) {s : Nat} (hs : s < a.tables.length) {x : Cells} (c : COk a x) : COk a (grown a s x) := by
  refine ⟨by rw [grown_len]; exact c.len, all_le fun i hi => ?_⟩
  rw [grown_len] at hi
  unfold grown
  rw [at_map hi]
  exact at_le (o.table hs).le _
theorem left_ok {a : Pond} (o : POk a) {s : Nat} (hs : s < a.tables.length) {x : Cells} (c : COk a x) : COk a (left a s x) := by
  have gl := (o.wants hs).len
  have hl : x.length = (a.grazed.getD s []).length := by rw [gl]; exact c.len
  refine ⟨by rw [left_len hl]; exact c.len, all_le fun i hi => ?_⟩
  rw [left_len hl] at hi
  unfold left
  rw [at_zip hi (by omega)]
  have := at_le c.le i
  show at_ x i - _ ≤ _
  omega
theorem at_spread {a : Pond} (hw : a.w ≤ 6) (hh : a.h ≤ 6) {x : Cells} {n : Nat} (hn : n < a.w * a.h) : at_ (spread a x) n =
    share (at_ x n) 4 + (share (at_ x (rt a.w n)) 0 + (share (at_ x (lf a.w n)) 1 + (share (at_ x (dn a.w a.h n)) 2 + share (at_ x (up a.w a.h n)) 3))) := by
  rw [spread_gath hw hh]
  unfold gathL
  rw [at_range_map hn]
  obtain ⟨a1, a2, a3, a4, _⟩ := place hw hh hn
  unfold gath
  rw [if_pos a1, if_pos a2, if_pos a3, if_pos a4]
theorem share_mono {v u k : Nat} (h : v ≤ u) : share v k ≤ share u k := Nat.div_le_div_right (by omega)
theorem share_all (m : Nat) : share m 4 + (share m 0 + (share m 1 + (share m 2 + share m 3))) = m := by
  unfold share
  omega
theorem spread_ok {a : Pond} (o : POk a) {x : Cells} (c : COk a x) : COk a (spread a x) := by
  refine ⟨spread_length a x, all_le fun n hn => ?_⟩
  rw [spread_length] at hn
  rw [at_spread o.w6 o.h6 hn]
  have e := share_all a.most
  have k := at_le c.le
  have b4 := share_mono (k := 4) (k n)
  have b0 := share_mono (k := 0) (k (rt a.w n))
  have b1 := share_mono (k := 1) (k (lf a.w n))
  have b2 := share_mono (k := 2) (k (dn a.w a.h n))
  have b3 := share_mono (k := 3) (k (up a.w a.h n))
  omega
theorem turn_ok {a : Pond} (o : POk a) {s : Nat} (hs : s < a.tables.length) {x : Cells} (c : COk a x) : COk a (turn a s x) := spread_ok o (left_ok o hs (grown_ok o hs c))
theorem next_lt {a : Pond} (o : POk a) (s : Nat) : (s + 1) % seasons a < a.tables.length := Nat.mod_lt _ (by have := o.p1; unfold seasons; omega)
theorem turns_ok {a : Pond} (o : POk a) : ∀ (n : Nat) {s : Nat} (_ : s < a.tables.length) {x : Cells} (_ : COk a x), COk a (turns a n s x)
  | 0, _, _, _, c => c
  | n + 1, _, hs, _, c => turns_ok o n (next_lt o _) (turn_ok o hs c)
theorem year_ok {a : Pond} (o : POk a) {x : Cells} (c : COk a x) : COk a (year a x) := turns_ok o _ (by have := o.p1; omega) c

/-! ### less stays less -/
def Le (x y : Cells) : Prop := ∀ i, at_ x i ≤ at_ y i
theorem Le.refl (x : Cells) : Le x x := fun _ => Nat.le_refl _
theorem grown_mono {a : Pond} (o : POk a) {s : Nat} (hs : s < a.tables.length) {x y : Cells} (cx : COk a x) (cy : COk a y) (h : Le x y) : Le (grown a s x) (grown a s y) := fun i => by
  by_cases hi : i < a.w * a.h
  · unfold grown
    rw [at_map (by rw [cx.len]; exact hi), at_map (by rw [cy.len]; exact hi)]
    exact (o.table hs).up _ _ (h i) (at_le cy.le i)
  · rw [at_ge (by rw [grown_len, cx.len]; omega)]
    omega
theorem left_mono {a : Pond} (o : POk a) {s : Nat} (hs : s < a.tables.length) {x y : Cells} (cx : COk a x) (cy : COk a y) (h : Le x y) : Le (left a s x) (left a s y) := fun i => by
  have gl := (o.wants hs).len
  by_cases hi : i < a.w * a.h
  · unfold left
    rw [at_zip (by rw [cx.len]; exact hi) (by omega), at_zip (by rw [cy.len]; exact hi) (by omega)]
    have := h i
    show at_ x i - _ ≤ at_ y i - _
    omega
  · rw [at_ge (by rw [left_len (by rw [gl]; exact cx.len), cx.len]; omega)]
    omega
theorem spread_mono {a : Pond} (o : POk a) {x y : Cells} (h : Le x y) : Le (spread a x) (spread a y) := fun n => by
  by_cases hn : n < a.w * a.h
  · rw [at_spread o.w6 o.h6 hn, at_spread o.w6 o.h6 hn]
    have b4 := share_mono (k := 4) (h n)
    have b0 := share_mono (k := 0) (h (rt a.w n))
    have b1 := share_mono (k := 1) (h (lf a.w n))
    have b2 := share_mono (k := 2) (h (dn a.w a.h n))
    have b3 := share_mono (k := 3) (h (up a.w a.h n))
    omega
  · rw [at_ge (by rw [spread_length]; omega)]
    omega
theorem turn_mono {a : Pond} (o : POk a) {s : Nat} (hs : s < a.tables.length) {x y : Cells} (cx : COk a x) (cy : COk a y) (h : Le x y) : Le (turn a s x) (turn a s y) :=
  spread_mono o (left_mono o hs (grown_ok o hs cx) (grown_ok o hs cy) (grown_mono o hs cx cy h))
theorem turns_mono {a : Pond} (o : POk a) : ∀ (n : Nat) {s : Nat} (_ : s < a.tables.length) {x y : Cells} (_ : COk a x) (_ : COk a y) (_ : Le x y), Le (turns a n s x) (turns a n s y)
  | 0, _, _, _, _, _, _, h => h
  | n + 1, _, hs, _, _, cx, cy, h => turns_mono o n (next_lt o _) (turn_ok o hs cx) (turn_ok o hs cy) (turn_mono o hs cx cy h)
theorem year_mono {a : Pond} (o : POk a) {x y : Cells} (cx : COk a x) (cy : COk a y) (h : Le x y) : Le (year a x) (year a y) := turns_mono o _ (by have := o.p1; omega) cx cy h

/-! ### years come to rest: the measure -/
theorem sum_le : ∀ {x y : List Nat}, x.length = y.length → (∀ i, at_ x i ≤ at_ y i) → x.sum ≤ y.sum ∧ (x.sum = y.sum → x = y)
  | [], [], _, _ => by simp
  | a :: x, b :: y, hl, h => by
    have h0 : a ≤ b := h 0
    have ht : ∀ i, at_ x i ≤ at_ y i := fun i => h (i + 1)
    obtain ⟨k1, k2⟩ := sum_le (x := x) (y := y) (by simpa using hl) ht
    rw [List.sum_cons, List.sum_cons]
    refine ⟨by omega, fun e => ?_⟩
    have e2 := k2 (by omega)
    have e1 : a = b := by omega
    rw [e1, e2]
  | [], _ :: _, hl, _ => by simp at hl
  | _ :: _, [], hl, _ => by simp at hl
theorem sum_bound : ∀ {x : List Nat} {m : Nat}, (∀ v ∈ x, v ≤ m) → x.sum ≤ x.length * m
  | [], m, _ => by simp
  | a :: x, m, h => by
    have h0 := h a (by simp)
    have ih := sum_bound (x := x) (m := m) fun v hv => h v (by simp [hv])
    rw [List.sum_cons, List.length_cons, Nat.succ_mul]
    omega
theorem COk.sum_le {a : Pond} {x : Cells} (c : COk a x) : x.sum ≤ a.w * a.h * a.most := by
  have := sum_bound c.le
  rw [c.len] at this
  exact this
/-- on the way down (or up) -/
structure Down (a : Pond) (x : Cells) : Prop where
  ok : COk a x
  le : Le (year a x) x
structure Up (a : Pond) (x : Cells) : Prop where
  ok : COk a x
  le : Le x (year a x)
theorem Down.next {a : Pond} (o : POk a) {x : Cells} (d : Down a x) : Down a (year a x) := ⟨year_ok o d.ok, year_mono o (year_ok o d.ok) d.ok d.le⟩
theorem Up.next {a : Pond} (o : POk a) {x : Cells} (d : Up a x) : Up a (year a x) := ⟨year_ok o d.ok, year_mono o d.ok (year_ok o d.ok) d.le⟩
theorem Down.lt {a : Pond} (o : POk a) {x : Cells} (d : Down a x) (h : ¬ year a x = x) : (year a x).sum < x.sum := by
  obtain ⟨k1, k2⟩ := PM.sum_le (x := year a x) (y := x) (by rw [(year_ok o d.ok).len, d.ok.len]) d.le
  have := mt k2 h
  omega
theorem Up.lt {a : Pond} (o : POk a) {x : Cells} (d : Up a x) (h : ¬ year a x = x) : x.sum < (year a x).sum := by
  obtain ⟨k1, k2⟩ := PM.sum_le (x := x) (y := year a x) (by rw [(year_ok o d.ok).len, d.ok.len]) d.le
  have := mt k2 (fun q => h q.symm)
  omega
theorem settle_down {a : Pond} (o : POk a) : ∀ (k j n : Nat) (x : Cells), Down a x → x.sum + 1 ≤ k → x.sum + 1 ≤ j → settle a k n x = settle a j n x
  | 0, _, _, x, _, h, _ => by omega
  | _ + 1, 0, _, x, _, _, h => by omega
  | k + 1, j + 1, n, x, d, h1, h2 => by
    unfold settle
    show (if year a x = x then (n, x) else settle a k (n + 1) (year a x)) = if year a x = x then (n, x) else settle a j (n + 1) (year a x)
    by_cases e : year a x = x
    · rw [if_pos e, if_pos e]
    · have := d.lt o e
      rw [if_neg e, if_neg e, settle_down o k j (n + 1) _ (d.next o) (by omega) (by omega)]
theorem settle_up {a : Pond} (o : POk a) : ∀ (k j n : Nat) (x : Cells), Up a x → a.w * a.h * a.most - x.sum + 1 ≤ k → a.w * a.h * a.most - x.sum + 1 ≤ j → settle a k n x = settle a j n x
  | 0, _, _, x, _, h, _ => by omega
  | _ + 1, 0, _, x, _, _, h => by omega
  | k + 1, j + 1, n, x, d, h1, h2 => by
    unfold settle
    show (if year a x = x then (n, x) else settle a k (n + 1) (year a x)) = if year a x = x then (n, x) else settle a j (n + 1) (year a x)
    by_cases e : year a x = x
    · rw [if_pos e, if_pos e]
    · have := d.lt o e
      have := (d.next o).ok.sum_le
      rw [if_neg e, if_neg e, settle_up o k j (n + 1) _ (d.next o) (by omega) (by omega)]
theorem all_ok {a : Pond} {v : Nat} (h : v ≤ a.most) : COk a (all a v) := ⟨by simp [all, size], fun u hu => by
  have := List.eq_of_mem_replicate (show u ∈ List.replicate (size a) v from hu)
  omega⟩
theorem at_all {a : Pond} {v i : Nat} (h : i < a.w * a.h) : at_ (all a v) i = v := by
  rw [at_lt (by simpa [all, size] using h)]
  simp [all]
theorem down_top {a : Pond} (o : POk a) : Down a (all a a.most) := ⟨all_ok (Nat.le_refl _), fun i => by
  have c := year_ok o (all_ok (a := a) (Nat.le_refl a.most))
  by_cases hi : i < a.w * a.h
  · rw [at_all hi]
    exact at_le c.le i
  · rw [at_ge (by rw [c.len]; omega)]
    omega⟩
theorem up_bottom {a : Pond} (o : POk a) : Up a (all a 0) := ⟨all_ok (Nat.zero_le _), fun i => by
  by_cases hi : i < a.w * a.h
  · rw [at_all hi]
    omega
  · rw [at_ge (by rw [(all_ok (a := a) (Nat.zero_le _)).len]; omega)]
    omega⟩
/-- a turn of the loop: what is still to come is what there is, whatever the lid -/
def rest (a : Pond) (n : Nat) (x : Cells) : Nat × Cells := settle a (a.w * a.h * a.most + 1) n x
theorem greatest_rest (a : Pond) : greatest a = rest a 0 (all a a.most) := rfl
theorem least_rest (a : Pond) : least a = rest a 0 (all a 0) := rfl
theorem rest_stop {a : Pond} {n : Nat} {x : Cells} (h : year a x = x) : rest a n x = (n, x) := by
  unfold rest settle
  show (if year a x = x then (n, x) else _) = _
  rw [if_pos h]
theorem rest_down {a : Pond} (o : POk a) {n : Nat} {x : Cells} (d : Down a x) (h : ¬ year a x = x) : rest a n x = rest a (n + 1) (year a x) := by
  have k1 := d.lt o h
  have k2 := d.ok.sum_le
  have e : rest a n x = settle a (a.w * a.h * a.most) (n + 1) (year a x) := by
    unfold rest
    rw [settle]
    show (if year a x = x then (n, x) else _) = _
    rw [if_neg h]
  rw [e]
  exact settle_down o _ _ _ _ (d.next o) (by omega) (by omega)
theorem rest_up {a : Pond} (o : POk a) {n : Nat} {x : Cells} (d : Up a x) (h : ¬ year a x = x) : rest a n x = rest a (n + 1) (year a x) := by
  have k1 := d.lt o h
  have k2 := (d.next o).ok.sum_le
  have e : rest a n x = settle a (a.w * a.h * a.most) (n + 1) (year a x) := by
    unfold rest
    rw [settle]
    show (if year a x = x then (n, x) else _) = _
    rw [if_neg h]
  rw [e]
  exact settle_up o _ _ _ _ (d.next o) (by omega) (by omega)
theorem rest_ok {a : Pond} (o : POk a) : ∀ (k n : Nat) (x : Cells), COk a x → COk a (settle a k n x).2
  | 0, _, _, c => c
  | k + 1, n, x, c => by
    unfold settle
    show COk a (if year a x = x then (n, x) else settle a k (n + 1) (year a x)).2
    by_cases e : year a x = x
    · rw [if_pos e]
      exact c
    · rw [if_neg e]
      exact rest_ok o k _ _ (year_ok o c)

/-! ### books -/
theorem eaten_sum : ∀ (x g : List Nat), x.length = g.length → ((x.zip g).map fun p => p.1 - p.2).sum + ((x.zip g).map fun p => min p.1 p.2).sum = x.sum
  | [], [], _ => rfl
  | a :: x, b :: g, h => by
    have ih := eaten_sum x g (by simpa using h)
    simp only [List.zip_cons_cons, List.map_cons, List.sum_cons]
    omega
  | [], _ :: _, h => by simp at h
  | _ :: _, [], h => by simp at h
theorem taken_eq {a : Pond} (o : POk a) {s : Nat} (hs : s < a.tables.length) {x : Cells} (c : COk a x) : (left a s x).sum + (taken a s x).sum = x.sum :=
  eaten_sum _ _ (by rw [(o.wants hs).len]; exact c.len)
theorem booked_pond (s : State) : (booked s).pond = s.pond := rfl
theorem booked_ok {s : State} (o : SOk s) : SOk (booked s) := ⟨o.pond, turn_ok o.pond o.season o.cells, next_lt o.pond _⟩
theorem bookedN_ok : ∀ (n : Nat) {s : State} (_ : SOk s), SOk (bookedN n s)
  | 0, _, o => o
  | n + 1, _, o => bookedN_ok n (booked_ok o)
theorem bookedN_succ : ∀ (n : Nat) (s : State), bookedN (n + 1) s = booked (bookedN n s)
  | 0, _ => rfl
  | n + 1, s => by
    show bookedN (n + 1) (booked s) = booked (bookedN n (booked s))
    exact bookedN_succ n (booked s)
theorem bookedN_cells : ∀ (n : Nat) (s : State), (bookedN n s).cells = turns s.pond n s.season s.cells
  | 0, _ => rfl
  | n + 1, s => by
    show (bookedN n (booked s)).cells = _
    rw [bookedN_cells n (booked s)]
    rfl
end PM
end
section
set_option Elab.async false
set_option linter.all false
namespace PM
open Vbecae

/-! ### the course, turn by turn -/
abbrev At := Nat × Cells
def nxt (a : Pond) (q : At) : At := ((q.1 + 1) % seasons a, turn a q.1 q.2)
def orb (a : Pond) : Nat → At → At
  | 0, q => q
  | n + 1, q => orb a n (nxt a q)
theorem orb_succ (a : Pond) : ∀ (n : Nat) (q : At), orb a (n + 1) q = nxt a (orb a n q)
  | 0, _ => rfl
  | n + 1, q => by
    show orb a (n + 1) (nxt a q) = nxt a (orb a n (nxt a q))
    exact orb_succ a n (nxt a q)
theorem orb_add (a : Pond) : ∀ (m n : Nat) (q : At), orb a (m + n) q = orb a m (orb a n q)
  | m, 0, q => rfl
  | m, n + 1, q => by
    show orb a (m + n) (nxt a q) = orb a m (orb a n (nxt a q))
    exact orb_add a m n (nxt a q)
theorem orb_cells (a : Pond) : ∀ (n s : Nat) (x : Cells), (orb a n (s, x)).2 = turns a n s x
  | 0, _, _ => rfl
  | n + 1, s, x => orb_cells a n _ _
theorem orb_ok {a : Pond} (o : POk a) : ∀ (n : Nat) {q : At}, q.1 < a.tables.length → COk a q.2 → (orb a n q).1 < a.tables.length ∧ COk a (orb a n q).2
  | 0, _, h, c => ⟨h, c⟩
  | n + 1, q, h, c => orb_ok o n (q := nxt a q) (next_lt o _) (turn_ok o h c)
theorem turns_add (a : Pond) (m n s : Nat) (x : Cells) : turns a (m + n) s x = turns a m (orb a n (s, x)).1 (turns a n s x) := by
  rw [← orb_cells, orb_add, ← orb_cells, ← orb_cells]

theorem first_at {α : Type} (f : α → Bool) : ∀ (l : List α) (i : Nat), (∀ u, u < i → ∀ y, l[u]? = some y → f y = true) → (∀ y, l[i]? = some y → f y = false) → i ≤ l.length → (l.takeWhile f).length = i
  | [], i, _, _, h => by
    have : i = 0 := by simpa using h
    subst this
    rfl
  | b :: l, 0, _, h2, _ => by
    have e := h2 b rfl
    rw [List.takeWhile_cons, e]
    rfl
  | b :: l, i + 1, h1, h2, h3 => by
    have e := h1 0 (by omega) b rfl
    rw [List.takeWhile_cons, e]
    show (List.takeWhile f l).length + 1 = i + 1
    rw [first_at f l i (fun u hu y hy => h1 (u + 1) (by omega) y (by simpa using hy)) (fun y hy => h2 y (by simpa using hy)) (by simpa using h3)]
theorem round_no {a : Pond} {k s : Nat} {x : Cells} {before : List At} (h : ∀ p ∈ before, p ≠ (s, x)) :
    Vbecae.round a (k + 1) s x before = Vbecae.round a k ((s + 1) % seasons a) (turn a s x) (before ++ [(s, x)]) := by
  have e : (before.takeWhile fun p => !(p.1 == s && p.2 == x)).length = before.length := by
    apply first_at
    · intro u _ y hy
      have := h y (List.mem_of_getElem? hy)
      simp only [Bool.not_eq_true', Bool.and_eq_false_iff, beq_eq_false_iff_ne]
      by_cases q : y.1 = s
      · right
        intro q2
        exact this (Prod.ext q q2)
      · exact .inl q
    · intro y hy
      rw [List.getElem?_eq_none (Nat.le_refl _)] at hy
      cases hy
    · exact Nat.le_refl _
  rw [Vbecae.round, e, if_neg (Nat.lt_irrefl _)]
theorem round_yes {a : Pond} {k s i : Nat} {x : Cells} {before : List At} (hi : before[i]? = some (s, x)) (h : ∀ u, u < i → ∀ y, before[u]? = some y → y ≠ (s, x)) :
    Vbecae.round a (k + 1) s x before = some (i, before.length - i) := by
  have hl : i < before.length := (List.getElem?_eq_some_iff.mp hi).1
  have e : (before.takeWhile fun p => !(p.1 == s && p.2 == x)).length = i := by
    apply first_at
    · intro u hu y hy
      have := h u hu y hy
      simp only [Bool.not_eq_true', Bool.and_eq_false_iff, beq_eq_false_iff_ne]
      by_cases q : y.1 = s
      · right
        intro q2
        exact this (Prod.ext q q2)
      · exact .inl q
    · intro y hy
      rw [hi] at hy
      cases hy
      simp
    · omega
  rw [Vbecae.round, e, if_pos hl]
/-- all turns below n are unlike -/
def Unlike (a : Pond) (q : At) (n : Nat) : Prop := ∀ u v, u < v → v < n → orb a u q ≠ orb a v q
theorem Unlike.mono {a : Pond} {q : At} {m n : Nat} (h : Unlike a q n) (e : m ≤ n) : Unlike a q m := fun u v h1 h2 => h u v h1 (by omega)
theorem round_go {a : Pond} {q : At} : ∀ (m k : Nat), Unlike a q m → Vbecae.round a (k + m) q.1 q.2 [] = Vbecae.round a k (orb a m q).1 (orb a m q).2 ((List.range m).map fun j => orb a j q)
  | 0, k, _ => rfl
  | m + 1, k, h => by
    have ih := round_go m (k + 1) (h.mono (Nat.le_succ m))
    rw [show k + (m + 1) = k + 1 + m by omega, ih, round_no]
    · rw [List.range_succ, List.map_append]
      show Vbecae.round a k (nxt a (orb a m q)).1 (nxt a (orb a m q)).2 _ = _
      rw [← orb_succ]
      rfl
    · intro p hp
      obtain ⟨j, hj, rfl⟩ := List.mem_map.mp hp
      exact h j m (by simpa using hj) (by omega)
theorem comes_some {a : Pond} {s : Nat} {x : Cells} {i j : Nat} (hij : i < j) (hj : j ≤ 600) (e : orb a j (s, x) = orb a i (s, x)) (nd : Unlike a (s, x) j) : comesRound a s x = some (i, j - i) := by
  unfold comesRound LOOK
  have := round_go (a := a) (q := (s, x)) j (601 - j) nd
  rw [show 601 - j + j = 600 + 1 by omega] at this
  rw [this, show 601 - j = (600 - j) + 1 by omega, round_yes (i := i)]
  · simp
  · simp [hij, e]
  · intro u hu y hy
    have : u < j := by omega
    simp [this] at hy
    subst hy
    show orb a u (s, x) ≠ orb a j (s, x)
    rw [e]
    exact nd u i hu hij
theorem comes_none {a : Pond} {s : Nat} {x : Cells} (nd : Unlike a (s, x) 601) : comesRound a s x = none := by
  unfold comesRound LOOK
  have := round_go (a := a) (q := (s, x)) 601 0 nd
  rw [show 0 + 601 = 600 + 1 by omega] at this
  rw [this]
  rfl
theorem first_like (a : Pond) (q : At) : ∀ n, Unlike a q n ∨ ∃ i j, i < j ∧ j < n ∧ orb a j q = orb a i q ∧ Unlike a q j
  | 0 => .inl fun u v h1 h2 => by omega
  | n + 1 => by
    rcases first_like a q n with h | ⟨i, j, h1, h2, h3⟩
    · by_cases c : ∃ i, i < n ∧ orb a n q = orb a i q
      · obtain ⟨i, hi, e⟩ := c
        exact .inr ⟨i, n, hi, by omega, e, h⟩
      · refine .inl fun u v h1 h2 => ?_
        by_cases e : v = n
        · subst e
          intro q2
          exact c ⟨u, h1, q2.symm⟩
        · exact h u v h1 (by omega)
    · exact .inr ⟨i, j, h1, by omega, h3⟩
theorem comes_inv {a : Pond} {s : Nat} {x : Cells} {r : Nat × Nat} (h : comesRound a s x = some r) : 1 ≤ r.2 ∧ r.1 + r.2 ≤ 600 ∧ orb a (r.1 + r.2) (s, x) = orb a r.1 (s, x) ∧ Unlike a (s, x) (r.1 + r.2) := by
  rcases first_like a (s, x) 601 with u | ⟨i, j, h1, h2, h3, h4⟩
  · rw [comes_none u] at h
    cases h
  · rw [comes_some h1 (by omega) h3 h4] at h
    cases h
    refine ⟨by show 1 ≤ j - i; omega, by show i + (j - i) ≤ 600; omega, ?_, ?_⟩
    · show orb a (i + (j - i)) _ = orb a i _
      rw [show i + (j - i) = j by omega]
      exact h3
    · show Unlike a _ (i + (j - i))
      rw [show i + (j - i) = j by omega]
      exact h4
theorem orb_round {a : Pond} {q : At} {t r : Nat} (e : orb a (t + r) q = orb a t q) : ∀ k m, orb a (t + (m + k * r)) q = orb a (t + m) q
  | 0, m => by simp
  | k + 1, m => by
    have ih := orb_round e k m
    rw [show t + (m + (k + 1) * r) = (m + k * r) + (t + r) by rw [Nat.succ_mul]; omega, orb_add, e, ← orb_add, show m + k * r + t = t + (m + k * r) by omega]
    exact ih
theorem orb_like {a : Pond} {s : Nat} {x : Cells} {r : Nat × Nat} (h : comesRound a s x = some r) (n : Nat) : orb a (like r n) (s, x) = orb a n (s, x) := by
  obtain ⟨h1, h2, h3, _⟩ := comes_inv h
  unfold like
  by_cases c : n < r.1
  · rw [if_pos c]
  · rw [if_neg c]
    have e := orb_round h3 ((n - r.1) / r.2) ((n - r.1) % r.2)
    rw [← e]
    congr 1
    have := Nat.mod_add_div (n - r.1) r.2
    rw [Nat.mul_comm] at this
    omega
/-- point 4: a far turn is what turn by turn comes to -/
theorem far_turns {a : Pond} {s n : Nat} {x y : Cells} (h : Vbecae.far a s n x = some y) : y = turns a n s x := by
  unfold Vbecae.far at h
  by_cases c : n ≤ LOOK
  · rw [if_pos c] at h
    cases h
    rfl
  · rw [if_neg c] at h
    cases e : comesRound a s x with
    | none =>
      rw [e] at h
      cases h
    | some r =>
      rw [e] at h
      have h' : turns a (like r n) s x = y := Option.some.inj h
      rw [← h', ← orb_cells, orb_like e, orb_cells]
theorem far_small {a : Pond} {s n : Nat} {x : Cells} (h : n ≤ 600) : Vbecae.far a s n x = some (turns a n s x) := by
  unfold Vbecae.far LOOK
  rw [if_pos h]
theorem far_some {a : Pond} {s n : Nat} {x : Cells} {r : Nat × Nat} (e : comesRound a s x = some r) : Vbecae.far a s n x = some (turns a n s x) := by
  unfold Vbecae.far
  by_cases c : n ≤ LOOK
  · rw [if_pos c]
  · rw [if_neg c, e]
    show some (turns a (like r n) s x) = _
    rw [← orb_cells, orb_like e, orb_cells]
theorem far_none {a : Pond} {s n : Nat} {x : Cells} (h : 600 < n) (e : comesRound a s x = none) : Vbecae.far a s n x = none := by
  unfold Vbecae.far LOOK
  rw [if_neg (by omega), e]

/-! ### what is handed in -/
theorem between_iff {n lo hi : Int} : isBetween n lo hi = true ↔ lo ≤ n ∧ n ≤ hi := by
  unfold isBetween
  simp
theorem between_not {n lo hi : Int} : isBetween n lo hi = false ↔ ¬ (lo ≤ n ∧ n ≤ hi) := by
  rw [← between_iff]
  simp
theorem listOf_some {len most : Nat} {l : List Int} (h1 : l.length = len) (h2 : ∀ v ∈ l, 0 ≤ v ∧ v ≤ (most : Int)) : listOf len most l = some (l.map Int.toNat) := by
  unfold listOf
  rw [if_pos ⟨h1, by rw [List.all_eq_true]; exact fun v hv => between_iff.mpr (h2 v hv)⟩]
theorem listOf_none {len most : Nat} {l : List Int} (h : ¬ (l.length = len ∧ ∀ v ∈ l, 0 ≤ v ∧ v ≤ (most : Int))) : listOf len most l = none := by
  unfold listOf
  rw [if_neg]
  rintro ⟨h1, h2⟩
  rw [List.all_eq_true] at h2
  exact h ⟨h1, fun v hv => between_iff.mp (h2 v hv)⟩
theorem listOf_inv {len most : Nat} {l : List Int} {x : List Nat} (h : listOf len most l = some x) : l.length = len ∧ (∀ v ∈ l, 0 ≤ v ∧ v ≤ (most : Int)) ∧ x = l.map Int.toNat ∧ l = Vbecae.ints x ∧ x.length = len ∧ ∀ v ∈ x, v ≤ most := by
  by_cases c : l.length = len ∧ ∀ v ∈ l, 0 ≤ v ∧ v ≤ (most : Int)
  · rw [listOf_some c.1 c.2] at h
    cases h
    refine ⟨c.1, c.2, rfl, ?_, by simpa using c.1, ?_⟩
    · unfold Vbecae.ints
      rw [List.map_map]
      have : ∀ v ∈ l, ((fun (n : Nat) => (n : Int)) ∘ Int.toNat) v = v := fun v hv => by
        have := (c.2 v hv).1
        show ((v.toNat : Nat) : Int) = v
        omega
      rw [List.map_congr_left this]
      simp
    · intro v hv
      obtain ⟨u, hu, rfl⟩ := List.mem_map.mp hv
      have := c.2 u hu
      omega
  · rw [listOf_none c] at h
    cases h
theorem rising_iff : ∀ (t : List Nat), rising t = true ↔ ∀ i, i + 1 < t.length → at_ t i ≤ at_ t (i + 1)
  | [] => by
    refine ⟨fun _ i hi => ?_, fun _ => rfl⟩
    simp at hi
  | [a] => by
    refine ⟨fun _ i hi => ?_, fun _ => rfl⟩
    simp at hi
  | a :: b :: l => by
    have ih := rising_iff (b :: l)
    unfold rising
    rw [Bool.and_eq_true, ih, decide_eq_true_iff]
    constructor
    · rintro ⟨h1, h2⟩ i hi
      cases i with
      | zero => exact h1
      | succ i => exact h2 i (by simpa using hi)
    · intro h
      exact ⟨h 0 (by simp), fun i hi => h (i + 1) (by simpa using hi)⟩
theorem rising_up {t : List Nat} (h : rising t = true) : ∀ j i, i ≤ j → j < t.length → at_ t i ≤ at_ t j
  | 0, i, h1, _ => by
    have : i = 0 := by omega
    subst this
    exact Nat.le_refl _
  | j + 1, i, h1, h2 => by
    by_cases e : i = j + 1
    · subst e
      exact Nat.le_refl _
    · exact Nat.le_trans (rising_up h j i (by omega) (by omega)) ((rising_iff t).mp h j h2)
theorem table_ok {m : Nat} {l : List Int} {t : List Nat} (h : listOf (m + 1) m l = some t) (r : rising t = true) : TOk m t := by
  obtain ⟨_, _, _, _, h1, h2⟩ := listOf_inv h
  exact ⟨h1, h2, fun i j hij hj => rising_up r j i hij (by omega)⟩

/-! ### every call keeps what always holds -/
theorem id_ok (m : Nat) : TOk m (id_ m) := by
  refine ⟨by simp [id_], fun v hv => ?_, fun i j h1 h2 => ?_⟩
  · simp [id_] at hv
    omega
  · unfold id_
    rw [at_lt (by simp; omega), at_lt (by simp; omega)]
    simpa using h1
theorem newPond_ok {w h m p : Nat} (w1 : 1 ≤ w) (w6 : w ≤ 6) (h1 : 1 ≤ h) (h6 : h ≤ 6) (m1 : 1 ≤ m) (m60 : m ≤ 60) (p1 : 1 ≤ p) (p8 : p ≤ 8) : POk (newPond w h m p) := by
  refine ⟨w1, w6, h1, h6, m1, m60, by simpa [newPond] using p1, by simpa [newPond] using p8, by simp [newPond], fun t ht => ?_, fun g hg => ?_⟩
  · have := List.eq_of_mem_replicate (show t ∈ List.replicate p (id_ m) from ht)
    subst this
    exact id_ok m
  · have := List.eq_of_mem_replicate (show g ∈ List.replicate p (List.replicate (w * h) 0) from hg)
    subst this
    exact ⟨by simp [newPond], fun v hv => by rw [List.eq_of_mem_replicate hv]; omega⟩
theorem fresh_ok {a : Pond} {x : Cells} (o : POk a) (c : COk a x) : SOk (fresh a x) := ⟨o, c, Nat.lt_of_lt_of_le Nat.zero_lt_one o.p1⟩
theorem zeros_ok {a : Pond} : COk a (List.replicate (a.w * a.h) 0) := ⟨by simp, fun v hv => by rw [List.eq_of_mem_replicate hv]; omega⟩
theorem start_ok : SOk start := fresh_ok (newPond_ok (by decide) (by decide) (by decide) (by decide) (by decide) (by decide) (by decide) (by decide)) ⟨rfl, by decide⟩
theorem moved_ok {a : Pond} {dx dy m : Nat} {x : Cells} (hl : x.length = a.w * a.h) (h : ∀ v ∈ x, v ≤ m) : (movedCells a dx dy x).length = a.w * a.h ∧ ∀ v ∈ movedCells a dx dy x, v ≤ m := by
  refine ⟨by simp [movedCells, size], fun v hv => ?_⟩
  obtain ⟨n, _, rfl⟩ := List.mem_map.mp hv
  exact at_le h _
theorem setT_ok {a : Pond} (o : POk a) {n : Nat} {t : List Nat} (ht : TOk a.most t) : POk { w := a.w, h := a.h, most := a.most, tables := a.tables.set n t, grazed := a.grazed } := by
  refine ⟨o.w1, o.w6, o.h1, o.h6, o.m1, o.m60, by simpa using o.p1, by simpa using o.p8, by simpa using o.gl, fun u hu => ?_, o.gw⟩
  rcases List.mem_or_eq_of_mem_set hu with q | q
  · exact o.tb u q
  · rw [q]
    exact ht
theorem setG_ok {a : Pond} (o : POk a) {n : Nat} {g : List Nat} (hg : GOk (a.w * a.h) g) : POk { w := a.w, h := a.h, most := a.most, tables := a.tables, grazed := a.grazed.set n g } := by
  refine ⟨o.w1, o.w6, o.h1, o.h6, o.m1, o.m60, o.p1, o.p8, by simpa using o.gl, o.tb, fun u hu => ?_⟩
  rcases List.mem_or_eq_of_mem_set hu with q | q
  · exact o.gw u q
  · rw [q]
    exact hg
theorem grazing_ok {a : Pond} (o : POk a) {g : List Nat} (hg : GOk (a.w * a.h) g) : POk (grazing a g) := by
  refine ⟨o.w1, o.w6, o.h1, o.h6, o.m1, o.m60, o.p1, o.p8, by simpa [grazing] using o.gl, o.tb, fun u hu => ?_⟩
  obtain ⟨_, _, rfl⟩ := List.mem_map.mp hu
  exact hg
theorem movedPond_ok {a : Pond} (o : POk a) {dx dy : Nat} : POk (movedPond a dx dy) := by
  refine ⟨o.w1, o.w6, o.h1, o.h6, o.m1, o.m60, o.p1, o.p8, by simpa [movedPond] using o.gl, o.tb, fun u hu => ?_⟩
  obtain ⟨g, hg, rfl⟩ := List.mem_map.mp hu
  obtain ⟨h1, h2⟩ := moved_ok (a := a) (dx := dx) (dy := dy) (o.gw g hg).len (o.gw g hg).le
  exact ⟨h1, h2⟩
theorem act_ok {s : State} (o : SOk s) : ∀ c : Vbecae.Call, SOk (act s c).1 := by
  intro c
  cases c with
  | pond w h m p =>
    unfold act
    by_cases c1 : isBetween w 1 6 = false ∨ isBetween h 1 6 = false
    · simp only [if_pos c1]
      exact o
    simp only [if_neg c1]
    by_cases c2 : isBetween m 1 60 = false
    · simp only [if_pos c2]
      exact o
    simp only [if_neg c2]
    by_cases c3 : isBetween p 1 8 = false
    · simp only [if_pos c3]
      exact o
    simp only [if_neg c3]
    have a1 : isBetween w 1 6 = true := by cases q : isBetween w 1 6 <;> simp_all
    have a2 : isBetween h 1 6 = true := by cases q : isBetween h 1 6 <;> simp_all
    have a3 : isBetween m 1 60 = true := by simpa using c2
    have a4 : isBetween p 1 8 = true := by simpa using c3
    rw [between_iff] at a1 a2 a3 a4
    exact fresh_ok (newPond_ok (by omega) (by omega) (by omega) (by omega) (by omega) (by omega) (by omega) (by omega)) zeros_ok
  | table n l =>
    unfold act
    by_cases c1 : seasonOk s n = false
    · simp only [if_pos c1]
      exact o
    simp only [if_neg c1]
    cases e : listOf (s.pond.most + 1) s.pond.most l with
    | none => exact o
    | some t =>
      by_cases c2 : rising t = false
      · simp only [if_pos c2]
        exact o
      simp only [if_neg c2]
      exact fresh_ok (setT_ok o.pond (table_ok e (by simpa using c2))) ⟨o.cells.len, o.cells.le⟩
  | graze n l =>
    unfold act
    by_cases c1 : seasonOk s n = false
    · simp only [if_pos c1]
      exact o
    simp only [if_neg c1]
    cases e : listOf (size s.pond) 100 l with
    | none => exact o
    | some g =>
      obtain ⟨_, _, _, _, h1, h2⟩ := listOf_inv e
      exact fresh_ok (setG_ok o.pond ⟨h1, h2⟩) ⟨o.cells.len, o.cells.le⟩
  | set l =>
    cases e : listOf (size s.pond) s.pond.most l with
    | none =>
      simp only [act, e]
      exact o
    | some g =>
      obtain ⟨_, _, _, _, h1, h2⟩ := listOf_inv e
      simp only [act, e]
      exact fresh_ok o.pond ⟨h1, h2⟩
  | turns n =>
    unfold act
    by_cases c1 : isBetween n 0 1000 = false
    · simp only [if_pos c1]
      exact o
    simp only [if_neg c1]
    exact bookedN_ok _ o
  | move dx dy =>
    unfold act
    by_cases c1 : isBetween dx 0 7 = false ∨ isBetween dy 0 7 = false
    · simp only [if_pos c1]
      exact o
    simp only [if_neg c1]
    obtain ⟨h1, h2⟩ := moved_ok (a := s.pond) (dx := dx.toNat) (dy := dy.toNat) o.cells.len o.cells.le
    exact ⟨movedPond_ok o.pond, ⟨h1, h2⟩, o.season⟩
  | told => exact o
  | get x y => exact o
  | cells => exact o
  | book => exact o
  | far n => exact o
  | round => exact o
  | greatest => exact o
  | least => exact o
  | one => exact o
  | below x => exact o
  | yield l => exact o
theorem step_ok {s : State} (o : SOk s) (c : List (List Int)) : SOk (step s c).1 := by
  unfold step
  cases decode c with
  | none => exact o
  | some d => exact act_ok o d
end PM
end
section
set_option Elab.async false
set_option linter.all false
namespace PM
open Vbecae
/-! ### the list of calls -/
theorem pick {α : Type} {c i : Int} {v w : α} {r : Option α} (h : (if c = i then some v else r) = some w) : (c = i ∧ v = w) ∨ r = some w := by
  by_cases e : c = i
  · rw [if_pos e] at h
    exact .inl ⟨e, Option.some.inj h⟩
  · rw [if_neg e] at h
    exact .inr h
/-- the calls by their numbers -/
def kinds : List (Int × Nat × Nat) := [(0, 4, 0), (1, 1, 1), (2, 1, 1), (3, 0, 1), (4, 0, 0), (5, 2, 0), (6, 0, 0), (7, 1, 0), (8, 0, 0), (9, 1, 0), (10, 0, 0), (11, 0, 0), (12, 0, 0), (13, 0, 0), (14, 0, 1), (15, 2, 0), (16, 0, 1)]
theorem pick_mem {c i : Int} {a b n k : Nat} {r : Option (Nat × Nat)} {l : List (Int × Nat × Nat)} (h : (if c = i then some (a, b) else r) = some (n, k)) (g : r = some (n, k) → (c, n, k) ∈ l) : (c, n, k) ∈ (i, a, b) :: l := by
  rcases pick h with ⟨rfl, e⟩ | e
  · cases e
    exact List.mem_cons_self ..
  · exact List.mem_cons_of_mem _ (g e)
theorem shape_kinds {c : Int} {n k : Nat} (h : PyVbecae.shape c = some (n, k)) : (c, n, k) ∈ kinds :=
  pick_mem h fun h => pick_mem h fun h => pick_mem h fun h => pick_mem h fun h => pick_mem h fun h => pick_mem h fun h => pick_mem h fun h => pick_mem h fun h => pick_mem h fun h => pick_mem h fun h => pick_mem h fun h => pick_mem h fun h => pick_mem h fun h => pick_mem h fun h => pick_mem h fun h => pick_mem h fun h => pick_mem h fun h => nomatch h
theorem len_one {α : Type} {l : List α} (h : l.length = 1) : ∃ a, l = [a] := match l, h with | [a], _ => ⟨a, rfl⟩
theorem len_two {α : Type} {l : List α} (h : l.length = 2) : ∃ a b, l = [a, b] := match l, h with | [a, b], _ => ⟨a, b, rfl⟩
theorem len_four {α : Type} {l : List α} (h : l.length = 4) : ∃ a b c d, l = [a, b, c, d] := match l, h with | [a, b, c, d], _ => ⟨a, b, c, d, rfl⟩
theorem len_nil {α : Type} {l : List α} (h : l.length = 0) : l = [] := List.length_eq_zero_iff.mp h
def Same1 (q : Int × Nat × Nat) : Prop := ∀ (a : List Int) (xs : List (List Int)), a.length = q.2.1 → xs.length = q.2.2 → PyVbecae.whole ((q.1 :: a) :: xs) = (q.1 :: a) :: xs
theorem same00 {c : Int} (h : PyVbecae.whole [[c]] = [[c]]) : Same1 (c, 0, 0) := fun a xs h1 h2 => by
  rw [len_nil h1, len_nil h2]
  exact h
theorem same01 {c : Int} (h : ∀ r, PyVbecae.whole [[c], r] = [[c], r]) : Same1 (c, 0, 1) := fun a xs h1 h2 => by
  obtain ⟨r, rfl⟩ := len_one h2
  rw [len_nil h1]
  exact h r
theorem same10 {c : Int} (h : ∀ x, PyVbecae.whole [[c, x]] = [[c, x]]) : Same1 (c, 1, 0) := fun a xs h1 h2 => by
  obtain ⟨x, rfl⟩ := len_one h1
  rw [len_nil h2]
  exact h x
theorem same11 {c : Int} (h : ∀ x r, PyVbecae.whole [[c, x], r] = [[c, x], r]) : Same1 (c, 1, 1) := fun a xs h1 h2 => by
  obtain ⟨x, rfl⟩ := len_one h1
  obtain ⟨r, rfl⟩ := len_one h2
  exact h x r
theorem same20 {c : Int} (h : ∀ x y, PyVbecae.whole [[c, x, y]] = [[c, x, y]]) : Same1 (c, 2, 0) := fun a xs h1 h2 => by
  obtain ⟨x, y, rfl⟩ := len_two h1
  rw [len_nil h2]
  exact h x y
theorem same40 {c : Int} (h : ∀ x y z w, PyVbecae.whole [[c, x, y, z, w]] = [[c, x, y, z, w]]) : Same1 (c, 4, 0) := fun a xs h1 h2 => by
  obtain ⟨x, y, z, w, rfl⟩ := len_four h1
  rw [len_nil h2]
  exact h x y z w
theorem whole_kinds : ∀ q ∈ kinds, Same1 q := fun q hq => by
  simp only [kinds, List.mem_cons, List.not_mem_nil, or_false] at hq
  rcases hq with rfl | rfl | rfl | rfl | rfl | rfl | rfl | rfl | rfl | rfl | rfl | rfl | rfl | rfl | rfl | rfl | rfl
  · exact same40 fun _ _ _ _ => rfl
  · exact same11 fun _ _ => rfl
  · exact same11 fun _ _ => rfl
  · exact same01 fun _ => rfl
  · exact same00 rfl
  · exact same20 fun _ _ => rfl
  · exact same00 rfl
  · exact same10 fun _ => rfl
  · exact same00 rfl
  · exact same10 fun _ => rfl
  · exact same00 rfl
  · exact same00 rfl
  · exact same00 rfl
  · exact same00 rfl
  · exact same01 fun _ => rfl
  · exact same20 fun _ _ => rfl
  · exact same01 fun _ => rfl
theorem whole_ok {c : List (List Int)} (h : PyFlat.okCall PyVbecae.shape c) : PyVbecae.whole c = c := by
  obtain ⟨p, a, xs, rfl, hs⟩ := h
  exact whole_kinds _ (shape_kinds hs) a xs rfl rfl
abbrev spStep := VbecaeNeutral.step
theorem parse {l : List Int} (h : PyVbecae.answers_asked l = true) : ∃ cs, l = PyFlat.put cs ∧ (∀ c ∈ cs, PyFlat.okCall PyVbecae.shape c) ∧ cs.length ≤ 400 ∧ PyVbecae.answers l = PyFlat.told (PyFlat.played VbecaeNeutral.step VbecaeNeutral.start cs) := by
  unfold PyVbecae.answers_asked PyVbecae.calls at h
  unfold PyVbecae.answers PyVbecae.calls
  cases e : PyFlat.calls PyVbecae.shape l.length l with
  | none =>
    rw [e] at h
    cases h
  | some cs =>
    rw [e] at h
    obtain ⟨h1, h2⟩ := PyFlat.put_calls _ _ _ e
    have em : cs.map PyVbecae.whole = cs := by
      have : cs.map PyVbecae.whole = cs.map id := List.map_congr_left fun c hc => whole_ok (h2 c hc)
      rw [this, List.map_id]
    have h' : (PyFlat.atMost 400 (cs.map PyVbecae.whole) && VbecaeNeutral.asked (cs.map PyVbecae.whole)) = true := h
    rw [em, Bool.and_eq_true] at h'
    refine ⟨cs, h1, h2, of_decide_eq_true h'.1, ?_⟩
    show PyFlat.told (PyFlat.played VbecaeNeutral.step VbecaeNeutral.start (cs.map PyVbecae.whole)) = _
    rw [em]
/-- the state behind calls -/
def behind (s : State) : List (List (List Int)) → State
  | [] => s
  | c :: r => behind (step s c).1 r
theorem behind_snoc (c : List (List Int)) : ∀ (cs : List (List (List Int))) (s : State), behind s (cs ++ [c]) = (step (behind s cs) c).1
  | [], _ => rfl
  | d :: cs, s => behind_snoc c cs (step s d).1
theorem behind_ok : ∀ (cs : List (List (List Int))) {s : State}, SOk s → SOk (behind s cs)
  | [], _, o => o
  | c :: cs, _, o => behind_ok cs (step_ok o c)
theorem played_snoc (c : List (List Int)) : ∀ (cs : List (List (List Int))) (s : State), PyFlat.played step s (cs ++ [c]) = PyFlat.played step s cs ++ [(step (behind s cs) c).2]
  | [], _ => rfl
  | d :: cs, s => by
    show (step s d).2 :: PyFlat.played step (step s d).1 (cs ++ [c]) = (step s d).2 :: PyFlat.played step (step s d).1 cs ++ [(step (behind (step s d).1 cs) c).2]
    rw [played_snoc c cs (step s d).1]
    rfl
theorem told_snoc (a : List (List Int)) (b : List Int) : PyFlat.told (a ++ [b]) = PyFlat.told a ++ ((b.length : Int) :: b) := by
  unfold PyFlat.told
  rw [List.flatMap_append]
  simp
theorem put_append : ∀ (a b : List (List (List Int))), PyFlat.put (a ++ b) = PyFlat.put a ++ PyFlat.put b
  | [], _ => rfl
  | c :: a, b => by
    show PyFlat.put1 c ++ PyFlat.put (a ++ b) = PyFlat.put1 c ++ PyFlat.put a ++ PyFlat.put b
    rw [put_append a b, List.append_assoc]
/-! ### how long an answer is -/
theorem flat_len {k m : Nat} : ∀ {l : List (List Nat)}, l.length ≤ k → (∀ t ∈ l, t.length ≤ m) → (l.flatMap Vbecae.ints).length ≤ k * m
  | [], _, _ => by simp
  | t :: l, h1, h2 => by
    cases k with
    | zero => simp at h1
    | succ k =>
      have ih := flat_len (k := k) (m := m) (l := l) (by simpa using h1) fun u hu => h2 u (by simp [hu])
      have ht := h2 t (by simp)
      rw [List.flatMap_cons, List.length_append, Nat.succ_mul]
      have : (Vbecae.ints t).length = t.length := by simp [Vbecae.ints]
      omega
theorem ints_len (x : List Nat) : (Vbecae.ints x).length = x.length := by simp [Vbecae.ints]
theorem greatest_ok {a : Pond} (o : POk a) : COk a (greatest a).2 := rest_ok o _ _ _ (all_ok (Nat.le_refl _))
theorem least_ok {a : Pond} (o : POk a) : COk a (least a).2 := rest_ok o _ _ _ (all_ok (Nat.zero_le _))
theorem act_len {s : State} (o : SOk s) (c : Call) : (act s c).2.length ≤ 1000 := by
  have n36 := o.pond.n36
  have cl := o.cells.len
  have one : ∀ z : Int, ([z] : List Int).length ≤ 1000 := fun _ => by simp
  cases c with
  | pond w h m p =>
    unfold act
    dsimp only
    split
    · exact one _
    · split
      · exact one _
      · split <;> exact one _
  | table n l =>
    unfold act
    dsimp only
    split
    · exact one _
    · split
      · exact one _
      · split <;> exact one _
  | graze n l =>
    unfold act
    dsimp only
    split
    · exact one _
    · split <;> exact one _
  | set l =>
    unfold act
    dsimp only
    split <;> exact one _
  | told =>
    show ([0, (s.pond.w : Int), (s.pond.h : Int), (s.pond.most : Int), (seasons s.pond : Int), (s.season : Int)] ++ (s.pond.tables.flatMap Vbecae.ints ++ s.pond.grazed.flatMap Vbecae.ints)).length ≤ 1000
    have h1 := flat_len (k := 8) (m := 61) o.pond.p8 fun t ht => by have := (o.pond.tb t ht).len; have := o.pond.m60; omega
    have h2 := flat_len (k := 8) (m := 36) (l := s.pond.grazed) (by rw [o.pond.gl]; exact o.pond.p8) fun t ht => by have := (o.pond.gw t ht).len; omega
    rw [List.length_append, List.length_append]
    have : ([0, (s.pond.w : Int), (s.pond.h : Int), (s.pond.most : Int), (seasons s.pond : Int), (s.season : Int)] : List Int).length = 6 := rfl
    omega
  | get x y =>
    show (if _ then _ else _ : List Int).length ≤ 1000
    split <;> exact one _
  | cells =>
    show (0 :: Vbecae.ints s.cells).length ≤ 1000
    rw [List.length_cons, ints_len]
    omega
  | turns n =>
    unfold act
    dsimp only
    split <;> exact one _
  | book =>
    show ([0, (s.first : Int), (s.more : Int), (s.died : Int), (s.eaten : Int), (s.cells.sum : Int)] : List Int).length ≤ 1000
    show 6 ≤ 1000
    omega
  | far n =>
    show (if isBetween n 0 1000000000000000000 = false then [-7] else match Vbecae.far s.pond s.season n.toNat s.cells with | none => [-8] | some x => 0 :: Vbecae.ints x : List Int).length ≤ 1000
    split
    · exact one _
    · cases e : Vbecae.far s.pond s.season n.toNat s.cells with
      | none => exact one _
      | some x =>
        show (0 :: Vbecae.ints x).length ≤ 1000
        rw [List.length_cons, ints_len, far_turns e, (turns_ok o.pond n.toNat o.season o.cells).len]
        omega
  | round =>
    show (match comesRound s.pond s.season s.cells with | none => [-8] | some r => [(r.1 : Int), (r.2 : Int)] : List Int).length ≤ 1000
    cases comesRound s.pond s.season s.cells with
    | none => exact one _
    | some r =>
      show 2 ≤ 1000
      omega
  | greatest =>
    show (((greatest s.pond).1 : Int) :: Vbecae.ints (greatest s.pond).2).length ≤ 1000
    rw [List.length_cons, ints_len, (greatest_ok o.pond).len]
    omega
  | least =>
    show (((least s.pond).1 : Int) :: Vbecae.ints (least s.pond).2).length ≤ 1000
    rw [List.length_cons, ints_len, (least_ok o.pond).len]
    omega
  | one => exact one _
  | below x =>
    show (match listOf (size s.pond) s.pond.most x with | none => [-6] | some y => match (List.range (size s.pond)).find? fun n => decide (at_ y n < at_ s.cells n) with | none => [1] | some n => [0, (n : Int)] : List Int).length ≤ 1000
    split
    · exact one _
    · split
      · exact one _
      · show 2 ≤ 1000
        omega
  | move dx dy =>
    unfold act
    dsimp only
    split <;> exact one _
  | yield l =>
    show (match listOf (size s.pond) 100 l with | none => [-6] | some g => [((bookedN (seasons (grazing s.pond g)) (fresh (grazing s.pond g) (greatest (grazing s.pond g)).2)).eaten : Int), ((greatest (grazing s.pond g)).2.sum : Int)] : List Int).length ≤ 1000
    split
    · exact one _
    · show 2 ≤ 1000
      omega
theorem step_len {s : State} (o : SOk s) (c : List (List Int)) : (step s c).2.length ≤ 1000 := by
  unfold step
  cases decode c with
  | none => show 1 ≤ 1000; omega
  | some d => exact act_len o d
theorem told_len : ∀ (cs : List (List (List Int))) {s : State}, SOk s → (PyFlat.told (PyFlat.played step s cs)).length ≤ 1001 * cs.length
  | [], _, _ => by simp [PyFlat.played, PyFlat.told]
  | c :: cs, s, o => by
    have ih := told_len cs (step_ok o c)
    have h := step_len o c
    show (((step s c).2.length : Int) :: (step s c).2 ++ PyFlat.told (PyFlat.played step (step s c).1 cs)).length ≤ _
    rw [List.length_append, List.length_cons, List.length_cons]
    omega
end PM
end
section
set_option Elab.async false
set_option linter.all false
namespace PM
open Vbecae
/-! ### what years come to, by a key -/
def keyOf (a : Pond) (u : Nat) : List (Int ⊕ List (List Int)) := [.inl (a.w : Int), .inl (u : Int), .inr (a.tables.map Vbecae.ints), .inr (a.grazed.map Vbecae.ints)]
theorem ints_inj : ∀ {x y : List Nat}, Vbecae.ints x = Vbecae.ints y → x = y
  | [], [], _ => rfl
  | [], _ :: _, h => by cases h
  | _ :: _, [], h => by cases h
  | a :: x, b :: y, h => by
    obtain ⟨h1, h2⟩ := List.cons.inj (show (a : Int) :: Vbecae.ints x = (b : Int) :: Vbecae.ints y from h)
    rw [Int.ofNat.inj h1, ints_inj h2]
theorem rows_inj : ∀ {x y : List (List Nat)}, x.map Vbecae.ints = y.map Vbecae.ints → x = y
  | [], [], _ => rfl
  | [], _ :: _, h => by cases h
  | _ :: _, [], h => by cases h
  | a :: x, b :: y, h => by
    rw [List.map_cons, List.map_cons] at h
    obtain ⟨h1, h2⟩ := List.cons.inj h
    rw [ints_inj h1, rows_inj h2]
theorem keyOf_inj {a b : Pond} {u v : Nat} (oa : POk a) (ob : POk b) (h : keyOf a u = keyOf b v) : a = b ∧ u = v := by
  unfold keyOf at h
  obtain ⟨h1, h⟩ := List.cons.inj h
  obtain ⟨h2, h⟩ := List.cons.inj h
  obtain ⟨h3, h⟩ := List.cons.inj h
  obtain ⟨h4, _⟩ := List.cons.inj h
  have e1 : a.w = b.w := Int.ofNat.inj (Sum.inl.inj h1)
  have e2 : u = v := Int.ofNat.inj (Sum.inl.inj h2)
  have e3 : a.tables = b.tables := rows_inj (Sum.inr.inj h3)
  have e4 : a.grazed = b.grazed := rows_inj (Sum.inr.inj h4)
  have ha := oa.p1
  have hb := ob.p1
  have e5 : a.most = b.most := by
    have h1 := (oa.table (s := 0) (by omega)).len
    have h2 := (ob.table (s := 0) (by omega)).len
    rw [e3] at h1
    omega
  have e6 : a.h = b.h := by
    have h1 := (oa.wants (s := 0) (by omega)).len
    have h2 := (ob.wants (s := 0) (by omega)).len
    rw [e4] at h1
    have h3 : b.w * a.h = b.w * b.h := by rw [← e1, ← h1, h2, e1]
    exact Nat.eq_of_mul_eq_mul_left (Nat.lt_of_lt_of_le Nat.zero_lt_one ob.w1) h3
  refine ⟨?_, e2⟩
  obtain ⟨aw, ah, am, at', ag⟩ := a
  obtain ⟨bw, bh, bm, bt, bg⟩ := b
  simp only at e1 e3 e4 e5 e6
  subst e1 e3 e4 e5 e6
  rfl
/-- y years and the cells z are what the key k stands for -/
def Means (k : List (Int ⊕ List (List Int))) (y : Nat) (z : Cells) : Prop := ∃ (a : Pond) (u : Nat), POk a ∧ k = keyOf a u ∧ ((u = a.most ∧ greatest a = (y, z)) ∨ (u = 0 ∧ least a = (y, z)))
theorem Means.greatest {a : Pond} {y : Nat} {z : Cells} (o : POk a) (h : Means (keyOf a a.most) y z) : Vbecae.greatest a = (y, z) := by
  obtain ⟨b, u, ob, e, h⟩ := h
  obtain ⟨rfl, rfl⟩ := keyOf_inj o ob e
  rcases h with h | h
  · exact h.2
  · have := o.m1
    omega
theorem Means.least {a : Pond} {y : Nat} {z : Cells} (o : POk a) (h : Means (keyOf a 0) y z) : Vbecae.least a = (y, z) := by
  obtain ⟨b, u, ob, e, h⟩ := h
  obtain ⟨rfl, rfl⟩ := keyOf_inj o ob e
  rcases h with h | h
  · have := o.m1
    omega
  · exact h.2
/-- from all cells holding u, u the most or 0 -/
def End (a : Pond) (u : Nat) : Nat × Cells := rest a 0 (all a u)
theorem means_end {a : Pond} (o : POk a) {u : Nat} (h : u = a.most ∨ u = 0) : Means (keyOf a u) (End a u).1 (End a u).2 := by
  refine ⟨a, u, o, rfl, ?_⟩
  rcases h with rfl | rfl
  · exact .inl ⟨rfl, rfl⟩
  · exact .inr ⟨rfl, rfl⟩
theorem Means.end_ {a : Pond} {u y : Nat} {z : Cells} (o : POk a) (hu : u = a.most ∨ u = 0) (h : Means (keyOf a u) y z) : End a u = (y, z) := by
  rcases hu with rfl | rfl
  · exact h.greatest o
  · exact h.least o
/-- on the way to the end: years still to come -/
def Way (a : Pond) (u : Nat) (x : Cells) : Prop := (u = a.most ∧ Down a x) ∨ (u = 0 ∧ Up a x)
theorem way_start {a : Pond} (o : POk a) {u : Nat} (h : u = a.most ∨ u = 0) : Way a u (all a u) := by
  rcases h with rfl | rfl
  · exact .inl ⟨rfl, down_top o⟩
  · exact .inr ⟨rfl, up_bottom o⟩
theorem Way.ok {a : Pond} {u : Nat} {x : Cells} (h : Way a u x) : COk a x := h.elim (fun q => q.2.ok) (fun q => q.2.ok)
theorem Way.next {a : Pond} (o : POk a) {u : Nat} {x : Cells} (h : Way a u x) : Way a u (year a x) := h.elim (fun q => .inl ⟨q.1, q.2.next o⟩) (fun q => .inr ⟨q.1, q.2.next o⟩)
def left_ (a : Pond) (u : Nat) (x : Cells) : Nat := if u = 0 then a.w * a.h * a.most - x.sum else x.sum
theorem Way.lt {a : Pond} (o : POk a) {u : Nat} {x : Cells} (h : Way a u x) (n : ¬ year a x = x) : left_ a u (year a x) < left_ a u x := by
  unfold left_
  have m1 := o.m1
  rcases h with ⟨rfl, d⟩ | ⟨rfl, d⟩
  · rw [if_neg (by omega), if_neg (by omega)]
    exact d.lt o n
  · rw [if_pos rfl, if_pos rfl]
    have h1 := d.lt o n
    have h2 := (d.next o).ok.sum_le
    omega
theorem Way.rest {a : Pond} (o : POk a) {u n : Nat} {x : Cells} (h : Way a u x) (ne : ¬ year a x = x) : PM.rest a n x = PM.rest a (n + 1) (year a x) := h.elim (fun q => rest_down o q.2 ne) (fun q => rest_up o q.2 ne)
theorem end_ok {a : Pond} (o : POk a) {u : Nat} (h : u ≤ a.most) : COk a (End a u).2 := rest_ok o _ _ _ (all_ok h)
end PM
end
section
set_option Elab.async false
set_option linter.all false
namespace PM
open Vbecae
/-! ### the pond with other wants -/
def wg (a : Pond) (g : List (List Nat)) : Pond := { w := a.w, h := a.h, most := a.most, tables := a.tables, grazed := g }
theorem wg_self (a : Pond) : wg a a.grazed = a := rfl
theorem wg_grazing (a : Pond) (g : List Nat) : wg a (a.grazed.map fun _ => g) = grazing a g := rfl
/-! ### moving -/
def movedL (w h dx dy : Nat) (x : List Nat) : List Nat := (List.range (w * h)).map fun n => at_ x ((n / w + dy) % h * w + (n % w + dx) % w)
theorem moved_place {w h n dx dy : Nat} (hw : 1 ≤ w) (hh : 1 ≤ h) : (n / w + dy) % h * w + (n % w + dx) % w < w * h := by
  have h1 := Nat.mod_lt (n / w + dy) (show h > 0 by omega)
  have h2 := Nat.mod_lt (n % w + dx) (show w > 0 by omega)
  generalize (n / w + dy) % h = i at h1
  generalize (n % w + dx) % w = j at h2
  have h3 : (i + 1) * w ≤ h * w := Nat.mul_le_mul_right w h1
  rw [Nat.succ_mul, Nat.mul_comm h w] at h3
  omega
theorem moved_int (w h n dx dy : Nat) : (((n : Nat) : Int) / ((w : Nat) : Int) + ((dy : Nat) : Int)) % ((h : Nat) : Int) * ((w : Nat) : Int) + (((n : Nat) : Int) % ((w : Nat) : Int) + ((dx : Nat) : Int)) % ((w : Nat) : Int) =
    (((n / w + dy) % h * w + (n % w + dx) % w : Nat) : Int) := by
  simp only [Int.natCast_add, Int.natCast_mul, Int.natCast_ediv, Int.natCast_emod]
theorem moved_len (w h dx dy : Nat) (x : List Nat) : (movedL w h dx dy x).length = w * h := by simp [movedL]
theorem moved_cells (a : Pond) (dx dy : Nat) (x : Cells) : movedCells a dx dy x = movedL a.w a.h dx dy x := rfl
theorem div_len {w h : Nat} (hw : 1 ≤ w) : (((w * h : Nat) : Nat) : Int) / ((w : Nat) : Int) = ((h : Nat) : Int) := by
  rw [← Int.natCast_ediv, Nat.mul_div_cancel_left h (by omega)]
/-! ### the seasons of a year -/
theorem orb_season {a : Pond} (o : 1 ≤ a.tables.length) : ∀ (n : Nat) {s : Nat} {x : Cells}, s < a.tables.length → (orb a n (s, x)).1 = (s + n) % a.tables.length
  | 0, s, x, h => (Nat.mod_eq_of_lt h).symm
  | n + 1, s, x, h => by
    rw [orb_succ]
    show ((orb a n (s, x)).1 + 1) % seasons a = _
    rw [orb_season o n h]
    show ((s + n) % a.tables.length + 1) % a.tables.length = (s + (n + 1)) % a.tables.length
    rw [Nat.mod_add_mod]
    rfl
theorem turns_snoc (a : Pond) (n s : Nat) (x : Cells) : turns a (n + 1) s x = turn a (orb a n (s, x)).1 (turns a n s x) := by
  rw [← orb_cells, orb_succ, ← orb_cells]
  rfl
theorem year_snoc {a : Pond} {i : Nat} (h : i < a.tables.length) (x : Cells) : turns a (i + 1) 0 x = turn a i (turns a i 0 x) := by
  rw [turns_snoc, orb_season (by omega) i (by omega), Nat.zero_add, Nat.mod_eq_of_lt h]
theorem booked_season : ∀ (n : Nat) (s : State), (bookedN n s).season = (orb s.pond n (s.season, s.cells)).1
  | 0, s => rfl
  | n + 1, s => by
    rw [bookedN_succ, orb_succ]
    show ((bookedN n s).season + 1) % seasons (bookedN n s).pond = ((orb s.pond n (s.season, s.cells)).1 + 1) % seasons s.pond
    have hp : ∀ (n : Nat) (s : State), (bookedN n s).pond = s.pond := fun n => by
      induction n with
      | zero => intro s; rfl
      | succ n ih => intro s; rw [bookedN_succ]; exact ih s
    rw [booked_season n s, hp]
theorem booked_pondN : ∀ (n : Nat) (s : State), (bookedN n s).pond = s.pond
  | 0, s => rfl
  | n + 1, s => by
    rw [bookedN_succ]
    exact booked_pondN n s
theorem fresh_season {a : Pond} {i : Nat} (h : i < a.tables.length) (x : Cells) : (bookedN i (fresh a x)).season = i := by
  rw [booked_season]
  show (orb a i (0, x)).1 = i
  rw [orb_season (by omega) i (by omega), Nat.zero_add, Nat.mod_eq_of_lt h]
/-- a turn's grazing in the year's books -/
theorem eaten_snoc {a : Pond} {i : Nat} (h : i < a.tables.length) (x : Cells) : (bookedN (i + 1) (fresh a x)).eaten = (bookedN i (fresh a x)).eaten + (taken a i (grown a i (turns a i 0 x))).sum := by
  rw [bookedN_succ]
  show (bookedN i (fresh a x)).eaten + (taken (bookedN i (fresh a x)).pond (bookedN i (fresh a x)).season (grown (bookedN i (fresh a x)).pond (bookedN i (fresh a x)).season (bookedN i (fresh a x)).cells)).sum = _
  rw [booked_pondN, fresh_season h, bookedN_cells]
  rfl
/-! ### a course's key -/
def keyS (q : At) : List (Int ⊕ List Int) := [.inl (q.1 : Int), .inr (Vbecae.ints q.2)]
theorem keyS_inj {p q : At} (h : keyS p = keyS q) : p = q := by
  obtain ⟨h1, h2⟩ := List.cons.inj h
  obtain ⟨h2, _⟩ := List.cons.inj h2
  have e1 : p.1 = q.1 := Int.ofNat.inj (Sum.inl.inj h1)
  have e2 : p.2 = q.2 := ints_inj (Sum.inr.inj h2)
  exact Prod.ext e1 e2
end PM
end
section
set_option Elab.async false
set_option linter.all false
set_option maxRecDepth 100000
set_option maxHeartbeats 2000000
namespace L2
open PySem
/-! ### keys that are tuples of tuples: a kind of values, with the heap they stand in -/
structure VKind (prog : Program) (w : World) (K : Type) [DecidableEq K] where
  is : Heap → K → Value → Prop
  hash : K → Int
  draws : K → Nat
  deep : Nat
  one : ∀ {h : Heap} {v : Value} {x y : K}, is h x v → is h y v → x = y
  stay : ∀ {h h' : Heap} {k : K} {v : Value} {d : Addr} {o : Obj} {es : Array DictEntry} {ep : Nat}, is h k v → h.get? d = some o → o.data = .dict es ep → Heap.SameBut d h h' → is h' k v
  hashes : ∀ {A : Around} {E : Value → Shared → Prop} {s : Shared} {k : K} {v : Value} {Q : Int → Shared → Prop}, A.units + deep < cLine → is s.heap k v → Q (hash k) { s with toks := s.toks + draws k } → wpAny (model prog w) A (pyHash v) Q E s
  eqs : ∀ {A : Around} {s : Shared} {x y : K} {u v : Value}, A.units + deep < cLine → is s.heap x u → is s.heap y v → SeqAt.EqAt A s u v (decide (x = y))
  still : ∀ {A : Around} {E : Value → Shared → Prop} {s : Shared} {k : K} {v : Value} {n : Nat} {Q : Bool → Shared → Prop}, deep ≤ n → is s.heap k v → Q true s → wpAny (model prog w) A (eqIsQuiet n v) Q E s
def vInt (prog : Program) (w : World) : VKind prog w Int where
  is := fun _ i v => ∃ t, v = .int i t
  hash := hashInt
  draws := fun _ => 1
  deep := 0
  one := fun ⟨t, e⟩ ⟨u, e'⟩ => by
    rw [e] at e'
    injection e'
  stay := fun x _ _ _ => x
  hashes := fun _ ⟨t, e⟩ h => e ▸ wpAny_pyHash_int h
  eqs := fun {A s x y u v} _ ⟨t, e⟩ ⟨t', e'⟩ => by
    subst e e'
    have h := SeqAt.EqAt.int_int (A := A) (s := s) x t y t'
    rwa [show (x == y) = decide (x = y) from rfl] at h
  still := fun {A E s k v n Q} _ ⟨t, e⟩ h => by
    subst e
    rw [eqIsQuiet_byValue n rfl]
    exact wpAny_pure h
section
variable {prog : Program} {w : World} {K : Type} [DecidableEq K]
/-- the tuple at a is ks -/
def IsTupV (knd : VKind prog w K) (h : Heap) (ks : List K) (a : Addr) : Prop := ∃ its : List Value, h.IsTuple a its.toArray ∧ Paired (knd.is h) ks its
theorem pair_one {knd : VKind prog w K} {h : Heap} : ∀ {x y : List K} {vs : List Value}, Paired (knd.is h) x vs → Paired (knd.is h) y vs → x = y
  | _, _, _, .nil, .nil => rfl
  | _, _, _, .cons a b, .cons c d => by rw [knd.one a c, pair_one b d]
theorem tuple_one {h : Heap} {a : Addr} {xs ys : List Value} (hx : h.IsTuple a xs.toArray) (hy : h.IsTuple a ys.toArray) : xs = ys := by
  obtain ⟨o, e1, _, n, e2⟩ := hx
  obtain ⟨p, e3, _, m, e4⟩ := hy
  rw [e1] at e3
  cases e3
  rw [e2] at e4
  injection e4 with e5 _
  simpa using e5
theorem IsTupV.one {knd : VKind prog w K} {h : Heap} {a : Addr} {x y : List K} (hx : IsTupV knd h x a) (hy : IsTupV knd h y a) : x = y := by
  obtain ⟨xs, t1, p1⟩ := hx
  obtain ⟨ys, t2, p2⟩ := hy
  rw [tuple_one t1 t2] at p1
  exact pair_one p1 p2
theorem IsTupV.stay {knd : VKind prog w K} {h h' : Heap} {ks : List K} {a d : Addr} {o : Obj} {es : Array DictEntry} {ep : Nat} (x : IsTupV knd h ks a) (ho : h.get? d = some o) (hd : o.data = .dict es ep) (hs : Heap.SameBut d h h') : IsTupV knd h' ks a := by
  obtain ⟨its, ⟨p, e1, e2, n, e3⟩, hp⟩ := x
  have ne : a ≠ d := fun z => by
    rw [z, ho] at e1
    cases e1
    rw [hd] at e3
    cases e3
  exact ⟨its, ⟨p, (hs.2 a ne).trans e1, e2, n, e3⟩, Paired.mapP hp fun _ _ q => knd.stay q ho hd hs⟩
def hashV (knd : VKind prog w K) (ks : List K) : Int := reduceHash (Builtin.Tuple.tupleHashOf (ks.map knd.hash))
def drawsV (knd : VKind prog w K) (ks : List K) : Nat := (ks.map knd.draws).sum + 1
/-- the items' hashes, one behind another -/
theorem hash_each {knd : VKind prog w K} {A : Around} {E : Value → Shared → Prop} (hu : A.units + knd.deep < cLine) : ∀ {ks : List K} {vs : List Value} {s : Shared} {b : Array Int} {Q : Array Int → Shared → Prop}, Paired (knd.is s.heap) ks vs →
    (∀ c : Array Int, c.toList = b.toList ++ ks.map knd.hash → Q c { s with toks := s.toks + (ks.map knd.draws).sum }) → wpAny (model prog w) A (forIn vs b fun x r => do let h ← pyHash x; pure PUnit.unit; pure (ForInStep.yield (r.push h))) Q E s
  | _, _, s, b, Q, .nil, q => wpAny_pure (q b (by simp))
  | k :: ks, v :: vs, s, b, Q, .cons p r, q => by
    rw [List.forIn_cons]
    refine wpAny_bind (wpAny_bind (knd.hashes hu p (wpAny_bind (wpAny_pure (wpAny_pure ?_)))))
    refine hash_each hu (s := { s with toks := s.toks + knd.draws k }) r fun c e => ?_
    have e2 := q c (by rw [e, Array.toList_push, List.map_cons, List.append_assoc]; rfl)
    rwa [List.map_cons, List.sum_cons, ← Nat.add_assoc] at e2
theorem hash_tup {knd : VKind prog w K} {A : Around} {E : Value → Shared → Prop} {s : Shared} {ks : List K} {a : Addr} {Q : Int → Shared → Prop} (hu : A.units + (knd.deep + 1) < cLine) (hk : IsTupV knd s.heap ks a) (q : Q (hashV knd ks) { s with toks := s.toks + drawsV knd ks }) :
    wpAny (model prog w) A (pyHash (.ref a)) Q E s := by
  obtain ⟨its, ⟨o, e1, e2, n, e3⟩, hp⟩ := hk
  refine PySem.W.pyHash_slot (T := "tuple") ⟨o, e1, e2⟩ F.slot_tuple_hash F.entry_tuple_hash (F.args_tuple_hash_1 _) (beq_builtin_none _) (.inr (by omega)) ?_
  refine (show wpAny (model prog w) A.in1 (Builtin.Tuple.tupleItemsOf (.ref a) >>= _) _ E s from wpAny_bind (wpAny_tupleItemsOf e1 e3 (wpAny_bind ?_)))
  rw [← Array.forIn_toList]
  refine hash_each (knd := knd) (by show A.units + 1 + knd.deep < cLine; omega) hp fun c ec => ?_
  refine (show wpAny (model prog w) A.in1 (retInt (Builtin.Tuple.tupleHashOf c.toList)) _ E _ from wpAny_bind (wpAny_mkInt (wpAny_pure ⟨_, _, rfl, ?_⟩)))
  rw [ec]
  have e4 : s.toks + (ks.map knd.draws).sum + 1 = s.toks + drawsV knd ks := Nat.add_assoc _ _ _
  show Q (hashV knd ks) { s with toks := s.toks + (ks.map knd.draws).sum + 1 }
  rw [e4]
  exact q
/-- item by item, as far as both go, and the lengths -/
theorem each_eq : ∀ (x y : List K) (e : Nat → Bool), (∀ (j : Nat) (a b : K), x[j]? = some a → y[j]? = some b → e j = decide (a = b)) → ((List.range (min x.length y.length)).all e && x.length == y.length) = decide (x = y)
  | [], [], _, _ => by simp
  | [], _ :: _, _, _ => by simp
  | _ :: _, [], _, _ => by simp
  | a :: x, b :: y, e, h => by
    have ih := each_eq x y (fun j => e (j + 1)) fun j c d h1 h2 => h (j + 1) c d (by simpa using h1) (by simpa using h2)
    have h0 := h 0 a b rfl rfl
    rw [List.length_cons, List.length_cons, Nat.succ_min_succ, List.range_succ_eq_map, List.all_cons, List.all_map, h0]
    have e1 : (x.length + 1 == y.length + 1) = (x.length == y.length) := by simp
    rw [e1, Bool.and_assoc]
    rw [show ((List.range (min x.length y.length)).all (e ∘ Nat.succ) && x.length == y.length) = decide (x = y) from ih, Bool.eq_iff_iff, Bool.and_eq_true, decide_eq_true_eq, decide_eq_true_eq, decide_eq_true_eq, List.cons.injEq]
theorem pair_at {knd : VKind prog w K} {h : Heap} : ∀ {x : List K} {vs : List Value} {j : Nat} {k : K}, Paired (knd.is h) x vs → x[j]? = some k → ∃ v, vs[j]? = some v ∧ knd.is h k v
  | _, _, _, _, .nil, e => by simp at e
  | _, _, 0, _, .cons a _, e => by
    cases (show some _ = some _ from e)
    exact ⟨_, rfl, a⟩
  | _, _, j + 1, k, .cons _ r, e => pair_at (j := j) r (by simpa using e)
theorem eq_tup {knd : VKind prog w K} {A : Around} {s : Shared} {x y : List K} {a b : Addr} (hu : A.units + (knd.deep + 1) < cLine) (hx : IsTupV knd s.heap x a) (hy : IsTupV knd s.heap y b) : SeqAt.EqAt A s (.ref a) (.ref b) (decide (x = y)) := by
  by_cases z : a = b
  · subst z
    rw [hx.one hy, decide_eq_true rfl]
    exact SeqAt.EqAt.same _
  · obtain ⟨xs, t1, p1⟩ := hx
    obtain ⟨ys, t2, p2⟩ := hy
    have l1 : x.length = xs.length := Paired.length p1
    have l2 : y.length = ys.length := Paired.length p2
    have r := SeqAt.RcAt.tuples (A := A) (e := fun j => match x[j]?, y[j]? with
      | some c, some d => decide (c = d)
      | _, _ => false) t1 t2 (by omega) fun j h1 h2 => by
        rw [List.size_toArray] at h1 h2
        have g1 := List.getElem?_eq_getElem (show j < x.length by omega)
        have g2 := List.getElem?_eq_getElem (show j < y.length by omega)
        obtain ⟨u, e1, i1⟩ := pair_at p1 g1
        obtain ⟨v, e2, i2⟩ := pair_at p2 g2
        rw [List.getElem?_eq_getElem h1] at e1
        rw [List.getElem?_eq_getElem h2] at e2
        cases e1
        cases e2
        rw [g1, g2]
        simpa using knd.eqs (A := A.in1) (by show A.units + 1 + knd.deep < cLine; omega) i1 i2
    rw [List.size_toArray, List.size_toArray, ← l1, ← l2, each_eq x y _ fun j c d h1 h2 => by rw [h1, h2]] at r
    exact SeqAt.EqAt.of_refs z r
theorem still_tup {knd : VKind prog w K} {A : Around} {E : Value → Shared → Prop} {s : Shared} {ks : List K} {a : Addr} {n : Nat} {Q : Bool → Shared → Prop} (hn : knd.deep + 1 ≤ n) (hk : IsTupV knd s.heap ks a) (q : Q true s) : wpAny (model prog w) A (eqIsQuiet n (.ref a)) Q E s := by
  cases n with
  | zero => omega
  | succ m =>
    obtain ⟨its, ⟨o, e1, e2, l, e3⟩, hp⟩ := hk
    have ty : s.TypeIs (.ref a) "tuple" := ⟨o, e1, e2⟩
    unfold eqIsQuiet
    refine wpAny_bind (wpAny_specialOf ty F.slot_tuple_eq.lookup (show wpAny (model prog w) A (isInstance (.ref a) (.type "tuple") >>= _) Q E s from wpAny_bind (wpAny_isInstance ty isSubtype_tuple_tuple ?_)))
    rw [if_neg (by decide : ¬ (!true) = true)]
    refine wpAny_bind (wpAny_seqItems e1 e3 (wpAny_bind ?_))
    refine (show wpAny (model prog w) A (forIn its.toArray _ _) _ E s from ?_)
    rw [← Array.forIn_toList]
    refine wpAny_forIn_list _ (fun rest r s' => r.1 = none ∧ s' = s ∧ ∃ left : List K, Paired (knd.is s.heap) left rest) _ ?_ ?_ _ _ ⟨rfl, rfl, ks, by simpa using hp⟩
    · rintro v rest r s' ⟨_, rfl, left, pr⟩
      cases pr with
      | cons p1 pr =>
        refine wpAny_bind (knd.still (show knd.deep ≤ m by omega) p1 ?_)
        rw [if_neg (by decide : ¬ (!true) = true)]
        exact wpAny_pure ⟨rfl, rfl, _, pr⟩
    · rintro ⟨r1, r2⟩ s' ⟨e4, rfl, _⟩
      cases (show r1 = none from e4)
      exact wpAny_pure q
/-- tuples of a kind, as a kind -/
def vTup (knd : VKind prog w K) : VKind prog w (List K) where
  is := fun h ks v => ∃ a, v = .ref a ∧ IsTupV knd h ks a
  hash := hashV knd
  draws := drawsV knd
  deep := knd.deep + 1
  one := fun ⟨a, e, hx⟩ ⟨b, e', hy⟩ => by
    subst e
    cases e'
    exact hx.one hy
  stay := fun ⟨a, e, x⟩ ho hd hs => ⟨a, e, x.stay ho hd hs⟩
  hashes := fun hu ⟨a, e, hk⟩ h => e ▸ hash_tup hu hk h
  eqs := fun hu ⟨a, e, hx⟩ ⟨b, e', hy⟩ => by
    subst e e'
    exact eq_tup hu hx hy
  still := fun hn ⟨a, e, hk⟩ h => e ▸ still_tup hn hk h
/-- ints, and tuples of a kind, as a kind -/
def vOr (knd : VKind prog w K) : VKind prog w (Int ⊕ List K) where
  is := fun h k v => match k with
    | .inl i => (vInt prog w).is h i v
    | .inr l => (vTup knd).is h l v
  hash := fun k => match k with
    | .inl i => (vInt prog w).hash i
    | .inr l => (vTup knd).hash l
  draws := fun k => match k with
    | .inl i => (vInt prog w).draws i
    | .inr l => (vTup knd).draws l
  deep := knd.deep + 1
  one := fun {h v x y} hx hy => by
    cases x with
    | inl i =>
      cases y with
      | inl j => rw [(vInt prog w).one (h := h) hx hy]
      | inr l =>
        obtain ⟨a, rfl, _⟩ := hy
        obtain ⟨t, e⟩ := hx
        cases e
    | inr l =>
      cases y with
      | inl j =>
        obtain ⟨a, rfl, _⟩ := hx
        obtain ⟨t, e⟩ := hy
        cases e
      | inr m => rw [(vTup knd).one (h := h) hx hy]
  stay := fun {h h' k v d o es ep} x ho hd hs => by
    cases k with
    | inl i => exact x
    | inr l => exact (vTup knd).stay (k := l) x ho hd hs
  hashes := fun {A E s k v Q} hu hk h => by
    cases k with
    | inl i => exact (vInt prog w).hashes (k := i) (by show A.units + 0 < cLine; omega) hk h
    | inr l => exact (vTup knd).hashes (k := l) hu hk h
  eqs := fun {A s x y u v} hu hx hy => by
    cases x with
    | inl i =>
      cases y with
      | inl j =>
        have r := (vInt prog w).eqs (A := A) (x := i) (y := j) (by show A.units + 0 < cLine; omega) hx hy
        rwa [show decide ((Sum.inl i : Int ⊕ List K) = Sum.inl j) = decide (i = j) from decide_eq_decide.mpr ⟨Sum.inl.inj, congrArg _⟩]
      | inr l =>
        obtain ⟨t, rfl⟩ := hx
        obtain ⟨a, rfl, its, tp, _⟩ := hy
        rw [show decide ((Sum.inl i : Int ⊕ List K) = Sum.inr l) = false from decide_eq_false (fun z => nomatch z)]
        exact SeqAt.EqAt.int_tuple i t tp (by omega)
    | inr l =>
      cases y with
      | inl j =>
        obtain ⟨t, rfl⟩ := hy
        obtain ⟨a, rfl, its, tp, _⟩ := hx
        rw [show decide ((Sum.inr l : Int ⊕ List K) = Sum.inl j) = false from decide_eq_false (fun z => nomatch z)]
        exact SeqAt.EqAt.tuple_int j t tp (by omega)
      | inr m =>
        have r := (vTup knd).eqs (A := A) (x := l) (y := m) hu hx hy
        rwa [show decide ((Sum.inr l : Int ⊕ List K) = Sum.inr m) = decide (l = m) from decide_eq_decide.mpr ⟨Sum.inr.inj, congrArg _⟩]
  still := fun {A E s k v n Q} hn hk h => by
    cases k with
    | inl i => exact (vInt prog w).still (k := i) (Nat.zero_le _) hk h
    | inr l => exact (vTup knd).still (k := l) hn hk h
/-- tuples of a kind, as a dict's keys -/
def hTup (knd : VKind prog w K) (hd : knd.deep ≤ 7) : HeapKind prog w (List K) where
  is := IsTupV knd
  hash := hashV knd
  draws := drawsV knd
  room := fun A => A.units + (knd.deep + 1) < cLine
  inj := IsTupV.one
  keeps := IsTupV.stay
  pyHash := hash_tup
  eqBool := fun hu hx hy h => eq_tup hu hx hy prog w _ _ h
  quiet := fun hk h => still_tup (by omega) hk h
end
end L2
end
section
set_option Elab.async false
set_option linter.all false
set_option maxRecDepth 100000
set_option maxHeartbeats 2000000
namespace L2
open PySem PySem.Spec PyProof.Rows
/-! ### keys of the abstract heap -/
abbrev AKey (K : Type) := Hp → K → V → Prop
def aInt : AKey Int := fun _ i v => v = .int i
def aTup {K : Type} (r : AKey K) : AKey (List K) := fun H ks v => ∃ (b : Addr) (vs : List V), v = .ref b ∧ H b = some (.tup vs) ∧ Paired (r H) ks vs
def aOr {K : Type} (r : AKey K) : AKey (Int ⊕ List K) := fun H k v => match k with
  | .inl i => v = .int i
  | .inr l => aTup r H l v
/-- the tuples stay -/
def Tups (H H' : Hp) : Prop := ∀ b ys, H b = some (.tup ys) → H' b = some (.tup ys)
def AMono {K : Type} (r : AKey K) : Prop := ∀ (H H' : Hp) (k : K) (v : V), Tups H H' → r H k v → r H' k v
theorem mono_int : AMono aInt := fun _ _ _ _ _ h => h
theorem mono_tup {K : Type} {r : AKey K} (m : AMono r) : AMono (aTup r) := fun H H' _ _ t ⟨b, vs, e, h, p⟩ => ⟨b, vs, e, t _ _ h, Paired.mapP p fun x y q => m H H' x y t q⟩
theorem mono_or {K : Type} {r : AKey K} (m : AMono r) : AMono (aOr r) := fun H H' k v t h => by
  cases k with
  | inl i => exact h
  | inr l => exact mono_tup m H H' l v t h
def Conc (P : Program) (w : World) {K : Type} [DecidableEq K] (r : AKey K) (knd : VKind P w K) : Prop := ∀ (H : Hp) (h : Heap) (k : K) (v : V) (u : Value), HOk P w H h → r H k v → RelV v u → knd.is h k u
section
variable {P : Program} {w : World}
theorem conc_int : Conc P w aInt (vInt P w) := fun H h k v u _ e r => by
  have e : v = .int k := e
  subst e
  exact r
theorem conc_items {K : Type} [DecidableEq K] {r : AKey K} {knd : VKind P w K} (c : Conc P w r knd) {H : Hp} {h : Heap} (ok : HOk P w H h) : ∀ {ks : List K} {vs : List V} {us : List Value}, Paired (r H) ks vs → Vals vs us → Paired (knd.is h) ks us
  | _, _, _, .nil, .nil => .nil
  | _, _, _, .cons a b, .cons e t => .cons (c H h _ _ _ ok a e) (conc_items c ok b t)
theorem conc_tupA {K : Type} [DecidableEq K] {r : AKey K} {knd : VKind P w K} (c : Conc P w r knd) {H : Hp} {h : Heap} (ok : HOk P w H h) {ks : List K} {b : Addr} (q : aTup r H ks (.ref b)) : IsTupV knd h ks b := by
  obtain ⟨b', vs, e, hb, p⟩ := q
  cases e
  obtain ⟨_, its, rv, tp⟩ := (show ObjOk P w H h b (.tup vs) from ok b _ hb)
  exact ⟨its, tp, conc_items c ok p rv⟩
theorem conc_tup {K : Type} [DecidableEq K] {r : AKey K} {knd : VKind P w K} (c : Conc P w r knd) : Conc P w (aTup r) (vTup knd) := fun H h k v u ok q rv => by
  obtain ⟨b, vs, e, hb, p⟩ := id q
  subst e
  have e : u = Value.ref b := rv
  subst e
  exact ⟨b, rfl, conc_tupA c ok q⟩
theorem conc_or {K : Type} [DecidableEq K] {r : AKey K} {knd : VKind P w K} (c : Conc P w r knd) : Conc P w (aOr r) (vOr knd) := fun H h k v u ok q rv => by
  cases k with
  | inl i => exact conc_int H h i v u ok q rv
  | inr l => exact conc_tup c H h l v u ok q rv
end
/-! ### a dict with such keys -/
section
variable {K : Type} [DecidableEq K]
def DX (hash : K → Int) (a : Addr) (xs : List (K × Addr × V)) : Heap → Prop := fun h => xs.length ≤ sizeLine ∧ (a == sysModules) = false ∧
  ∃ raw : List (K × Addr × Value), Paired (fun (p : K × Addr × V) (q : K × Addr × Value) => p.1 = q.1 ∧ p.2.1 = q.2.1 ∧ RelV p.2.2 q.2.2) xs raw ∧
  ∃ o es ep, h.get? a = some o ∧ o.ExactDict ∧ o.data = .dict es ep ∧ es.toList = raw.map (fun x => (⟨hash x.1, .ref x.2.1, x.2.2⟩ : DictEntry)) ∧ (raw.map (·.1)).Nodup
def getX (xs : List (K × Addr × V)) (k : K) : Option V := (xs.find? fun x => decide (x.1 = k)).map (·.2.2)
abbrev RawX : List (K × Addr × V) → List (K × Addr × Value) → Prop := Paired (fun (p : K × Addr × V) (q : K × Addr × Value) => p.1 = q.1 ∧ p.2.1 = q.2.1 ∧ RelV p.2.2 q.2.2)
theorem RawX.val {xs : List (K × Addr × V)} {raw : List (K × Addr × Value)} (r : RawX xs raw) (k : K) : RelO (getX xs k) ((atKey raw k).map (·.2)) := by
  induction r with
  | nil => exact True.intro
  | @cons p q ps qs h t ih =>
    obtain ⟨h1, _, h2⟩ := h
    by_cases e : p.1 = k
    · have e' : q.1 = k := h1.symm.trans e
      have b : atKey (q :: qs) k = some q.2 := by simp [atKey, List.find?_cons, e']
      have c : getX (p :: ps) k = some p.2.2 := by simp [getX, List.find?_cons, e]
      rw [b, c]
      exact h2
    · have e' : ¬ q.1 = k := fun z => e (h1.trans z)
      have b : atKey (q :: qs) k = atKey qs k := by simp [atKey, List.find?_cons, e']
      have c : getX (p :: ps) k = getX ps k := by simp [getX, List.find?_cons, e]
      rw [b, c]
      exact ih
theorem RawX.mem {xs : List (K × Addr × V)} {raw : List (K × Addr × Value)} (r : RawX xs raw) : ∀ q ∈ raw, ∃ p ∈ xs, p.1 = q.1 ∧ p.2.1 = q.2.1 := by
  induction r with
  | nil => intro q hq; exact nomatch hq
  | @cons p q ps qs h t ih =>
    intro z hz
    rcases List.mem_cons.mp hz with e | hz
    · subst e
      exact ⟨p, List.mem_cons_self .., h.1, h.2.1⟩
    · obtain ⟨y, hy, e⟩ := ih z hz
      exact ⟨y, List.mem_cons_of_mem _ hy, e⟩
theorem DX.stable {hash : K → Int} {a : Addr} {xs : List (K × Addr × V)} (h1 h2 : Heap) (d : DX hash a xs h1) (k : ∀ o, h1.get? a = some o → h2.get? a = some o) : DX hash a xs h2 := by
  obtain ⟨z, y, raw, r, o, es, ep, e, c⟩ := d
  exact ⟨z, y, raw, r, o, es, ep, k _ e, c⟩
end
/-- the dict at a, its keys tuples that stand there -/
def XDict {K : Type} [DecidableEq K] (r : AKey K) (hash : List K → Int) (H : Hp) (a : Addr) (xs : List (List K × Addr × V)) : Prop := H a = some (.ext (DX hash a xs)) ∧ ∀ x ∈ xs, aTup r H x.1 (.ref x.2.1)
section
variable {K : Type} [DecidableEq K] {r : AKey K} {hash : List K → Int} {X : Cx} {knd : VKind X.prog X.w K} {pins : List (Addr × Obj)} {σ : St} {H : Hp} {s : Shared} {a b : Addr} {xs : List (List K × Addr × V)} {k : List K} {A : Around} {E : Value → Shared → Prop}
/-- what a kind of key is -/
structure XKind (X : Cx) (r : AKey K) (hash : List K → Int) (knd : VKind X.prog X.w K) : Prop where
  cn : Conc X.prog X.w r knd
  deep : knd.deep ≤ 7
  hh : hash = hashV knd
theorem x_ent (C : XKind X r hash knd) : (fun (x : List K × Addr × Value) => (⟨hash x.1, .ref x.2.1, x.2.2⟩ : DictEntry)) = entryOfKey (hTup knd C.deep) := by
  funext x
  have e : hash x.1 = hashV knd x.1 := congrFun C.hh x.1
  show (⟨hash x.1, .ref x.2.1, x.2.2⟩ : DictEntry) = ⟨hashV knd x.1, .ref x.2.1, x.2.2⟩
  rw [e]
theorem x_of (C : XKind X r hash knd) (I : Inv X pins σ H s) (D : XDict r hash H a xs) : xs.length ≤ sizeLine ∧ (a == sysModules) = false ∧ ∃ raw, RawX xs raw ∧ s.heap.DictOfH (hTup knd C.deep) a raw := by
  obtain ⟨⟨z, y, raw, rw', o, es, ep, h1, h2, h3, h4, h5⟩, _, _⟩ := (show ObjOk X.prog X.w H s.heap a (.ext (DX hash a xs)) from I.hok a _ D.1)
  refine ⟨z, y, raw, rw', o, es, ep, h1, h2, h3, ?_, fun q hq => ?_, h5⟩
  · rw [h4, x_ent C]
  · obtain ⟨p, hp, e1, e2⟩ := RawX.mem rw' q hq
    rw [← e1, ← e2]
    exact conc_tupA C.cn I.hok (D.2 p hp)
theorem x_room (C : XKind X r hash knd) (hu : A.units + 20 < cLine) : (hTup knd C.deep).room A.in1 := by
  show A.units + 1 + (knd.deep + 1) < cLine
  have := C.deep
  omega
theorem x_getItem {v : V} {Q : Value → Shared → Prop} (C : XKind X r hash knd) (hu : A.units + 20 < cLine) (I : Inv X pins σ H s) (D : XDict r hash H a xs) (hk : aTup r H k (.ref b)) (g : getX xs k = some v) (h : ∀ w' s', Inv X pins σ H s' → RelV v w' → Q w' s') :
    wpAny (model X.prog X.w) A (getItem (.ref a) (.ref b)) Q E s := by
  obtain ⟨z, hd, raw, rel, dd⟩ := x_of C I D
  obtain ⟨w', hw, rw'⟩ := RelO.some_of (v := v) (o := (atKey raw k).map (·.2)) (by rw [← g]; exact RawX.val rel k)
  obtain ⟨p, hp, hp2⟩ := Option.map_eq_some_iff.mp hw
  refine wpAny_getItem_heap (x_room C hu) (conc_tupA C.cn I.hok hk) dd hp ?_
  rw [hp2]
  exact h w' _ (I.tok _) rw'
theorem x_in {Q : Value → Shared → Prop} (C : XKind X r hash knd) (hu : A.units + 20 < cLine) (I : Inv X pins σ H s) (D : XDict r hash H a xs) (hk : aTup r H k (.ref b)) (h : ∀ s', Inv X pins σ H s' → Q (.bool (getX xs k).isSome) s') :
    wpAny (model X.prog X.w) A (compareOp .In (.ref b) (.ref a)) Q E s := by
  obtain ⟨z, hd, raw, rel, dd⟩ := x_of C I D
  refine wpAny_in_heap (x_room C hu) (conc_tupA C.cn I.hok hk) hd dd ?_
  have q := (RawX.val rel k).isSome_eq
  rw [Option.isSome_map] at q
  rw [← q]
  exact h _ (I.tok _)
theorem x_notIn {Q : Value → Shared → Prop} (C : XKind X r hash knd) (hu : A.units + 20 < cLine) (I : Inv X pins σ H s) (D : XDict r hash H a xs) (hk : aTup r H k (.ref b)) (h : ∀ s', Inv X pins σ H s' → Q (.bool (!(getX xs k).isSome)) s') :
    wpAny (model X.prog X.w) A (compareOp .NotIn (.ref b) (.ref a)) Q E s := by
  obtain ⟨z, hd, raw, rel, dd⟩ := x_of C I D
  refine wpAny_notIn_heap (x_room C hu) (conc_tupA C.cn I.hok hk) hd dd ?_
  have q := (RawX.val rel k).isSome_eq
  rw [Option.isSome_map] at q
  rw [← q]
  exact h _ (I.tok _)
theorem ext_ok {P : Program} {w : World} {H' : Hp} {h' : Heap} (d : DX hash a xs h') : ObjOk P w H' h' a (.ext (DX hash a xs)) := by
  have d' := d
  obtain ⟨_, _, _, _, o, _, _, e, _⟩ := d'
  exact ⟨d, ⟨o, e⟩, fun h1 h2 => DX.stable h1 h2⟩
/-- d[k] = v, k not there -/
theorem x_setItem {v : V} {u : Value} {Q : Unit → Shared → Prop} (C : XKind X r hash knd) (hu : A.units + 20 < cLine) (I : Inv X pins σ H s) (D : XDict r hash H a xs) (hk : aTup r H k (.ref b)) (g : getX xs k = none) (hl : xs.length < sizeLine) (rv : RelV v u)
    (h : ∀ s', Inv X pins σ (upd H a (.ext (DX hash a (xs ++ [(k, b, v)])))) s' → Q () s') : wpAny (model X.prog X.w) A (setItem (.ref a) (.ref b) u) Q E s := by
  obtain ⟨z, hd, raw, rel, dd⟩ := x_of C I D
  have hz : raw.length ≤ sizeLine := by rw [← Paired.length rel]; exact z
  have hn : atKey raw k = none := by
    have q := (RawX.val rel k).isSome_eq
    rw [g, Option.isSome_map] at q
    cases e : atKey raw k with
    | none => rfl
    | some p =>
      rw [e] at q
      cases q
  refine wpAny_setItem_heap (hsz := hz) (x_room C hu) (conc_tupA C.cn I.hok hk) dd fun h' dd' hs => h _ ?_
  rw [storedH_new hn] at dd'
  obtain ⟨q, es, ep, hq, h2, h3, h4, _, h5⟩ := dd'
  refine d_write I (by rw [D.1]; exact True.intro) hs ⟨q, hq⟩ (ext_ok ⟨?_, hd, raw ++ [(k, b, u)], Paired.snoc rel ⟨rfl, rfl, rv⟩, q, es, ep, hq, h2, h3, ?_, h5⟩)
  · rw [List.length_append]
    exact hl
  · rw [h4, x_ent C]
end
/-- d[y] -/
def tXGet {K : Type} [DecidableEq K] (r : AKey K) (hash : List K → Int) (td ty : TE) : TE := fun σ H Q => td σ H fun x H1 => ty σ H1 fun y H2 => ∃ a b xs k v, x = .ref a ∧ y = .ref b ∧ XDict r hash H2 a xs ∧ aTup r H2 k (.ref b) ∧ getX xs k = some v ∧ Q v H2
def tXIn {K : Type} [DecidableEq K] (r : AKey K) (hash : List K → Int) (ty td : TE) : TE := fun σ H Q => ty σ H fun y H1 => td σ H1 fun x H2 => ∃ a b xs k, x = .ref a ∧ y = .ref b ∧ XDict r hash H2 a xs ∧ aTup r H2 k (.ref b) ∧ Q (.bl (getX xs k).isSome) H2
def tXNotIn {K : Type} [DecidableEq K] (r : AKey K) (hash : List K → Int) (ty td : TE) : TE := fun σ H Q => ty σ H fun y H1 => td σ H1 fun x H2 => ∃ a b xs k, x = .ref a ∧ y = .ref b ∧ XDict r hash H2 a xs ∧ aTup r H2 k (.ref b) ∧ Q (.bl (!(getX xs k).isSome)) H2
def sXPut {K : Type} [DecidableEq K] (r : AKey K) (hash : List K → Int) (td ty tv : TE) : TS := fun D σ H => tv σ H fun v H1 => td σ H1 fun x H2 => ty σ H2 fun y H3 => ∃ a b xs k, x = .ref a ∧ y = .ref b ∧ XDict r hash H3 a xs ∧ aTup r H3 k (.ref b) ∧
  getX xs k = none ∧ xs.length < sizeLine ∧ D.nx σ (upd H3 a (.ext (DX hash a (xs ++ [(k, b, v)]))))
def tXNew {K : Type} [DecidableEq K] (hash : List K → Int) : TE := fun _ H Q => ∀ p, H p = none → Q (.ref p) (upd H p (.ext (DX hash p [])))
section
variable {K : Type} [DecidableEq K] {r : AKey K} {hash : List K → Int} {X : Cx} {knd : VKind X.prog X.w K} {o i e value : Expr} {pos pos' : Pos} {td ty tv : TE}
theorem pe_xget (C : XKind X r hash knd) (hu : X.A.units + 20 < cLine) (ho : PE X o td) (hi : PE X i ty) (hs : NoSl i) : PE X (.Subscript o i pos) (tXGet r hash td ty) := by
  intro pins s σ H Q I h
  refine subD_of PySem.F.slot_dict_getitem.lookup hs (thn (ho pins s σ H _ I h) fun u s1 ⟨x, H1, I1, rx, q1⟩ => thn (hi pins s1 σ H1 _ I1 q1) fun iv s2 ⟨y, H2, I2, ry, a, b, xs, k, v, ex, ey, D, hk, g, q2⟩ => ?_)
  subst ex ey
  obtain rfl : u = Value.ref a := rx
  obtain rfl : iv = Value.ref b := ry
  obtain ⟨_, _, raw, _, dd⟩ := x_of C I2 D
  exact ⟨dd.typeIs, x_getItem C hu I2 D hk g fun w' s3 I3 rw' => ⟨v, H2, I3, rw', q2⟩⟩
theorem pc_xin (C : XKind X r hash knd) (hu : X.A.units + 20 < cLine) (hi : PE X i ty) (ho : PE X o td) : PC X .In i o (tXIn r hash ty td) := by
  intro pins s σ H Q I h
  refine thn (hi pins s σ H _ I h) fun iv s1 ⟨y, H1, I1, ry, q1⟩ => thn (ho pins s1 σ H1 _ I1 q1) fun u s2 ⟨x, H2, I2, rx, a, b, xs, k, ex, ey, D, hk, q2⟩ => ?_
  subst ex ey
  obtain rfl : u = Value.ref a := rx
  obtain rfl : iv = Value.ref b := ry
  exact x_in C hu I2 D hk fun s3 I3 => ⟨.bl _, H2, I3, rfl, q2⟩
theorem pc_xnotin (C : XKind X r hash knd) (hu : X.A.units + 20 < cLine) (hi : PE X i ty) (ho : PE X o td) : PC X .NotIn i o (tXNotIn r hash ty td) := by
  intro pins s σ H Q I h
  refine thn (hi pins s σ H _ I h) fun iv s1 ⟨y, H1, I1, ry, q1⟩ => thn (ho pins s1 σ H1 _ I1 q1) fun u s2 ⟨x, H2, I2, rx, a, b, xs, k, ex, ey, D, hk, q2⟩ => ?_
  subst ex ey
  obtain rfl : u = Value.ref a := rx
  obtain rfl : iv = Value.ref b := ry
  exact x_notIn C hu I2 D hk fun s3 I3 => ⟨.bl _, H2, I3, rfl, q2⟩
theorem ps_xput (C : XKind X r hash knd) (hu : X.A.units + 20 < cLine) (ho : PE X o td) (hi : PE X i ty) (hv : PE X value tv) (hs : swapsWith value (some (.Subscript o i pos')) pos.line X.env = pure false) :
    PS X (.Assign [.Subscript o i pos'] value pos) (sXPut r hash td ty tv) := by
  intro pins s σ H D I h
  refine wpAny_Assign_Subscript (thn (hv pins s σ H _ I h) fun rr s1 ⟨v, H1, I1, rv, q1⟩ => thn (ho pins s1 σ H1 _ I1 q1) fun u s2 ⟨x, H2, I2, rx, q2⟩ => thn (hi pins s2 σ H2 _ I2 q2) fun iv s3 ⟨y, H3, I3, ry, a, b, xs, k, ex, ey, DD, hk, g, hl, q3⟩ => ?_) hs
  subst ex ey
  obtain rfl : u = Value.ref a := rx
  obtain rfl : iv = Value.ref b := ry
  exact x_setItem C hu I3 DD hk g hl rv fun s4 I4 => ⟨σ, _, I4, q3⟩
theorem dx_empty {P : Program} {w : World} {H : Hp} (h : Heap) (hb : sysModules < h.objs.size) : ObjOk P w H (h.push { cls := .type "dict", data := .dict #[] }) h.objs.size (.ext (DX hash h.objs.size [])) :=
  ext_ok ⟨Nat.zero_le _, beq_eq_false_iff_ne.mpr (Ne.symm (Nat.ne_of_lt hb)), [], .nil, _, #[], 0, Heap.get?_push_size _ rfl, ⟨rfl, rfl, rfl⟩, rfl, rfl, List.nodup_nil⟩
theorem pe_xnew : PE X (.Dict [] [] pos) (tXNew hash) := fun pins s σ H Q I h =>
  wpAny_Dict_empty ⟨.ref s.heap.objs.size, _, I.laid (a := s.heap.objs.size) (o := .ext (DX hash s.heap.objs.size [])) (t' := s.toks) (fun _ _ q => Heap.get?_push_of_some _ q) (Nat.le_refl _) (dx_empty s.heap I.big), rfl, h _ (I.hok.fresh (Nat.le_refl _))⟩
end
/-! ### the two kinds that the program has -/
abbrev SK := List (Int ⊕ List Int)
abbrev KK := List (Int ⊕ List (List Int))
def hI : Int → Int := (hashInt ·)
def hT {K : Type} (h : K → Int) (ks : List K) : Int := reduceHash (Builtin.Tuple.tupleHashOf (ks.map h))
def hO {K : Type} (h : K → Int) : Int ⊕ List K → Int := fun k => match k with
  | .inl i => hI i
  | .inr l => hT h l
def hashS : SK → Int := hT (hO hI)
def hashK : KK → Int := hT (hO (hT hI))
abbrev rS : AKey (Int ⊕ List Int) := aOr aInt
abbrev rK : AKey (Int ⊕ List (List Int)) := aOr (aTup aInt)
theorem kindS (X : Cx) : XKind X rS hashS (vOr (vInt X.prog X.w)) := ⟨conc_or conc_int, (by show 0 + 1 ≤ 7; decide), by
  funext ks
  show reduceHash (Builtin.Tuple.tupleHashOf (ks.map _)) = reduceHash (Builtin.Tuple.tupleHashOf (ks.map _))
  congr 2⟩
theorem kindK (X : Cx) : XKind X rK hashK (vOr (vTup (vInt X.prog X.w))) := ⟨conc_or (conc_tup conc_int), (by show 0 + 1 + 1 ≤ 7; decide), by
  funext ks
  show reduceHash (Builtin.Tuple.tupleHashOf (ks.map _)) = reduceHash (Builtin.Tuple.tupleHashOf (ks.map _))
  congr 2⟩
end L2
end
section
set_option Elab.async false
set_option linter.all false
set_option maxRecDepth 100000
set_option maxHeartbeats 2000000
namespace L2
open PySem PySem.Spec PyProof.Rows
theorem paired_of {α β : Type} {F : α → β → Prop} : ∀ {l1 : List α} {l2 : List β}, l1.length = l2.length → (∀ (i : Nat) (a : α) (b : β), l1[i]? = some a → l2[i]? = some b → F a b) → Paired F l1 l2
  | [], [], _, _ => .nil
  | a :: l1, b :: l2, hl, h => .cons (h 0 a b rfl rfl) (paired_of (by simpa using hl) fun i x y hx hy => h (i + 1) x y (by simpa using hx) (by simpa using hy))
  | [], _ :: _, hl, _ => by simp at hl
  | _ :: _, [], hl, _ => by simp at hl
theorem items_vals {acc : Array Value} {n : Nat} (h : ItemsOf (fun i v => ∃ t, v = .int ((0 : Int) + (i : Int) * 1) t) acc n) : Vals ((List.range n).map fun (m : Nat) => V.int (m : Int)) acc.toList := by
  obtain ⟨h1, h2⟩ := h
  refine paired_of (by simpa using h1.symm) fun i a b ha hb => ?_
  have hi : i < n := by
    have := (List.getElem?_eq_some_iff.mp ha).1
    simpa using this
  have e : V.int (i : Int) = a := by
    simp [hi] at ha
    exact ha
  obtain ⟨t, ht⟩ := h2 i b (by simpa using hb)
  subst e
  exact ⟨t, by rw [ht]; congr 1; omega⟩
section
variable {X : Cx}
/-- xs[i] by values -/
theorem get_list : PGet X (rIxL X.K) := by
  intro pins s σ H x y v u Q I rx ry h
  obtain ⟨p, xs, i, z, rfl, rfl, hq, he, q⟩ := h
  cases rx
  obtain ⟨t, rfl⟩ := ry
  obtain ⟨its, r, pl, hz⟩ := I.list hq
  obtain ⟨j, h1, h2, h3, h4, h5⟩ := atI_get he
  obtain ⟨w, ew, rw'⟩ := r.get h2
  have hl := r.length
  have hn := line63
  have fin : EP X pins σ Q w s := ⟨z, H, I, rw', q⟩
  by_cases h0 : 0 ≤ i
  · have hj : i.toNat = j := by
      rw [seqIndex_of h0 h5] at h1
      exact Option.some.inj h1
    exact wpAny_getItem_list pl.isList h0 (by omega) (by rw [hj]; simpa using ew) fin
  · have hj : (i + (its.toArray.size : Int)).toNat = j := by
      rw [seqIndex_neg (by omega) h4] at h1
      rw [List.size_toArray, ← hl]
      exact Option.some.inj h1
    exact wpAny_getItem_list_neg pl.isList (by omega) (by rw [List.size_toArray] <;> omega) (by omega) (by rw [hj]; simpa using ew) fin
/-- act(e, ..), act a name that holds a def -/
def tCallV (X : Cx) (k : Nat) (tf : TE) (t : TA) : TE := fun σ H Q => tf σ H fun v H0 => ∃ (f : Addr) (fd : FuncData) (ps : List Str) (sp : Sp), v = .ref f ∧ FnOk X.prog X.w X.K X.mg X.base CX0 k f fd ps sp ∧
  PySem.W.keepIn X.K (.ref f) = true ∧ Binds X.K fd ps [] ∧ t σ H0 fun vs H1 => sp (vs ++ []) H1 Q E0
theorem pe_callV {k : Nat} {x : Str} {p pos : Pos} {e : Expr} {es : List Expr} {tf : TE} {t : TA} (hf : PE X (.Name x p) tf) (hr : Room k X.A) (ha : PA X (e :: es) t)
    (he : starEach (e :: es) X.env = (false, eval e X.env) :: starEach es X.env := by rfl) (hpl : (backTo pos (starEach es X.env)).any (·.1) = false := by rfl) :
    PE X (.Call (.Name x p) (e :: es) [] pos) (tCallV X k tf t) := by
  intro pins s σ H Q I h
  refine wpAny_Call_Name_kw (thn (hf pins s σ H _ I h) fun u s0 ⟨v, H0, I0, rv, f, fd, ps, sp, ev, F, hk, hb, q⟩ => ?_)
  subst ev
  obtain rfl : u = Value.ref f := rv
  refine PySem.W.callWith_K (h₀ := X.base) I.ok.mod.kin hk (thn (ha pos pins s0 σ H0 _ I0 q) fun us s1 ⟨vs, H1, I1, r, q⟩ => ⟨I1.kIn, ?_⟩) he hpl
  exact run_fn F hr hb .nil pass0 I1 r q
/-- range(j) as a value -/
theorem call_rangeV : CallR X (.type "range") (fun xs H Q => ∃ j : Int, xs = [.int j] ∧ ∀ a, H a = none → Q (.ref a) (upd H a (.rng 0 j))) := by
  intro pins s σ H xs us Q I r h
  obtain ⟨j, rfl, q⟩ := h
  obtain ⟨u, rfl, ru⟩ := Vals.one r
  obtain ⟨t, rfl⟩ := ru
  refine call_range_1 ⟨.ref _, _, I.laid (a := s.heap.objs.size) (o := .rng 0 j) (fun b o e => Heap.get?_push_of_some _ e) (Nat.le_refl _) ⟨_, _, _, Heap.get?_push_size _ rfl⟩, rfl, q _ I.fresh⟩
/-- list(range object) -/
theorem call_listR (hc : X.calm = true) : CallR X (.type "list") (fun xs H Q => ∃ (a : Addr) (j : Nat), xs = [.ref a] ∧ H a = some (.rng 0 (j : Int)) ∧ j ≤ sizeLine ∧ ∀ l, H l = none → Q (.ref l) (upd H l (.lst ((List.range j).map fun (n : Nat) => V.int (n : Int))))) := by
  intro pins s σ H xs us Q I r h
  obtain ⟨a, j, rfl, ha, hz, q⟩ := h
  obtain ⟨u, rfl, ru⟩ := Vals.one r
  cases ru
  obtain ⟨t, u, v, e⟩ := I.hok a _ ha
  have hz' : j ≤ 2 ^ 24 := hz
  refine call_list_range (n := j) (I.ok.hd hc) (show IsRange s.heap a 0 (j : Int) 1 t u v from e) (small_one (by omega) (by omega) (by omega) (by omega)) (by rw [rangeSize_one]; split <;> omega) hz' fun h' tk acc c hk hl hi => ?_
  refine ⟨.ref s.heap.objs.size, _, I.laid (a := s.heap.objs.size) (o := .lst ((List.range j).map fun (n : Nat) => V.int (n : Int))) hk (Nat.le_refl _) ⟨by simpa using hz, acc.toList, c, ?_, by simpa using hl⟩, rfl, q _ I.fresh⟩
  exact items_vals hi
end

/-! ### readings in short -/
/-- o.f, o a name -/
theorem r_fld {K : PySem.W.Frag} {i : Nat} {f : Str} {σ : St} {H : Hp} {Q : V → Prop} {p C dx : Addr} {fs : List (Str × V)} {v : V} (hs : σ[i]? = some (some (.ref p))) (h : H p = some (.ins C dx fs)) (c : Cls K C) (n : NoAttr K C f) (l : fs.lookup f = some v) (q : Q v) :
    ∃ x, σ[i]? = some (some x) ∧ ∃ a D d gs u, x = V.ref a ∧ H a = some (.ins D d gs) ∧ Cls K D ∧ NoAttr K D f ∧ gs.lookup f = some u ∧ Q u := ⟨_, hs, p, C, dx, fs, v, rfl, h, c, n, l, q⟩
theorem r_one {α : Type} {x : α} {P Q : α → Prop} (h : P x) (q : Q x) : ∃ x, P x ∧ Q x := ⟨x, h, q⟩
theorem r_two {α β : Type} {x : α} {y : β} {P R Q : α → β → Prop} (h : P x y) (g : R x y) (q : Q x y) : ∃ x y, P x y ∧ R x y ∧ Q x y := ⟨x, y, h, g, q⟩
theorem r_ixL {K : PySem.W.Frag} {H : Hp} {p : Addr} {xs : List V} {i : Int} {z : V} {Q : V → Prop} (h : SqL K H p xs) (g : atI xs i = some z) (q : Q z) : ∃ a ys j u, V.ref p = .ref a ∧ V.int i = .int j ∧ SqL K H a ys ∧ atI ys j = some u ∧ Q u := ⟨p, xs, i, z, rfl, rfl, h, g, q⟩
theorem r_ixT {K : PySem.W.Frag} {H : Hp} {p : Addr} {xs : List V} {i : Int} {z : V} {Q : V → Prop} (h : SqT K H p xs) (g : atI xs i = some z) (q : Q z) : ∃ a ys j u, V.ref p = .ref a ∧ V.int i = .int j ∧ SqT K H a ys ∧ atI ys j = some u ∧ Q u := ⟨p, xs, i, z, rfl, rfl, h, g, q⟩
theorem ex2 {t0 : Type} {t1 : Type} {p : t0 → t1 → Prop} (x0 : t0) (x1 : t1) (h : p x0 x1) : ∃ x0 x1, p x0 x1 := ⟨x0, x1, h⟩
theorem ex3 {t0 : Type} {t1 : Type} {t2 : Type} {p : t0 → t1 → t2 → Prop} (x0 : t0) (x1 : t1) (x2 : t2) (h : p x0 x1 x2) : ∃ x0 x1 x2, p x0 x1 x2 := ⟨x0, x1, x2, h⟩
theorem ex4 {t0 : Type} {t1 : Type} {t2 : Type} {t3 : Type} {p : t0 → t1 → t2 → t3 → Prop} (x0 : t0) (x1 : t1) (x2 : t2) (x3 : t3) (h : p x0 x1 x2 x3) : ∃ x0 x1 x2 x3, p x0 x1 x2 x3 := ⟨x0, x1, x2, x3, h⟩
theorem ex5 {t0 : Type} {t1 : Type} {t2 : Type} {t3 : Type} {t4 : Type} {p : t0 → t1 → t2 → t3 → t4 → Prop} (x0 : t0) (x1 : t1) (x2 : t2) (x3 : t3) (x4 : t4) (h : p x0 x1 x2 x3 x4) : ∃ x0 x1 x2 x3 x4, p x0 x1 x2 x3 x4 := ⟨x0, x1, x2, x3, x4, h⟩
theorem ex6 {t0 : Type} {t1 : Type} {t2 : Type} {t3 : Type} {t4 : Type} {t5 : Type} {p : t0 → t1 → t2 → t3 → t4 → t5 → Prop} (x0 : t0) (x1 : t1) (x2 : t2) (x3 : t3) (x4 : t4) (x5 : t5) (h : p x0 x1 x2 x3 x4 x5) : ∃ x0 x1 x2 x3 x4 x5, p x0 x1 x2 x3 x4 x5 := ⟨x0, x1, x2, x3, x4, x5, h⟩
theorem ex7 {t0 : Type} {t1 : Type} {t2 : Type} {t3 : Type} {t4 : Type} {t5 : Type} {t6 : Type} {p : t0 → t1 → t2 → t3 → t4 → t5 → t6 → Prop} (x0 : t0) (x1 : t1) (x2 : t2) (x3 : t3) (x4 : t4) (x5 : t5) (x6 : t6) (h : p x0 x1 x2 x3 x4 x5 x6) : ∃ x0 x1 x2 x3 x4 x5 x6, p x0 x1 x2 x3 x4 x5 x6 := ⟨x0, x1, x2, x3, x4, x5, x6, h⟩
theorem ex8 {t0 : Type} {t1 : Type} {t2 : Type} {t3 : Type} {t4 : Type} {t5 : Type} {t6 : Type} {t7 : Type} {p : t0 → t1 → t2 → t3 → t4 → t5 → t6 → t7 → Prop} (x0 : t0) (x1 : t1) (x2 : t2) (x3 : t3) (x4 : t4) (x5 : t5) (x6 : t6) (x7 : t7) (h : p x0 x1 x2 x3 x4 x5 x6 x7) : ∃ x0 x1 x2 x3 x4 x5 x6 x7, p x0 x1 x2 x3 x4 x5 x6 x7 := ⟨x0, x1, x2, x3, x4, x5, x6, x7, h⟩
theorem ex9 {t0 : Type} {t1 : Type} {t2 : Type} {t3 : Type} {t4 : Type} {t5 : Type} {t6 : Type} {t7 : Type} {t8 : Type} {p : t0 → t1 → t2 → t3 → t4 → t5 → t6 → t7 → t8 → Prop} (x0 : t0) (x1 : t1) (x2 : t2) (x3 : t3) (x4 : t4) (x5 : t5) (x6 : t6) (x7 : t7) (x8 : t8) (h : p x0 x1 x2 x3 x4 x5 x6 x7 x8) : ∃ x0 x1 x2 x3 x4 x5 x6 x7 x8, p x0 x1 x2 x3 x4 x5 x6 x7 x8 := ⟨x0, x1, x2, x3, x4, x5, x6, x7, x8, h⟩
theorem ex10 {t0 : Type} {t1 : Type} {t2 : Type} {t3 : Type} {t4 : Type} {t5 : Type} {t6 : Type} {t7 : Type} {t8 : Type} {t9 : Type} {p : t0 → t1 → t2 → t3 → t4 → t5 → t6 → t7 → t8 → t9 → Prop} (x0 : t0) (x1 : t1) (x2 : t2) (x3 : t3) (x4 : t4) (x5 : t5) (x6 : t6) (x7 : t7) (x8 : t8) (x9 : t9) (h : p x0 x1 x2 x3 x4 x5 x6 x7 x8 x9) : ∃ x0 x1 x2 x3 x4 x5 x6 x7 x8 x9, p x0 x1 x2 x3 x4 x5 x6 x7 x8 x9 := ⟨x0, x1, x2, x3, x4, x5, x6, x7, x8, x9, h⟩
theorem ex11 {t0 : Type} {t1 : Type} {t2 : Type} {t3 : Type} {t4 : Type} {t5 : Type} {t6 : Type} {t7 : Type} {t8 : Type} {t9 : Type} {t10 : Type} {p : t0 → t1 → t2 → t3 → t4 → t5 → t6 → t7 → t8 → t9 → t10 → Prop} (x0 : t0) (x1 : t1) (x2 : t2) (x3 : t3) (x4 : t4) (x5 : t5) (x6 : t6) (x7 : t7) (x8 : t8) (x9 : t9) (x10 : t10) (h : p x0 x1 x2 x3 x4 x5 x6 x7 x8 x9 x10) : ∃ x0 x1 x2 x3 x4 x5 x6 x7 x8 x9 x10, p x0 x1 x2 x3 x4 x5 x6 x7 x8 x9 x10 := ⟨x0, x1, x2, x3, x4, x5, x6, x7, x8, x9, x10, h⟩
theorem ex12 {t0 : Type} {t1 : Type} {t2 : Type} {t3 : Type} {t4 : Type} {t5 : Type} {t6 : Type} {t7 : Type} {t8 : Type} {t9 : Type} {t10 : Type} {t11 : Type} {p : t0 → t1 → t2 → t3 → t4 → t5 → t6 → t7 → t8 → t9 → t10 → t11 → Prop} (x0 : t0) (x1 : t1) (x2 : t2) (x3 : t3) (x4 : t4) (x5 : t5) (x6 : t6) (x7 : t7) (x8 : t8) (x9 : t9) (x10 : t10) (x11 : t11) (h : p x0 x1 x2 x3 x4 x5 x6 x7 x8 x9 x10 x11) : ∃ x0 x1 x2 x3 x4 x5 x6 x7 x8 x9 x10 x11, p x0 x1 x2 x3 x4 x5 x6 x7 x8 x9 x10 x11 := ⟨x0, x1, x2, x3, x4, x5, x6, x7, x8, x9, x10, x11, h⟩
theorem ex13 {t0 : Type} {t1 : Type} {t2 : Type} {t3 : Type} {t4 : Type} {t5 : Type} {t6 : Type} {t7 : Type} {t8 : Type} {t9 : Type} {t10 : Type} {t11 : Type} {t12 : Type} {p : t0 → t1 → t2 → t3 → t4 → t5 → t6 → t7 → t8 → t9 → t10 → t11 → t12 → Prop} (x0 : t0) (x1 : t1) (x2 : t2) (x3 : t3) (x4 : t4) (x5 : t5) (x6 : t6) (x7 : t7) (x8 : t8) (x9 : t9) (x10 : t10) (x11 : t11) (x12 : t12) (h : p x0 x1 x2 x3 x4 x5 x6 x7 x8 x9 x10 x11 x12) : ∃ x0 x1 x2 x3 x4 x5 x6 x7 x8 x9 x10 x11 x12, p x0 x1 x2 x3 x4 x5 x6 x7 x8 x9 x10 x11 x12 := ⟨x0, x1, x2, x3, x4, x5, x6, x7, x8, x9, x10, x11, x12, h⟩
theorem ex14 {t0 : Type} {t1 : Type} {t2 : Type} {t3 : Type} {t4 : Type} {t5 : Type} {t6 : Type} {t7 : Type} {t8 : Type} {t9 : Type} {t10 : Type} {t11 : Type} {t12 : Type} {t13 : Type} {p : t0 → t1 → t2 → t3 → t4 → t5 → t6 → t7 → t8 → t9 → t10 → t11 → t12 → t13 → Prop} (x0 : t0) (x1 : t1) (x2 : t2) (x3 : t3) (x4 : t4) (x5 : t5) (x6 : t6) (x7 : t7) (x8 : t8) (x9 : t9) (x10 : t10) (x11 : t11) (x12 : t12) (x13 : t13) (h : p x0 x1 x2 x3 x4 x5 x6 x7 x8 x9 x10 x11 x12 x13) : ∃ x0 x1 x2 x3 x4 x5 x6 x7 x8 x9 x10 x11 x12 x13, p x0 x1 x2 x3 x4 x5 x6 x7 x8 x9 x10 x11 x12 x13 := ⟨x0, x1, x2, x3, x4, x5, x6, x7, x8, x9, x10, x11, x12, x13, h⟩
/-! ### loops -/
/-- for (k, v) in enumerate(list that the body leaves as it is) -/
theorem for_enum {K : PySem.W.Frag} {a : Addr} {xs : List V} {g : TG} {tb : TS} {D : Ends} {σ : St} {H : Hp} (Pv : Nat → St → Hp → Prop) (h0 : Pv 0 σ H) (hl : ∀ i σ H, i ≤ xs.length → Pv i σ H → SqL K H a xs)
    (hs : ∀ i x σ H T, xs[i]? = some x → Pv i σ H → H T = none → g (.ref T) σ (upd H T (.tup [.int (i : Nat), x])) fun σ2 H2 => tb { D with nx := Pv (i + 1), ct := Pv (i + 1), bk := D.nx } σ2 H2) (hd : ∀ σ H, Pv xs.length σ H → D.nx σ H) :
    ∃ W : Nat → Nat → St → Hp → Prop, (∃ m, W 0 m σ H) ∧ ∀ i m σ H, W i m σ H →
      ((Ite K a).stop i H ∧ D.nx σ H) ∨ ((Ite K a).go i H ∧ ∃ N : St → Hp → Prop, (∀ σ' H', N σ' H' → ∃ m', m' < m ∧ W (i + 1) m' σ' H') ∧ ∀ x H', (Ite K a).yld i H x H' → g x σ H' fun σ2 H2 => tb { D with nx := N, ct := N, bk := D.nx } σ2 H2) := by
  refine ⟨fun i m σ H => m = xs.length - i ∧ i ≤ xs.length ∧ Pv i σ H, ⟨xs.length, by simp, Nat.zero_le _, h0⟩, ?_⟩
  rintro i m σ H ⟨rfl, hi, p⟩
  have q := hl i σ H hi p
  by_cases hlt : i < xs.length
  · refine .inr ⟨⟨xs, xs[i], q, by simp [hlt]⟩, Pv (i + 1), fun σ' H' p' => ⟨xs.length - (i + 1), by omega, rfl, hlt, p'⟩, fun x H' y => ?_⟩
    obtain ⟨T, z, e, hT, eH, y⟩ := y
    subst e eH
    exact hs i z σ _ T (y xs q) p hT
  · have e : i = xs.length := by omega
    subst e
    exact .inl ⟨⟨xs, q, Nat.le_refl _⟩, hd σ H p⟩
/-- [.. for (x, y) in zip(two lists of one length that the block leaves as they are)] -/
theorem lc_zip {K : PySem.W.Frag} {a b : Addr} {xs ys : List V} {g : TG} {tt : TT} {te : TE} {vs : List Nat} {σ : St} {H1 : Hp} {D : Addr} {Qd : Hp → Prop} (hlen : xs.length = ys.length) (Pv : Nat → Hp → Prop) (h0 : Pv 0 (upd H1 D (.lst [])))
    (hl : ∀ i H, i ≤ xs.length → Pv i H → SqL K H a xs ∧ SqL K H b ys)
    (hs : ∀ i x y H T, xs[i]? = some x → ys[i]? = some y → Pv i H → H T = none → g (.ref T) (wipe σ vs) (upd H T (.tup [x, y])) fun σ2 H2 => wipe σ2 vs = wipe σ vs ∧ tt σ2 H2 fun b H3 =>
      if b = true then te σ2 H3 fun y H4 => ∃ acc, H4 D = some (.lst acc) ∧ acc.length < sizeLine ∧ Pv (i + 1) (upd H4 D (.lst (acc ++ [y]))) else Pv (i + 1) H3) (hd : ∀ H, Pv xs.length H → Qd H) :
    ∃ W : Nat → Nat → Hp → Prop, (∃ m, W 0 m (upd H1 D (.lst []))) ∧ ∀ i m H, W i m H →
      ((Itz K a b).stop i H ∧ Qd H) ∨ ((Itz K a b).go i H ∧ ∃ Nx : Hp → Prop, (∀ H', Nx H' → ∃ m', m' < m ∧ W (i + 1) m' H') ∧ ∀ x H', (Itz K a b).yld i H x H' → g x (wipe σ vs) H' fun σ2 H2 => wipe σ2 vs = wipe σ vs ∧ tt σ2 H2 fun b H3 =>
        if b = true then te σ2 H3 fun y H4 => ∃ acc, H4 D = some (.lst acc) ∧ acc.length < sizeLine ∧ Nx (upd H4 D (.lst (acc ++ [y]))) else Nx H3) := by
  refine ⟨fun i m H => m = xs.length - i ∧ i ≤ xs.length ∧ Pv i H, ⟨xs.length, by simp, Nat.zero_le _, h0⟩, ?_⟩
  rintro i m H ⟨rfl, hi, p⟩
  obtain ⟨qx, qy⟩ := hl i H hi p
  by_cases hlt : i < xs.length
  · have hlt' : i < ys.length := by omega
    refine .inr ⟨⟨xs, ys, xs[i], ys[i], qx, qy, by simp [hlt], by simp [hlt']⟩, Pv (i + 1), fun H' p' => ⟨xs.length - (i + 1), by omega, rfl, hlt, p'⟩, fun x H' y => ?_⟩
    obtain ⟨T, z, z2, e, hT, eH, y1, y2⟩ := y
    subst e eH
    exact hs i z z2 _ T (y1 xs qx) (y2 ys qy) p hT
  · have e : i = xs.length := by omega
    subst e
    exact .inl ⟨⟨xs, ys, qx, qy, .inl (Nat.le_refl _)⟩, hd H p⟩

/-! ### heaps -/
theorem Same.upd {H H1 : Hp} {p : Addr} {o : HO} (s : Same H H1) (hp : H p = none) : Same H (upd H1 p o) := fun b u e => by
  rw [upd_ne (ne_of_none e hp)]
  exact s b u e
theorem Same.new {H : Hp} {p : Addr} {o : HO} (hp : H p = none) : Same H (L2.upd H p o) := (Same.refl H).upd hp
theorem Same.sqT {K : PySem.W.Frag} {H H' : Hp} {a : Addr} {xs : List V} (e : Same H H') (h : SqT K H a xs) : SqT K H' a xs := by
  rcases h with (h | ⟨o, h⟩) | h
  · exact .inl (.inl (e _ _ h))
  · exact .inl (.inr ⟨o, e _ _ h⟩)
  · exact .inr h
theorem take_snoc {α : Type} : ∀ {l : List α} {i : Nat} {x : α}, l[i]? = some x → l.take (i + 1) = l.take i ++ [x]
  | [], i, x, h => by simp at h
  | a :: l, 0, x, h => by
    have e : a = x := Option.some.inj h
    subst e
    rfl
  | a :: l, i + 1, x, h => by
    have ih := take_snoc (l := l) (i := i) (x := x) h
    show a :: l.take (i + 1) = a :: l.take i ++ [x]
    rw [ih]
    rfl
/-- what a comprehension's word is: the heap it began with, and the first i items of ys at D -/
def Filled (H1 : Hp) (D : Addr) (ys : List V) (i : Nat) (H : Hp) : Prop := Same H1 H ∧ H D = some (.lst (ys.take i))
theorem Filled.zero {H1 : Hp} {D : Addr} {ys : List V} (hD : H1 D = none) : Filled H1 D ys 0 (L2.upd H1 D (.lst [])) := ⟨Same.new hD, upd_same⟩
theorem Filled.more {H1 H4 : Hp} {D : Addr} {ys : List V} {i : Nat} {y : V} (hD : H1 D = none) (f : Filled H1 D ys i H4) (hy : ys[i]? = some y) (hz : ys.length ≤ sizeLine) :
    ∃ acc, H4 D = some (.lst acc) ∧ acc.length < sizeLine ∧ Filled H1 D ys (i + 1) (L2.upd H4 D (.lst (acc ++ [y]))) := by
  have hi := (List.getElem?_eq_some_iff.mp hy).1
  refine ⟨_, f.2, by rw [List.length_take]; omega, f.1.upd hD, ?_⟩
  rw [upd_same, take_snoc hy]
theorem Filled.on {H1 H H4 : Hp} {D : Addr} {ys : List V} {i : Nat} (f : Filled H1 D ys i H) (s : Same H H4) : Filled H1 D ys i H4 := ⟨f.1.trans s, s _ _ f.2⟩
/-- a list of natural numbers as values -/
def nl (x : List Nat) : List V := (Vbecae.ints x).map V.int
theorem nl_get {x : List Nat} {i : Nat} {v : V} (h : (nl x)[i]? = some v) : ∃ n, x[i]? = some n ∧ v = .int (n : Int) := by
  unfold nl Vbecae.ints at h
  rw [List.getElem?_map, List.getElem?_map] at h
  cases e : x[i]? with
  | none =>
    rw [e] at h
    cases h
  | some n =>
    rw [e] at h
    exact ⟨n, rfl, (Option.some.inj h).symm⟩
theorem nl_at {x : List Nat} {i n : Nat} (h : x[i]? = some n) : (nl x)[i]? = some (.int (n : Int)) := by
  unfold nl Vbecae.ints
  rw [List.getElem?_map, List.getElem?_map, h]
  rfl
theorem nl_length (x : List Nat) : (nl x).length = x.length := by simp [nl, Vbecae.ints]
theorem nl_set (x : List Nat) (i n : Nat) : (nl x).set i (.int (n : Int)) = nl (x.set i n) := by
  simp [nl, Vbecae.ints, List.map_set]
theorem nl_sum (x : List Nat) : (Vbecae.ints x).sum = (x.sum : Int) := by
  induction x with
  | nil => rfl
  | cons a x ih =>
    show ((a : Int) :: Vbecae.ints x).sum = _
    rw [List.sum_cons, List.sum_cons, ih]
    omega
theorem at_nl {x : List Nat} {i : Nat} (h : i < x.length) : atI (nl x) (i : Int) = some (.int ((Vbecae.at_ x i : Nat) : Int)) := atI_nat (nl_at (PM.at_get? h))
theorem ixN_nat {n i : Nat} (h : i < n) : ixN n (i : Int) = some i := by
  unfold ixN
  rw [if_pos (by omega), if_pos (by omega)]
  simp
/-- a new list stands at p, all else as it was -/
structure New (H H' : Hp) (p : Addr) (xs : List V) : Prop where
  free : H p = none
  at_ : H' p = some (.lst xs)
  same : Same H H'
end L2
end
section
set_option Elab.async false
set_option linter.all false
set_option maxRecDepth 100000
set_option maxHeartbeats 2000000
namespace PD
open PySem PySem.Spec PyProof.Rows L2
open Vbecae (at_ share)
/-! ### the text by places -/
def top (i : Nat) : Stmt := PySem.Challenge.pw_pondyears_s01_answers.main.body.getD i (.Pass ⟨0, 0, 0, 0⟩)
abbrev sNeigh : Stmt := top 1
abbrev sGrow : Stmt := top 3
abbrev sGraze : Stmt := top 4
abbrev sSpread : Stmt := top 5
abbrev sGained : Stmt := top 6
abbrev sInit : Stmt := inClass (top 7) 0
abbrev sNew : Stmt := inClass (top 7) 1
abbrev sAnew : Stmt := inClass (top 7) 2
abbrev sTurn : Stmt := inClass (top 7) 4
abbrev sWithin : Stmt := top 19
abbrev sFalls : Stmt := top 20
abbrev sIsS : Stmt := top 21
abbrev sFits : Stmt := top 22
abbrev sMoved : Stmt := top 2
abbrev sMove : Stmt := inClass (top 7) 3
/-- no name of Python's own is bound at the top -/
structure Bl (mg : Str → Option Value) : Prop where
  range : mg "range" = none
  len : mg "len" = none
  sum : mg "sum" = none
  zip : mg "zip" = none
  enum : mg "enumerate" = none
  list : mg "list" = none
  tuple : mg "tuple" = none
  min : mg "min" = none
section
variable {P : Program} {w : World} {K : PySem.W.Frag} {mg : Str → Option Value} {base : Heap}

/-! ### grow -/
def spGrow (K : PySem.W.Frag) : Sp := fun vs H Q _ => ∃ (a b : Addr) (x t : List Nat), vs = [.ref a, .ref b] ∧ SqL K H a (nl x) ∧ SqL K H b (nl t) ∧ x.length ≤ 1000 ∧ (∀ v ∈ x, v < t.length) ∧
  ∀ (H' : Hp) (p : Addr), New H H' p (nl (x.map (at_ t))) → Q (.ref p) H'
theorem scGrow : FnScope ["cells", "table", "v"] ["cells", "table"] (defScope sGrow) := ⟨rfl, rfl, rfl, by decide +kernel, rfl, by decide +kernel, by decide +kernel⟩
theorem ok_grow {f : Addr} {fd : FuncData} (F : Fun K "grow" "grow" sGrow f fd) : FnOk P w K mg base CX0 1 f fd ["cells", "table"] (spGrow K) := by
  refine F.ok scGrow (fun vs H Q E h => ?_) (fun cdv A outer s H vs Q E hr h => ?_)
  · obtain ⟨a, b, x, t, rfl, _⟩ := h
    rfl
  · obtain ⟨a, b, x, t, rfl, hx, ht, hlen, hv, k⟩ := h
    refine ⟨_, pss_one (ps_ret (pe_lc (own := [("v", 2)]) rfl scGrow.nd (pi_list (pv 0)) (blkOk_by (by show blkC ["cells", "table", "v"] (defScope sGrow) _ _ = true; decide +kernel)) (fun _ _ _ _ _ => pg_name (i := 2) scGrow.nd rfl (Or.inl rfl)) (fun _ _ _ _ _ => pts_nil)
      (fun _ _ _ _ _ => pe_ix (r := rIxL K) ix_list (pv 1) (pv 2) (fun _ _ => rfl)))), ?_⟩
    have hz : (nl (x.map (at_ t))).length ≤ sizeLine := by
      rw [nl_length, List.length_map]
      exact Nat.le_of_lt (small1000 hlen)
    refine ⟨_, rfl, a, rfl, ⟨_, hx⟩, fun D hD => lc_list (xs := nl x) (Filled H D (nl (x.map (at_ t)))) (Filled.zero hD) (fun i H' _ f => f.1.seq hx) ?_ ?_⟩
    · intro i y H' hi f
      obtain ⟨n, hn, rfl⟩ := nl_get hi
      refine ⟨rfl, ?_⟩
      have hm : n < t.length := hv n (List.mem_of_getElem? hn)
      refine ⟨_, rfl, _, rfl, b, _, _, _, rfl, rfl, f.1.seq ht, at_nl hm, ?_⟩
      exact f.more hD (nl_at (by rw [List.getElem?_map, hn]; rfl)) hz
    · intro H' f
      refine k H' D ⟨hD, ?_, f.1⟩
      rw [f.2, List.take_of_length_le (by rw [nl_length, nl_length, List.length_map]; exact Nat.le_refl _)]
end
end PD
end
section
set_option Elab.async false
set_option linter.all false
set_option maxRecDepth 100000
set_option maxHeartbeats 2000000
namespace PD
open PySem PySem.Spec PyProof.Rows L2
open Vbecae (at_ share)
theorem zip_get {α β : Type} {x : List α} {g : List β} {i : Nat} {n : α} {m : β} (h1 : x[i]? = some n) (h2 : g[i]? = some m) : (x.zip g)[i]? = some (n, m) := by
  rw [List.getElem?_zip_eq_some]
  exact ⟨h1, h2⟩
section
variable {P : Program} {w : World} {K : PySem.W.Frag} {mg : Str → Option Value} {base : Heap}

/-! ### graze -/
def leftL (x g : List Nat) : List Nat := (x.zip g).map fun p => p.1 - p.2
def spGraze (K : PySem.W.Frag) : Sp := fun vs H Q _ => ∃ (a b : Addr) (x g : List Nat), vs = [.ref a, .ref b] ∧ SqL K H a (nl x) ∧ SqL K H b (nl g) ∧ x.length ≤ 1000 ∧ x.length = g.length ∧
  ∀ (H' : Hp) (p : Addr), New H H' p (nl (leftL x g)) → Q (.ref p) H'
theorem scGraze : FnScope ["cells", "wants", "v", "want"] ["cells", "wants"] (defScope sGraze) := ⟨rfl, rfl, rfl, by decide +kernel, rfl, by decide +kernel, by decide +kernel⟩
theorem ok_graze {f : Addr} {fd : FuncData} (F : Fun K "graze" "graze" sGraze f fd) (B : Bl mg) : FnOk P w K mg base CX0 1 f fd ["cells", "wants"] (spGraze K) := by
  refine F.ok scGraze (fun vs H Q E h => ?_) (fun cdv A outer s H vs Q E hr h => ?_)
  · obtain ⟨a, b, x, t, rfl, _⟩ := h
    rfl
  · obtain ⟨a, b, x, g, rfl, hx, hg, hlen, hl, k⟩ := h
    refine ⟨_, pss_one (ps_ret (pe_lc (g := gTup K 2 (gCons (gName 2) (gCons (gName 3) gNil))) (own := [("v", 2), ("want", 3)]) rfl scGraze.nd (pi_zip rfl B.zip (pa_cons (pv 0) (pa_cons (pv 1) pa_nil))) (blkOk_by (by show blkC ["cells", "wants", "v", "want"] (defScope sGraze) _ _ = true; decide +kernel))
      (fun _ _ _ _ _ => pg_tup rfl (pgs_cons (pg_name (i := 2) scGraze.nd rfl (Or.inl rfl)) (pgs_cons (pg_name (i := 3) scGraze.nd rfl (Or.inl rfl)) pgs_nil))) (fun _ _ _ _ _ => pts_nil)
      (fun _ _ _ _ _ => pe_ifExp (pt_cmpR op_gt (pv 2) (pv 3) (nomark _)) (pe_op op_sub (pv 2) (pv 3)) pe_int))), ?_⟩
    have hz : (nl (leftL x g)).length ≤ sizeLine := by
      rw [nl_length]
      unfold leftL
      rw [List.length_map, List.length_zip]
      exact Nat.le_trans (Nat.min_le_left _ _) (Nat.le_of_lt (small1000 hlen))
    refine (r_one rfl (r_one rfl (ex4 a b _ _ ⟨rfl, hx, hg, fun D hD => lc_zip (xs := nl x) (ys := nl g) (by rw [nl_length, nl_length]; exact hl) (Filled H D (nl (leftL x g))) (Filled.zero hD) (fun i H' _ f => ⟨f.1.seq hx, f.1.seq hg⟩) ?_ ?_⟩)))
    · intro i y z H' T hi hj f hT
      obtain ⟨n, hn, rfl⟩ := nl_get hi
      obtain ⟨m, hm, rfl⟩ := nl_get hj
      refine (ex2 T _ ⟨rfl, SqT.of upd_same, rfl, ex2 _ _ ⟨rfl, r_two rfl rfl ⟨rfl, ?_⟩⟩⟩)
      refine (r_one rfl (r_one rfl (r_two rfl rfl (r_one rfl ?_))))
      have f' := f.on (Same.new (o := .tup [.int (n : Int), .int (m : Int)]) hT)
      have hy : (nl (leftL x g))[i]? = some (.int ((n - m : Nat) : Int)) := nl_at (by unfold leftL; rw [List.getElem?_map, zip_get hn hm]; rfl)
      refine ite2 (fun hc => ?_) (fun hc => ?_)
      · have hc := of_decide_eq_true hc
        have e : ((n - m : Nat) : Int) = (n : Int) - (m : Int) := by omega
        rw [e] at hy
        exact (r_one rfl (r_one rfl (r_two rfl rfl (f'.more hD hy hz))))
      · have hc : ¬ (m : Int) < (n : Int) := fun q => hc (decide_eq_true q)
        have e : ((n - m : Nat) : Int) = 0 := by omega
        rw [e] at hy
        exact f'.more hD hy hz
    · intro H' f
      refine k H' D ⟨hD, ?_, f.1⟩
      rw [f.2, List.take_of_length_le]
      rw [nl_length, nl_length]
      unfold leftL
      rw [List.length_map, List.length_zip]
      exact Nat.min_le_left _ _

/-! ### gained -/
def gi (l : List (Nat × Nat)) : List Int := (l.filter fun p => decide (p.1 < p.2)).map fun p => (p.2 : Int) - (p.1 : Int)
theorem gi_sum : ∀ (x y : List Nat), (gi (x.zip y)).sum = ((Vbecae.gain x y : Nat) : Int)
  | [], _ => rfl
  | _ :: _, [] => rfl
  | a :: x, b :: y => by
    have ih := gi_sum x y
    unfold gi Vbecae.gain at ih ⊢
    rw [List.zip_cons_cons, List.filter_cons, List.map_cons, List.sum_cons]
    by_cases h : a < b
    · rw [if_pos (decide_eq_true h), List.map_cons, List.sum_cons, ih]
      show ((b : Int) - (a : Int)) + _ = (((b - a : Nat) + _ : Nat) : Int)
      omega
    · rw [if_neg (fun q => h (of_decide_eq_true q)), ih]
      show _ = (((b - a : Nat) + _ : Nat) : Int)
      omega
def spGained (K : PySem.W.Frag) : Sp := fun vs H Q _ => ∃ (a b : Addr) (x y : List Nat), vs = [.ref a, .ref b] ∧ SqL K H a (nl x) ∧ SqL K H b (nl y) ∧ x.length ≤ 1000 ∧ x.length = y.length ∧
  ∀ (H' : Hp), Same H H' → Q (.int ((Vbecae.gain x y : Nat) : Int)) H'
theorem scGained : FnScope ["before", "after", "old", "new"] ["before", "after"] (defScope sGained) := ⟨rfl, rfl, rfl, by decide +kernel, rfl, by decide +kernel, by decide +kernel⟩
theorem ok_gained {f : Addr} {fd : FuncData} (F : Fun K "gained" "gained" sGained f fd) (B : Bl mg) : FnOk P w K mg base CX0 1 f fd ["before", "after"] (spGained K) := by
  refine F.ok scGained (fun vs H Q E h => ?_) (fun cdv A outer s H vs Q E hr h => ?_)
  · obtain ⟨a, b, x, t, rfl, _⟩ := h
    rfl
  · obtain ⟨a, b, x, y, rfl, hx, hy, hlen, hl, k⟩ := h
    refine ⟨_, pss_one (ps_ret (pe_callB (cr_sum rfl) (by rfl) B.sum boot_sum (pa_cons (pe_lc (g := gTup K 2 (gCons (gName 2) (gCons (gName 3) gNil))) (own := [("old", 2), ("new", 3)]) rfl scGained.nd (pi_zip rfl B.zip (pa_cons (pv 0) (pa_cons (pv 1) pa_nil))) (blkOk_by (by show blkC ["before", "after", "old", "new"] (defScope sGained) _ _ = true; decide +kernel))
      (fun _ _ _ _ _ => pg_tup rfl (pgs_cons (pg_name (i := 2) scGained.nd rfl (Or.inl rfl)) (pgs_cons (pg_name (i := 3) scGained.nd rfl (Or.inl rfl)) pgs_nil))) (fun _ _ _ _ _ => pts_one (pt_cmpR op_gt (pv 3) (pv 2) (nomark _)))
      (fun _ _ _ _ _ => pe_op op_sub (pv 3) (pv 2))) pa_nil))), ?_⟩
    refine (r_one rfl (r_one rfl (ex4 a b _ _ ⟨rfl, hx, hy, fun D hD => lc_zip (xs := nl x) (ys := nl y) (by rw [nl_length, nl_length]; exact hl) (fun i H' => Same H H' ∧ H' D = some (.lst ((gi ((x.zip y).take i)).map V.int))) ⟨Same.new hD, upd_same⟩ (fun i H' _ f => ⟨f.1.seq hx, f.1.seq hy⟩) ?_ ?_⟩)))

    · rintro i z1 z2 H' T hi hj ⟨fs, fd⟩ hT
      obtain ⟨n, hn, rfl⟩ := nl_get hi
      obtain ⟨m, hm, rfl⟩ := nl_get hj
      refine (ex2 T _ ⟨rfl, SqT.of upd_same, rfl, ex2 _ _ ⟨rfl, r_two rfl rfl ⟨rfl, ?_⟩⟩⟩)
      refine (r_one rfl (r_one rfl (r_two rfl rfl (r_one rfl ?_))))
      have hnD : D ≠ T := ne_of_none fd hT
      have fs' : Same H (upd H' T (.tup [.int (n : Int), .int (m : Int)])) := fs.trans (Same.new hT)
      have hi2 : i < (x.zip y).length := (List.getElem?_eq_some_iff.mp (zip_get hn hm)).1
      have hsz : ((gi ((x.zip y).take i)).map V.int).length < sizeLine := by
        rw [List.length_map]
        unfold gi
        rw [List.length_map]
        refine Nat.lt_of_le_of_lt (List.length_filter_le _ _) (small1000 ?_)
        rw [List.length_take, List.length_zip]
        rw [List.length_zip] at hi2
        omega
      refine ite2 (fun hc => ?_) (fun hc => ?_)
      · have hc := of_decide_eq_true hc
        refine (r_one rfl (r_one rfl (r_two rfl rfl ⟨_, (upd_ne hnD).trans fd, hsz, fs'.upd hD, ?_⟩)))
        rw [upd_same, take_snoc (zip_get hn hm)]
        unfold gi
        rw [List.filter_append, List.map_append, List.map_append, List.filter_cons, if_pos (show decide (n < m) = true from decide_eq_true (by omega))]
        rfl
      · have hc : ¬ (n : Int) < (m : Int) := fun q => hc (decide_eq_true q)
        refine ⟨fs', ?_⟩
        rw [upd_ne hnD, fd, take_snoc (zip_get hn hm)]
        unfold gi
        rw [List.filter_append, List.filter_cons, if_neg (fun q => hc (by have := of_decide_eq_true (show decide (n < m) = true from q); omega)), List.filter_nil, List.append_nil]
    · rintro H' ⟨fs, fd⟩
      rw [nl_length, List.take_of_length_le (by rw [List.length_zip]; exact Nat.min_le_left _ _)] at fd
      refine (ex2 D _ ⟨rfl, SqL.of fd, ?_⟩)
      rw [gi_sum]
      exact k H' fs
end
end PD
end
section
set_option Elab.async false
set_option linter.all false
set_option maxRecDepth 100000
set_option maxHeartbeats 2000000
namespace PD
open PySem PySem.Spec PyProof.Rows L2
open Vbecae (at_ share)
open PM (gathL)
/-- the neighbours of the first n cells stand at a -/
def sidesV (w h k : Nat) : List V := [.int ((PM.lf w k : Nat) : Int), .int ((PM.rt w k : Nat) : Int), .int ((PM.up w h k : Nat) : Int), .int ((PM.dn w h k : Nat) : Int)]
def TupsAt (H : Hp) (a : Addr) (w h n : Nat) : Prop := ∃ ts : List Addr, H a = some (.lst (ts.map V.ref)) ∧ ts.length = n ∧ ∀ (k : Nat) (t : Addr), ts[k]? = some t → H t = some (.tup (sidesV w h k))
theorem TupsAt.same {H H' : Hp} {a : Addr} {w h n : Nat} (t : TupsAt H a w h n) (s : Same H H') : TupsAt H' a w h n := by
  obtain ⟨ts, h1, h2, h3⟩ := t
  exact ⟨ts, s _ _ h1, h2, fun k t ht => s _ _ (h3 k t ht)⟩
theorem share_int (v k : Nat) : ((v : Int) + (k : Int)) / 5 = ((share v k : Nat) : Int) := by
  unfold share
  omega
section
variable {P : Program} {w : World} {K : PySem.W.Frag} {mg : Str → Option Value} {base : Heap}

/-! ### spread -/
def spSpread (K : PySem.W.Frag) : Sp := fun vs H Q _ => ∃ (a b : Addr) (x : List Nat) (cw ch : Nat), vs = [.ref a, .ref b] ∧ SqL K H a (nl x) ∧ TupsAt H b cw ch (cw * ch) ∧ x.length = cw * ch ∧ cw ≤ 6 ∧ ch ≤ 6 ∧
  ∀ (H' : Hp) (p : Addr), New H H' p (nl (gathL cw ch x (cw * ch) (cw * ch) (cw * ch) (cw * ch))) → Q (.ref p) H'
theorem scSpread : FnScope ["cells", "around", "after", "k", "v", "sides"] ["cells", "around"] (defScope sSpread) := ⟨rfl, rfl, rfl, by decide +kernel, rfl, by decide +kernel, by decide +kernel⟩
/-- after[i] += d -/
theorem bump {H : Hp} {D : Addr} {L L' : List Nat} {i d : Nat} {z : Int} {Q : Hp → Prop} (hD : H D = some (.lst (nl L))) (hi : i < L.length) (ez : z = ((d : Nat) : Int)) (hL : L.set i (at_ L i + d) = L') (q : Q (upd H D (.lst (nl L')))) :
    ∃ p xs k j, V.ref D = .ref p ∧ V.int ((i : Nat) : Int) = .int k ∧ H p = some (.lst xs) ∧ ixN xs.length k = some j ∧ Q (upd H p (.lst (xs.set j (.int (((at_ L i : Nat) : Int) + z))))) := by
  refine (ex4 D _ _ i ⟨rfl, rfl, hD, ixN_nat (by rw [nl_length]; exact hi), ?_⟩)
  have e : (((at_ L i : Nat) : Int) + z) = ((at_ L i + d : Nat) : Int) := by omega
  rw [e, nl_set, hL]
  exact q
theorem ok_spread {f : Addr} {fd : FuncData} (F : Fun K "spread" "spread" sSpread f fd) (B : Bl mg) : FnOk P w K mg base CX0 1 f fd ["cells", "around"] (spSpread K) := by
  refine F.ok scSpread (fun vs H Q E h => ?_) (fun cdv A outer s H vs Q E hr h => ?_)
  · obtain ⟨a, b, x, cw, ch, rfl, _⟩ := h
    rfl
  · obtain ⟨a, b, x, cw, ch, rfl, hx, hb, hlen, hw, hh, k⟩ := h
    have h36 : cw * ch ≤ 6 * 6 := Nat.mul_le_mul hw hh
    refine ⟨_, pss_cons (ps_setLc (i := 2) (own := [("v", 4)]) rfl scSpread.nd rfl rfl (sw_true rfl rfl rfl rfl) (pi_list (pv 0)) (blkOk_by (by show blkC ["cells", "around", "after", "k", "v", "sides"] (defScope sSpread) _ _ = true; decide +kernel)) (fun _ _ _ _ _ => pg_name (i := 4) scSpread.nd rfl (Or.inl rfl)) (fun _ _ _ _ _ => pts_nil)
        (fun _ _ _ _ _ => pe_op op_fdiv (pe_op op_add (pv 4) pe_int) pe_int))
      (pss_cons (ps_for PassesOwn.never rfl (pi_enum rfl B.enum (pa_cons (pv 0) pa_nil)) (pg_tup rfl (pgs_cons (pg_name (i := 3) scSpread.nd rfl (Or.inl rfl)) (pgs_cons (pg_name (i := 4) scSpread.nd rfl (Or.inl rfl)) pgs_nil)))
        (pss_cons (ps_set (i := 5) scSpread.nd rfl (Or.inl rfl) (pe_ix ix_list (pv 1) (pv 3) (fun _ _ => rfl)))
        (pss_cons (ps_augS (pv 2) (pe_ix ix_tup (pv 5) pe_int (fun _ _ => rfl)) get_list (pe_op op_fdiv (pv 4) pe_int) ip_add set_list)
        (pss_cons (ps_augS (pv 2) (pe_ix ix_tup (pv 5) pe_int (fun _ _ => rfl)) get_list (pe_op op_fdiv (pe_op op_add (pv 4) pe_int) pe_int) ip_add set_list)
        (pss_cons (ps_augS (pv 2) (pe_ix ix_tup (pv 5) pe_int (fun _ _ => rfl)) get_list (pe_op op_fdiv (pe_op op_add (pv 4) pe_int) pe_int) ip_add set_list)
        (pss_one (ps_augS (pv 2) (pe_ix ix_tup (pv 5) pe_int (fun _ _ => rfl)) get_list (pe_op op_fdiv (pe_op op_add (pv 4) pe_int) pe_int) ip_add set_list)))))))
      (pss_one (ps_ret (pv 2)))), ?_⟩
    have e0 : (x.map fun v => share v 4) = gathL cw ch x 0 0 0 0 := (PM.gathL_zero hlen).symm
    have hz : (nl (x.map fun v => share v 4)).length ≤ sizeLine := by
      rw [nl_length, List.length_map]
      exact Nat.le_of_lt (small1000 (by omega))
    refine (r_one rfl ⟨a, rfl, ⟨_, hx⟩, fun D hD => lc_list (xs := nl x) (Filled H D (nl (x.map fun v => share v 4))) (Filled.zero hD) (fun i H' _ f => f.1.seq hx) ?_ ?_⟩)
    · intro i y H' hi f
      obtain ⟨n, hn, rfl⟩ := nl_get hi
      refine ⟨rfl, ?_⟩
      refine (r_one rfl (r_two rfl rfl (r_two rfl rfl ⟨⟨by decide, by decide⟩, ?_⟩)))
      refine f.more hD ?_ hz
      rw [nl_at (n := share n 4) (by rw [List.getElem?_map, hn]; rfl), ← share_int n 4]
      rfl
    · intro H1 f
      have hD1 : H1 D = some (.lst (nl (gathL cw ch x 0 0 0 0))) := by
        rw [f.2, List.take_of_length_le (by rw [nl_length, nl_length, List.length_map]; exact Nat.le_refl _), e0]
      have s1 := f.1
      refine (r_one rfl (ex2 a _ ⟨rfl, s1.seq hx, for_enum (K := K) (a := a) (xs := nl x) (fun i σ H' => ∃ v3 v4 v5 : Option V, σ = [some (.ref a), some (.ref b), some (.ref D), v3, v4, v5] ∧ Same H H' ∧ H' D = some (.lst (nl (gathL cw ch x i i i i)))) (ex3 none none none ⟨rfl, s1, hD1⟩) (fun i σ H' _ ⟨_, _, _, _, s2, _⟩ => s2.seq hx) ?_ ?_⟩))

      · rintro i y σ H' T hi ⟨v3, v4, v5, rfl, s2, hD2⟩ hT
        obtain ⟨n, hn, rfl⟩ := nl_get hi
        have hix : i < x.length := (List.getElem?_eq_some_iff.mp hn).1
        have hi' : i < cw * ch := by omega
        have en : at_ x i = n := PM.at_some hn
        have hDT : D ≠ T := ne_of_none hD2 hT
        obtain ⟨ts, hts, htl, hta⟩ := hb
        obtain ⟨t, ht⟩ : ∃ t, ts[i]? = some t := ⟨_, List.getElem?_eq_getElem (by omega)⟩
        have hbH : ∀ {G : Hp}, Same H G → G b = some (.lst (ts.map V.ref)) := fun s => s _ _ hts
        have htH : ∀ {G : Hp}, Same H G → G t = some (.tup (sidesV cw ch i)) := fun s => s _ _ (hta i t ht)
        obtain ⟨p0, p1, p2, p3, _⟩ := PM.place hw hh hi'
        have s3 : Same H (upd H' T (.tup [.int ((i : Nat) : Int), .int ((n : Nat) : Int)])) := s2.trans (Same.new hT)
        have hD3 : (upd H' T (.tup [.int ((i : Nat) : Int), .int ((n : Nat) : Int)])) D = some (.lst (nl (gathL cw ch x i i i i))) := (upd_ne hDT).trans hD2
        refine (ex2 T _ ⟨rfl, SqT.of upd_same, rfl, ex2 _ _ ⟨rfl, r_two rfl rfl ?_⟩⟩)
        -- sides = around[k]
        refine (r_one rfl (r_one rfl ⟨b, _, _, V.ref t, rfl, rfl, SqL.of (hbH s3), atI_nat (by rw [List.getElem?_map, ht]; rfl), ?_⟩))
        -- the four parts
        refine (r_one rfl (r_one rfl (r_ixT (SqT.of (htH s3)) (at_of (j := 0) rfl rfl) (r_ixL (SqL.of hD3) (at_nl (by rw [PM.gathL_length]; exact p0)) (r_one rfl (r_two rfl rfl ⟨⟨by decide, by decide⟩, r_two rfl rfl (bump (L' := gathL cw ch x (i + 1) i i i) (d := share n 0) hD3 (by rw [PM.gathL_length]; exact p0) (by rw [← share_int]; simp) (by rw [← en]; exact PM.gath_0 hw hh hi') ?_)⟩))))))

        have s4 := s3.upd (o := .lst (nl (gathL cw ch x (i + 1) i i i))) hD
        refine (r_one rfl (r_one rfl (r_ixT (SqT.of (htH s4)) (at_of (j := 1) rfl rfl) (r_ixL (SqL.of upd_same) (at_nl (by rw [PM.gathL_length]; exact p1)) (r_one rfl (r_two rfl rfl (r_two rfl rfl ⟨⟨by decide, by decide⟩, r_two rfl rfl (bump (L' := gathL cw ch x (i + 1) (i + 1) i i) (d := share n 1) upd_same (by rw [PM.gathL_length]; exact p1) (by rw [← share_int]; rfl) (by rw [← en]; exact PM.gath_1 hw hh hi') ?_)⟩)))))))

        have s5 := s4.upd (o := .lst (nl (gathL cw ch x (i + 1) (i + 1) i i))) hD
        refine (r_one rfl (r_one rfl (r_ixT (SqT.of (htH s5)) (at_of (j := 2) rfl rfl) (r_ixL (SqL.of upd_same) (at_nl (by rw [PM.gathL_length]; exact p2)) (r_one rfl (r_two rfl rfl (r_two rfl rfl ⟨⟨by decide, by decide⟩, r_two rfl rfl (bump (L' := gathL cw ch x (i + 1) (i + 1) (i + 1) i) (d := share n 2) upd_same (by rw [PM.gathL_length]; exact p2) (by rw [← share_int]; rfl) (by rw [← en]; exact PM.gath_2 hw hh hi') ?_)⟩)))))))

        have s6 := s5.upd (o := .lst (nl (gathL cw ch x (i + 1) (i + 1) (i + 1) i))) hD
        refine (r_one rfl (r_one rfl (r_ixT (SqT.of (htH s6)) (at_of (j := 3) rfl rfl) (r_ixL (SqL.of upd_same) (at_nl (by rw [PM.gathL_length]; exact p3)) (r_one rfl (r_two rfl rfl (r_two rfl rfl ⟨⟨by decide, by decide⟩, r_two rfl rfl (bump (L' := gathL cw ch x (i + 1) (i + 1) (i + 1) (i + 1)) (d := share n 3) upd_same (by rw [PM.gathL_length]; exact p3) (by rw [← share_int]; rfl) (by rw [← en]; exact PM.gath_3 hw hh hi') ?_)⟩)))))))

        exact (ex3 _ _ _ ⟨rfl, s6.upd hD, upd_same⟩)
      · rintro σ H' ⟨v3, v4, v5, rfl, s2, hD2⟩
        refine (r_one rfl ?_)
        rw [nl_length, hlen] at hD2
        exact k H' D ⟨hD, hD2, s2⟩

/-! ### neighbours -/
def spNeigh : Sp := fun vs H Q _ => ∃ (cw ch : Nat), vs = [.int ((cw : Nat) : Int), .int ((ch : Nat) : Int)] ∧ 1 ≤ cw ∧ cw ≤ 6 ∧ 1 ≤ ch ∧ ch ≤ 6 ∧
  ∀ (H' : Hp) (p : Addr), H p = none → Same H H' → TupsAt H' p cw ch (cw * ch) → Q (.ref p) H'
theorem scNeigh : FnScope ["w", "h", "around", "y", "x", "left", "right", "upper", "lower"] ["w", "h"] (defScope sNeigh) := ⟨rfl, rfl, rfl, by decide +kernel, rfl, by decide +kernel, by decide +kernel⟩
theorem ok_neigh {f : Addr} {fd : FuncData} (F : Fun K "neighbours" "neighbours" sNeigh f fd) (B : Bl mg) : FnOk P w K mg base CX0 1 f fd ["w", "h"] spNeigh := by
  refine F.ok scNeigh (fun vs H Q E h => ?_) (fun cdv A outer s H vs Q E hr h => ?_)
  · obtain ⟨cw, ch, rfl, _⟩ := h
    rfl
  · obtain ⟨cw, ch, rfl, w1, w6, h1, h6, k⟩ := h
    refine ⟨_, pss_cons (ps_set (i := 2) scNeigh.nd rfl (Or.inl rfl) (pe_lst pa_nil))
      (pss_cons (ps_for PassesOwn.never rfl (pi_range1 rfl B.range (pa_cons (pv 1) pa_nil)) (pg_name (i := 3) scNeigh.nd rfl (Or.inl rfl))
        (pss_one (ps_for PassesOwn.never rfl (pi_range1 rfl B.range (pa_cons (pv 0) pa_nil)) (pg_name (i := 4) scNeigh.nd rfl (Or.inl rfl))
          (pss_cons (ps_set (i := 5) scNeigh.nd rfl (Or.inl rfl) (pe_op op_add (pe_op op_mul (pv 3) (pv 0)) (pe_op op_mod (pe_op op_sub (pv 4) pe_int) (pv 0))))
          (pss_cons (ps_set (i := 6) scNeigh.nd rfl (Or.inl rfl) (pe_op op_add (pe_op op_mul (pv 3) (pv 0)) (pe_op op_mod (pe_op op_add (pv 4) pe_int) (pv 0))))
          (pss_cons (ps_set (i := 7) scNeigh.nd rfl (Or.inl rfl) (pe_op op_add (pe_op op_mul (pe_op op_mod (pe_op op_sub (pv 3) pe_int) (pv 1)) (pv 0)) (pv 4)))
          (pss_cons (ps_set (i := 8) scNeigh.nd rfl (Or.inl rfl) (pe_op op_add (pe_op op_mul (pe_op op_mod (pe_op op_add (pv 3) pe_int) (pv 1)) (pv 0)) (pv 4)))
          (pss_one (ps_expr (pe_bm PySem.F.plainAttrs_list PySem.F.slot_list_append PySem.F.type_list_append mt_append (pv 2) (pa_cons (pe_tup (pa_cons (pv 5) (pa_cons (pv 6) (pa_cons (pv 7) (pa_cons (pv 8) pa_nil))))) pa_nil)))))))))))
      (pss_one (ps_ret (pv 2)))), ?_⟩
    have h36 : cw * ch ≤ 6 * 6 := Nat.mul_le_mul w6 h6
    have wm : -(2 ^ 64) < ((cw : Nat) : Int) ∧ ((cw : Nat) : Int) < 2 ^ 64 := ⟨by omega, by omega⟩
    have w0 : (0 : Int) < ((cw : Nat) : Int) := by omega
    have h0 : (0 : Int) < ((ch : Nat) : Int) := by omega
    refine ⟨Nat.zero_le _, fun D hD => ?_⟩
    refine (r_one rfl ⟨((ch : Nat) : Int), rfl, by omega, by omega, for_range (n := ((ch : Nat) : Int).toNat) (fun i σ H' => ∃ v3 v4 v5 v6 v7 v8 : Option V, σ = [some (.int ((cw : Nat) : Int)), some (.int ((ch : Nat) : Int)), some (.ref D), v3, v4, v5, v6, v7, v8] ∧ Same H H' ∧ TupsAt H' D cw ch (i * cw)) (ex6 none none none none none none ⟨rfl, Same.new hD, [], upd_same, by simp, fun k t ht => by simp at ht⟩) ?_ ?_⟩)

    · rintro i σ H1 hi ⟨v3, v4, v5, v6, v7, v8, rfl, s1, t1⟩
      refine (r_one rfl ⟨((cw : Nat) : Int), rfl, by omega, by omega, for_range (n := ((cw : Nat) : Int).toNat) (fun j σ H' => ∃ v4 v5 v6 v7 v8 : Option V, σ = [some (.int ((cw : Nat) : Int)), some (.int ((ch : Nat) : Int)), some (.ref D), some (.int (0 + ((i : Nat) : Int))), v4, v5, v6, v7, v8] ∧ Same H H' ∧ TupsAt H' D cw ch (i * cw + j)) (ex5 v4 v5 v6 v7 v8 ⟨rfl, s1, t1⟩) ?_ ?_⟩)

      · rintro j σ H2 hj ⟨v4, v5, v6, v7, v8, rfl, s2, ts, hts, htl, hta⟩
        obtain ⟨q0, q1, q2, e0, e1, e2, e3⟩ := PM.int_place (w := cw) (h := ch) (y := i) (x := j) w6 h6 (by omega) (by omega)
        refine ⟨_, rfl, _, rfl, _, _, rfl, rfl, .inr wm, _, rfl, _, _, rfl, rfl, _, rfl, _, _, rfl, rfl, w0, _, _, rfl, rfl, ?_⟩
        refine ⟨_, rfl, _, rfl, _, _, rfl, rfl, .inr wm, _, rfl, _, _, rfl, rfl, _, rfl, _, _, rfl, rfl, w0, _, _, rfl, rfl, ?_⟩
        refine ⟨_, rfl, _, _, rfl, rfl, _, rfl, _, _, rfl, rfl, h0, _, rfl, _, _, rfl, rfl, .inr wm, _, rfl, _, _, rfl, rfl, ?_⟩
        refine ⟨_, rfl, _, _, rfl, rfl, _, rfl, _, _, rfl, rfl, h0, _, rfl, _, _, rfl, rfl, .inr wm, _, rfl, _, _, rfl, rfl, ?_⟩
        refine (r_one rfl ⟨.inl ⟨rfl, _, SqL.of hts⟩, r_one rfl (r_one rfl (r_one rfl (r_one rfl ⟨(by show 4 ≤ sizeLine; decide), fun t ht => ?_⟩)))⟩)
        have hDt : D ≠ t := ne_of_none hts ht
        refine (ex3 D _ _ ⟨rfl, rfl, (upd_ne hDt).trans hts, (by rw [List.length_map]; exact small1000 (by omega)), ?_⟩)
        refine (ex5 _ _ _ _ _ ⟨rfl, (s2.trans (Same.new ht)).upd hD, ts ++ [t], ?_, ?_, fun m u hu => ?_⟩)
        · rw [upd_same, List.map_append]
          rfl
        · rw [List.length_append, htl]
          rfl
        · by_cases hm : m < ts.length
          · rw [List.getElem?_append_left hm] at hu
            have hu' := hta m u hu
            have huD : u ≠ D := ne_of hu' hts (by intro z; cases z)
            rw [upd_ne huD, upd_ne (ne_of_none hu' ht)]
            exact hu'
          · rw [List.getElem?_append_right (by omega)] at hu
            have e : m = ts.length := by
              have := (List.getElem?_eq_some_iff.mp hu).1
              simp at this
              omega
            subst e
            simp at hu
            subst hu
            rw [upd_ne (fun q => hDt q.symm), upd_same, htl]
            unfold sidesV
            rw [Int.zero_add, Int.zero_add]
            dsimp only
            rw [e0, e1, e2, e3]
      · rintro σ H2 ⟨v4, v5, v6, v7, v8, rfl, s2, t2⟩
        refine (ex6 _ _ _ _ _ _ ⟨rfl, s2, ?_⟩)
        rw [show (i + 1) * cw = i * cw + ((cw : Nat) : Int).toNat by rw [Nat.succ_mul]; simp]
        exact t2
    · rintro σ H1 ⟨v3, v4, v5, v6, v7, v8, rfl, s1, t1⟩
      refine (r_one rfl ?_)
      refine k H1 D hD s1 ?_
      rw [Nat.mul_comm cw ch]
      simpa using t1

/-! ### all_within, never_falls -/
def spWithin (K : PySem.W.Frag) : Sp := fun vs H Q _ => ∃ (a : Addr) (ns : List Int) (lo hi : Int), vs = [.ref a, .int lo, .int hi] ∧ SqL K H a (ns.map V.int) ∧
  ∀ b : Bool, (b = true ↔ ∀ v ∈ ns, lo ≤ v ∧ v ≤ hi) → Q (.bl b) H
theorem scWithin : FnScope ["numbers", "least", "greatest", "number"] ["numbers", "least", "greatest"] (defScope sWithin) := ⟨rfl, rfl, rfl, by decide +kernel, rfl, by decide +kernel, by decide +kernel⟩
theorem int_get {ns : List Int} {i : Nat} {v : V} (h : (ns.map V.int)[i]? = some v) : ∃ n, ns[i]? = some n ∧ v = .int n := by
  rw [List.getElem?_map] at h
  cases e : ns[i]? with
  | none =>
    rw [e] at h
    cases h
  | some n =>
    rw [e] at h
    exact ⟨n, rfl, (Option.some.inj h).symm⟩
theorem ok_within {f : Addr} {fd : FuncData} (F : Fun K "all_within" "all_within" sWithin f fd) : FnOk P w K mg base CX0 1 f fd ["numbers", "least", "greatest"] (spWithin K) := by
  refine F.ok scWithin (fun vs H Q E h => ?_) (fun cdv A outer s H vs Q E hr h => ?_)
  · obtain ⟨a, ns, lo, hi, rfl, _⟩ := h
    rfl
  · obtain ⟨a, ns, lo, hi, rfl, hx, k⟩ := h
    refine ⟨_, pss_cons (ps_for PassesOwn.never rfl (pi_list (pv 0)) (pg_name (i := 3) scWithin.nd rfl (Or.inl rfl))
      (pss_one (ps_if (PW.pt (pw_or (pt_cmpR op_lt (pv 3) (pv 1) (nomark _)) (pw_or1 (pt_cmpR op_gt (pv 3) (pv 2) (nomark _))))) (pss_one (ps_ret pe_bl)) pss_nil)))
      (pss_one (ps_ret pe_bl)), ?_⟩
    refine (r_one rfl ⟨a, rfl, ⟨_, hx⟩, for_list (K := K) (a := a) (xs := ns.map V.int) (fun i σ H' => ∃ v : Option V, σ = [some (.ref a), some (.int lo), some (.int hi), v] ∧ H' = H ∧ ∀ v ∈ ns.take i, lo ≤ v ∧ v ≤ hi) ⟨none, rfl, rfl, by simp⟩ (fun i σ H' _ ⟨_, _, e, _⟩ => by rw [e]; exact hx) ?_ ?_⟩)

    · rintro i y σ H' hi' ⟨v, rfl, rfl, hall⟩
      obtain ⟨n, hn, rfl⟩ := int_get hi'
      have hm : n ∈ ns := List.mem_of_getElem? hn
      have bad : ¬ (lo ≤ n ∧ n ≤ hi) → Q (.bl false) H' := fun hb => k false ⟨fun q => (Bool.false_ne_true q).elim, fun q => (hb (q n hm)).elim⟩
      refine (r_one rfl (r_one rfl (r_two rfl rfl (r_one rfl ?_))))
      refine ite2 (fun hc => ?_) (fun hc => ?_)
      · exact bad (by have := of_decide_eq_true hc; omega)
      · refine (r_one rfl (r_one rfl (r_two rfl rfl (r_one rfl ?_))))
        have hc : ¬ n < lo := fun q => hc (decide_eq_true q)
        refine ite2 (fun hd => ?_) (fun hd => ?_)
        · exact bad (by have := of_decide_eq_true hd; omega)
        · have hd : ¬ hi < n := fun q => hd (decide_eq_true q)
          refine (r_one rfl ⟨rfl, fun u hu => ?_⟩)
          rw [take_snoc hn] at hu
          rcases List.mem_append.mp hu with q | q
          · exact hall u q
          · have : u = n := by simpa using q
            subst this
            omega
    · rintro σ H' ⟨v, rfl, rfl, hall⟩
      refine k true ⟨fun _ => ?_, fun _ => rfl⟩
      rw [List.length_map, List.take_length] at hall
      exact hall
def spFalls (K : PySem.W.Frag) : Sp := fun vs H Q _ => ∃ (a : Addr) (ns : List Int), vs = [.ref a] ∧ SqL K H a (ns.map V.int) ∧ ns.length ≤ 100000 ∧
  ∀ b : Bool, (b = true ↔ ∀ (i : Nat) (u v : Int), ns[i]? = some u → ns[i + 1]? = some v → u ≤ v) → Q (.bl b) H
theorem scFalls : FnScope ["numbers", "k"] ["numbers"] (defScope sFalls) := ⟨rfl, rfl, rfl, by decide +kernel, rfl, by decide +kernel, by decide +kernel⟩
theorem ok_falls {f : Addr} {fd : FuncData} (F : Fun K "never_falls" "never_falls" sFalls f fd) (B : Bl mg) : FnOk P w K mg base CX0 1 f fd ["numbers"] (spFalls K) := by
  refine F.ok scFalls (fun vs H Q E h => ?_) (fun cdv A outer s H vs Q E hr h => ?_)
  · obtain ⟨a, ns, rfl, _⟩ := h
    rfl
  · obtain ⟨a, ns, rfl, hx, hlen, k⟩ := h
    refine ⟨_, pss_cons (ps_for PassesOwn.never rfl (pi_range2 rfl B.range (pa_cons pe_int (pa_cons (pe_callB call_len_seq (by rfl) B.len PySem.boot_len (pa_cons (pv 0) pa_nil)) pa_nil))) (pg_name (i := 1) scFalls.nd rfl (Or.inl rfl))
      (pss_one (ps_if (pt_cmpR op_lt (pe_ix ix_list (pv 0) (pv 1) (fun _ _ => rfl)) (pe_ix ix_list (pv 0) (pe_op op_sub (pv 1) pe_int) (fun _ _ => rfl)) (nomark _)) (pss_one (ps_ret pe_bl)) pss_nil)))
      (pss_one (ps_ret pe_bl)), ?_⟩
    refine (r_one rfl (ex2 a _ ⟨rfl, .inl hx, ex2 1 _ ⟨rfl, ⟨by omega, by omega, by rw [List.length_map]; omega, by rw [List.length_map]; omega⟩, for_range (lo := 1) (n := (((ns.map V.int).length : Nat) - (1 : Int)).toNat) (fun i σ H' => ∃ v : Option V, σ = [some (.ref a), v] ∧ H' = H ∧ ∀ (j : Nat) (u v : Int), j < i → ns[j]? = some u → ns[j + 1]? = some v → u ≤ v) ⟨none, rfl, rfl, fun j u v hj => by omega⟩ ?_ ?_⟩⟩))


    · rintro i σ H' hi ⟨v, rfl, rfl, hall⟩
      rw [List.length_map] at hi
      have h1 : i + 1 < ns.length := by omega
      have h2 : i < ns.length := by omega
      have g1 : (ns.map V.int)[i + 1]? = some (V.int ns[i + 1]) := by rw [List.getElem?_map, List.getElem?_eq_getElem h1]; rfl
      have g2 : (ns.map V.int)[i]? = some (V.int ns[i]) := by rw [List.getElem?_map, List.getElem?_eq_getElem h2]; rfl
      refine (r_one rfl (r_one rfl (r_ixL hx (at_of (j := i + 1) (by omega) g1) (r_one rfl (r_one rfl (r_two rfl rfl (r_ixL hx (at_of (j := i) (by omega) g2) (r_two rfl rfl (r_one rfl ?_)))))))))
      refine ite2 (fun hc => ?_) (fun hc => ?_)
      · have hc := of_decide_eq_true hc
        refine k false ⟨fun q => (Bool.false_ne_true q).elim, fun q => ?_⟩
        have := q i _ _ (List.getElem?_eq_getElem h2) (List.getElem?_eq_getElem h1)
        omega
      · have hc : ¬ ns[i + 1] < ns[i] := fun q => hc (decide_eq_true q)
        refine (r_one rfl ⟨rfl, fun j u v hj hu hv => ?_⟩)
        by_cases e : j = i
        · subst e
          rw [List.getElem?_eq_getElem h2] at hu
          rw [List.getElem?_eq_getElem h1] at hv
          cases hu
          cases hv
          omega
        · exact hall j u v (by omega) hu hv
    · rintro σ H' ⟨v, rfl, rfl, hall⟩
      refine k true ⟨fun _ i u v hu hv => ?_, fun _ => rfl⟩
      have h1 := (List.getElem?_eq_some_iff.mp hv).1
      exact hall i u v (by rw [List.length_map]; omega) hu hv
end
end PD
end
section
set_option Elab.async false
set_option linter.all false
set_option maxRecDepth 100000
set_option maxHeartbeats 2000000
namespace PD
open PySem PySem.Spec PyProof.Rows L2
open Vbecae (at_ share)
open PM (gathL)
/-! ### the object -/
def stF (cw ch m p : Int) (aA : Addr × Addr) (aT aW aC : Addr) (se fi gr di ea : Int) : List (Str × V) :=
  [("known", .ref aA.2), ("w", .int cw), ("h", .int ch), ("most", .int m), ("p", .int p), ("around", .ref aA.1), ("tables", .ref aT), ("wants", .ref aW), ("cells", .ref aC), ("season", .int se), ("first", .int fi), ("grown", .int gr), ("died", .int di), ("grazed", .int ea)]
section
variable {cw ch m p : Int} {aA : Addr × Addr} {aT aW aC : Addr} {se fi gr di ea z : Int} {q : Addr}
theorem lk_known : (stF cw ch m p aA aT aW aC se fi gr di ea).lookup ("known" : Str) = some (.ref aA.2) := by rfl
theorem lk_w : (stF cw ch m p aA aT aW aC se fi gr di ea).lookup ("w" : Str) = some (.int cw) := by rfl
theorem lk_h : (stF cw ch m p aA aT aW aC se fi gr di ea).lookup ("h" : Str) = some (.int ch) := by rfl
theorem lk_most : (stF cw ch m p aA aT aW aC se fi gr di ea).lookup ("most" : Str) = some (.int m) := by rfl
theorem lk_p : (stF cw ch m p aA aT aW aC se fi gr di ea).lookup ("p" : Str) = some (.int p) := by rfl
theorem lk_around : (stF cw ch m p aA aT aW aC se fi gr di ea).lookup ("around" : Str) = some (.ref aA.1) := by rfl
theorem lk_tables : (stF cw ch m p aA aT aW aC se fi gr di ea).lookup ("tables" : Str) = some (.ref aT) := by rfl
theorem lk_wants : (stF cw ch m p aA aT aW aC se fi gr di ea).lookup ("wants" : Str) = some (.ref aW) := by rfl
theorem lk_cells : (stF cw ch m p aA aT aW aC se fi gr di ea).lookup ("cells" : Str) = some (.ref aC) := by rfl
theorem lk_season : (stF cw ch m p aA aT aW aC se fi gr di ea).lookup ("season" : Str) = some (.int se) := by rfl
theorem lk_first : (stF cw ch m p aA aT aW aC se fi gr di ea).lookup ("first" : Str) = some (.int fi) := by rfl
theorem lk_grown : (stF cw ch m p aA aT aW aC se fi gr di ea).lookup ("grown" : Str) = some (.int gr) := by rfl
theorem lk_died : (stF cw ch m p aA aT aW aC se fi gr di ea).lookup ("died" : Str) = some (.int di) := by rfl
theorem lk_grazed : (stF cw ch m p aA aT aW aC se fi gr di ea).lookup ("grazed" : Str) = some (.int ea) := by rfl
theorem pt_cells : putF "cells" (.ref q) (stF cw ch m p aA aT aW aC se fi gr di ea) = stF cw ch m p aA aT aW q se fi gr di ea := by rfl
theorem pt_season : putF "season" (.int z) (stF cw ch m p aA aT aW aC se fi gr di ea) = stF cw ch m p aA aT aW aC z fi gr di ea := by rfl
theorem pt_first : putF "first" (.int z) (stF cw ch m p aA aT aW aC se fi gr di ea) = stF cw ch m p aA aT aW aC se z gr di ea := by rfl
theorem pt_grown : putF "grown" (.int z) (stF cw ch m p aA aT aW aC se fi gr di ea) = stF cw ch m p aA aT aW aC se fi z di ea := by rfl
theorem pt_died : putF "died" (.int z) (stF cw ch m p aA aT aW aC se fi gr di ea) = stF cw ch m p aA aT aW aC se fi gr z ea := by rfl
theorem pt_grazed : putF "grazed" (.int z) (stF cw ch m p aA aT aW aC se fi gr di ea) = stF cw ch m p aA aT aW aC se fi gr di z := by rfl
end
theorem putF_len (f : Str) (v : V) : ∀ fs : List (Str × V), (putF f v fs).length ≤ fs.length + 1
  | [] => Nat.le_refl _
  | (g, x) :: r => by
    unfold putF
    by_cases h : g = f
    · rw [if_pos h]
      exact Nat.le_succ _
    · rw [if_neg h, List.length_cons, List.length_cons]
      exact Nat.succ_le_succ (putF_len f v r)
/-- all but p is as it was -/
def But (p : Addr) (H H' : Hp) : Prop := ∀ b o, H b = some o → b ≠ p → H' b = some o
theorem But.refl (p : Addr) (H : Hp) : But p H H := fun _ _ e _ => e
theorem But.trans {p : Addr} {H H1 H2 : Hp} (a : But p H H1) (b : But p H1 H2) : But p H H2 := fun c o e n => b c o (a c o e n) n
theorem But.of_same {p : Addr} {H H1 : Hp} (a : Same H H1) : But p H H1 := fun c o e _ => a c o e
theorem But.upd {p : Addr} {H : Hp} {o : HO} : But p H (L2.upd H p o) := fun c u e n => by rw [upd_ne n]; exact e
theorem But.list {p a C dx : Addr} {H H' : Hp} {fs : List (Str × V)} {xs : List V} (k : But p H H') (hp : H p = some (.ins C dx fs)) (h : H a = some (.lst xs)) : H' a = some (.lst xs) := k _ _ h (ne_of h hp (by intro z; cases z))
theorem But.tup {p a C dx : Addr} {H H' : Hp} {fs : List (Str × V)} {xs : List V} (k : But p H H') (hp : H p = some (.ins C dx fs)) (h : H a = some (.tup xs)) : H' a = some (.tup xs) := k _ _ h (ne_of h hp (by intro z; cases z))
theorem gen_upd {p : Addr} {H : Hp} {o : HO} {G : Hp → Prop} (h : ∀ H', H' p = some o → But p H H' → G H') : G (L2.upd H p o) := h _ upd_same But.upd
/-- rows of natural numbers stand at a -/
def RowsAt (H : Hp) (a : Addr) (rows : List (List Nat)) : Prop := ∃ rs : List Addr, H a = some (.lst (rs.map V.ref)) ∧ rs.length = rows.length ∧ ∀ (k : Nat) (r : Addr) (t : List Nat), rs[k]? = some r → rows[k]? = some t → H r = some (.lst (nl t))
theorem RowsAt.but {p a C dx : Addr} {H H' : Hp} {fs : List (Str × V)} {rows : List (List Nat)} (r : RowsAt H a rows) (k : But p H H') (hp : H p = some (.ins C dx fs)) : RowsAt H' a rows := by
  obtain ⟨rs, h1, h2, h3⟩ := r
  exact ⟨rs, k.list hp h1, h2, fun i r t hr ht => k.list hp (h3 i r t hr ht)⟩
theorem RowsAt.same {a : Addr} {H H' : Hp} {rows : List (List Nat)} (r : RowsAt H a rows) (k : Same H H') : RowsAt H' a rows := by
  obtain ⟨rs, h1, h2, h3⟩ := r
  exact ⟨rs, k _ _ h1, h2, fun i r t hr ht => k _ _ (h3 i r t hr ht)⟩
theorem TupsAt.but {p a C dx : Addr} {H H' : Hp} {fs : List (Str × V)} {cw ch n : Nat} (r : TupsAt H a cw ch n) (k : But p H H') (hp : H p = some (.ins C dx fs)) : TupsAt H' a cw ch n := by
  obtain ⟨rs, h1, h2, h3⟩ := r
  exact ⟨rs, k.list hp h1, h2, fun i t ht => k.tup hp (h3 i t ht)⟩
/-! ### what years came to -/
def KnownAt (N : Nat) (H : Hp) (a : Addr) : Prop := ∃ xs : List (KK × Addr × V), XDict rK hashK H a xs ∧ xs.length ≤ N ∧
  ∀ x ∈ xs, ∃ (t c : Addr) (y : Nat) (z : List Nat), x.2.2 = .ref t ∧ H t = some (.tup [.int ((y : Nat) : Int), .ref c]) ∧ H c = some (.lst (nl z)) ∧ z ≠ [] ∧ PM.Means x.1 y z
/-- what the known leans on -/
def Rest (o : HO) : Prop := (∃ φ, o = .ext φ) ∨ (∃ vs, o = .tup vs) ∨ ∃ z : List Nat, z ≠ [] ∧ o = .lst (nl z)
theorem rK_mono : AMono (aTup rK) := mono_tup (mono_or (mono_tup mono_int))
theorem KnownAt.keep {N : Nat} {H H' : Hp} {a : Addr} (h : KnownAt N H a) (k : ∀ b o, H b = some o → Rest o → H' b = some o) : KnownAt N H' a := by
  obtain ⟨xs, ⟨h1, h2⟩, h3, h4⟩ := h
  have tp : Tups H H' := fun b ys e => k b _ e (.inr (.inl ⟨_, rfl⟩))
  refine ⟨xs, ⟨k _ _ h1 (.inl ⟨_, rfl⟩), fun x hx => rK_mono H H' _ _ tp (h2 x hx)⟩, h3, fun x hx => ?_⟩
  obtain ⟨t, c, y, z, e1, e2, e3, e4, e5⟩ := h4 x hx
  exact ⟨t, c, y, z, e1, tp _ _ e2, k _ _ e3 (.inr (.inr ⟨z, e4, rfl⟩)), e4, e5⟩
theorem KnownAt.same {N : Nat} {H H' : Hp} {a : Addr} (h : KnownAt N H a) (k : Same H H') : KnownAt N H' a := h.keep fun b o e _ => k b o e
theorem KnownAt.mono {N M : Nat} {H : Hp} {a : Addr} (h : KnownAt N H a) (k : N ≤ M) : KnownAt M H a := by
  obtain ⟨xs, h1, h3, h4⟩ := h
  exact ⟨xs, h1, Nat.le_trans h3 k, h4⟩
theorem Rest.ins {C dx : Addr} {fs : List (Str × V)} {o : HO} (h : Rest o) (e : o = .ins C dx fs) : False := by
  subst e
  rcases h with ⟨_, e⟩ | ⟨_, e⟩ | ⟨_, _, e⟩ <;> cases e
theorem KnownAt.but {N : Nat} {p a C dx : Addr} {H H' : Hp} {fs : List (Str × V)} (h : KnownAt N H a) (k : But p H H') (hp : H p = some (.ins C dx fs)) : KnownAt N H' a :=
  h.keep fun b o e r => k b o e fun q => by
    rw [q, hp] at e
    exact r.ins (Option.some.inj e).symm
/-- the neighbours, and what years came to -/
def Arnd (N : Nat) (H : Hp) (a : Addr × Addr) (w h n : Nat) : Prop := TupsAt H a.1 w h n ∧ KnownAt N H a.2
theorem Arnd.same {N : Nat} {H H' : Hp} {a : Addr × Addr} {w h n : Nat} (t : Arnd N H a w h n) (s : Same H H') : Arnd N H' a w h n := ⟨t.1.same s, t.2.same s⟩
theorem Arnd.but {N : Nat} {p C dx : Addr} {a : Addr × Addr} {H H' : Hp} {fs : List (Str × V)} {cw ch n : Nat} (r : Arnd N H a cw ch n) (k : But p H H') (hp : H p = some (.ins C dx fs)) : Arnd N H' a cw ch n := ⟨r.1.but k hp, r.2.but k hp⟩
theorem Arnd.mono {N M : Nat} {H : Hp} {a : Addr × Addr} {w h n : Nat} (t : Arnd N H a w h n) (k : N ≤ M) : Arnd M H a w h n := ⟨t.1, t.2.mono k⟩
/-- the k-th row -/
theorem RowsAt.get {a : Addr} {H : Hp} {rows : List (List Nat)} (r : RowsAt H a rows) {k : Nat} (h : k < rows.length) : ∃ (xs : List V) (b : Addr), H a = some (.lst xs) ∧ atI xs ((k : Nat) : Int) = some (.ref b) ∧ H b = some (.lst (nl (rows.getD k []))) := by
  obtain ⟨rs, h1, h2, h3⟩ := r
  have hk : k < rs.length := by omega
  refine ⟨_, rs[k], h1, atI_nat (by rw [List.getElem?_map, List.getElem?_eq_getElem hk]; rfl), h3 k _ _ (List.getElem?_eq_getElem hk) ?_⟩
  rw [List.getD_eq_getElem?_getD, List.getElem?_eq_getElem h]
  rfl
abbrev stOf (s : Vbecae.State) (aA : Addr × Addr) (aT aW aC : Addr) : List (Str × V) :=
  stF ((s.pond.w : Nat) : Int) ((s.pond.h : Nat) : Int) ((s.pond.most : Nat) : Int) ((s.pond.tables.length : Nat) : Int) aA aT aW aC ((s.season : Nat) : Int) ((s.first : Nat) : Int) ((s.more : Nat) : Int) ((s.died : Nat) : Int) ((s.eaten : Nat) : Int)
/-- the object at p is s; its two lists that change stand at aT, aW -/
structure StateAt (C : Addr) (N : Nat) (H : Hp) (p aT aW : Addr) (s : Vbecae.State) : Prop where
  ex : ∃ dx aA aC, H p = some (.ins C dx (stOf s aA aT aW aC)) ∧ Arnd N H aA s.pond.w s.pond.h (s.pond.w * s.pond.h) ∧ H aC = some (.lst (nl s.cells))
  tb : RowsAt H aT s.pond.tables
  gr : RowsAt H aW s.pond.grazed
  ne : aT ≠ aW
theorem StateAt.same {N : Nat} {C p aT aW : Addr} {H H' : Hp} {s : Vbecae.State} (S : StateAt C N H p aT aW s) (k : Same H H') : StateAt C N H' p aT aW s := by
  obtain ⟨dx, aA, aC, h1, h2, h3⟩ := S.ex
  exact ⟨⟨dx, aA, aC, k _ _ h1, h2.same k, k _ _ h3⟩, S.tb.same k, S.gr.same k, S.ne⟩
theorem StateAt.mono {N M : Nat} {C p aT aW : Addr} {H : Hp} {s : Vbecae.State} (S : StateAt C N H p aT aW s) (k : N ≤ M) : StateAt C M H p aT aW s := by
  obtain ⟨dx, aA, aC, h1, h2, h3⟩ := S.ex
  exact ⟨⟨dx, aA, aC, h1, h2.mono k, h3⟩, S.tb, S.gr, S.ne⟩
theorem StateAt.two {N : Nat} {C p aT aW : Addr} {H : Hp} {s : Vbecae.State} (S : StateAt C N H p aT aW s) : StateAt C (N + 2) H p aT aW s := S.mono (Nat.le_add_right _ _)
/-- what the text has of the class -/
structure Txt (K : PySem.W.Frag) (mg : Str → Option Value) (C : Addr) : Prop where
  cl : Cls K C
  known : NoAttr K C "known"
  w : NoAttr K C "w"
  h : NoAttr K C "h"
  most : NoAttr K C "most"
  p : NoAttr K C "p"
  around : NoAttr K C "around"
  tables : NoAttr K C "tables"
  wants : NoAttr K C "wants"
  cells : NoAttr K C "cells"
  season : NoAttr K C "season"
  first : NoAttr K C "first"
  grown : NoAttr K C "grown"
  died : NoAttr K C "died"
  grazed : NoAttr K C "grazed"
  mgC : mg "State" = some (.ref C)
section
variable {P : Program} {w : World} {K : PySem.W.Frag} {mg : Str → Option Value} {base : Heap}

/-! ### begin_anew -/
def anewF (z : Int) (fs : List (Str × V)) : List (Str × V) := putF "grazed" (.int 0) (putF "died" (.int 0) (putF "grown" (.int 0) (putF "first" (.int z) (putF "season" (.int 0) fs))))
def spAnew (C : Addr) : Sp := fun vs H Q _ => ∃ (p dx aC : Addr) (fs : List (Str × V)) (x : List Nat), vs = [.ref p] ∧ H p = some (.ins C dx fs) ∧ fs.lookup ("cells" : Str) = some (.ref aC) ∧ H aC = some (.lst (nl x)) ∧ fs.length ≤ 900 ∧
  ∀ H' : Hp, H' p = some (.ins C dx (anewF ((x.sum : Nat) : Int) fs)) → But p H H' → Q .non H'
theorem scAnew : FnScope ["self"] ["self"] (defScope sAnew) := ⟨rfl, rfl, rfl, by decide +kernel, rfl, by decide +kernel, by decide +kernel⟩
theorem ok_anew {f C : Addr} {fd : FuncData} (F : Fun K "begin_anew" "State.begin_anew" sAnew f fd) (T : Txt K mg C) (B : Bl mg) : FnOk P w K mg base CX0 1 f fd ["self"] (spAnew C) := by
  refine F.ok scAnew (fun vs H Q E h => ?_) (fun cdv A outer s H vs Q E hr h => ?_)
  · obtain ⟨p, dx, aC, fs, x, rfl, _⟩ := h
    rfl
  · obtain ⟨p, dx, aC, fs, x, rfl, hp, hc, hC, hl, k⟩ := h
    refine ⟨_, pss_cons (ps_fld (pv 0) pe_int rfl) (pss_cons (ps_fld (pv 0) (pe_callB (cr_sum rfl) (by rfl) B.sum boot_sum (pa_cons (pe_fld (pv 0) rfl) pa_nil)) rfl)
      (pss_cons (ps_fld (pv 0) pe_int rfl) (pss_cons (ps_fld (pv 0) pe_int rfl) (pss_one (ps_fld (pv 0) pe_int rfl))))), ?_⟩
    have l1 := putF_len "season" (.int 0) fs
    have l2 := putF_len "first" (.int ((x.sum : Nat) : Int)) (putF "season" (.int 0) fs)
    have l3 := putF_len "grown" (.int 0) (putF "first" (.int ((x.sum : Nat) : Int)) (putF "season" (.int 0) fs))
    have l4 := putF_len "died" (.int 0) (putF "grown" (.int 0) (putF "first" (.int ((x.sum : Nat) : Int)) (putF "season" (.int 0) fs)))
    have ncp : aC ≠ p := ne_of hC hp (by intro z; cases z)
    refine (r_one rfl (ex4 p C dx _ ⟨rfl, hp, T.cl, T.season, by omega, ?_⟩))
    refine (r_one rfl (ex5 p C dx _ _ ⟨rfl, upd_same, T.cl, T.cells, (by rw [lookup_putF, if_neg (by decide +kernel)]; exact hc), aC, Vbecae.ints x, rfl, SqL.of ((upd_ne ncp).trans hC), ?_⟩))
    rw [nl_sum]
    refine (r_one rfl (ex4 p C dx _ ⟨rfl, upd_same, T.cl, T.first, by omega, ?_⟩))
    refine (r_one rfl (ex4 p C dx _ ⟨rfl, upd_same, T.cl, T.grown, by omega, ?_⟩))
    refine (r_one rfl (ex4 p C dx _ ⟨rfl, upd_same, T.cl, T.died, by omega, ?_⟩))
    refine (r_one rfl (ex4 p C dx _ ⟨rfl, upd_same, T.cl, T.grazed, by omega, ?_⟩))
    exact k _ upd_same (But.upd.trans (But.upd.trans (But.upd.trans (But.upd.trans But.upd))))

/-! ### turn -/
def spTurn (C : Addr) : Sp := fun vs H Q _ => ∃ (N : Nat) (p aT aW : Addr) (s : Vbecae.State), vs = [.ref p] ∧ StateAt C N H p aT aW s ∧ PM.SOk s ∧
  ∀ H' : Hp, StateAt C N H' p aT aW (Vbecae.booked s) → But p H H' → Q .non H'
structure TurnFns (P : Program) (w : World) (K : PySem.W.Frag) (mg : Str → Option Value) (base : Heap) where
  fG : Addr
  dG : FuncData
  G : FnOk P w K mg base CX0 1 fG dG ["cells", "table"] (spGrow K)
  mG : mg "grow" = some (.ref fG)
  kG : PySem.W.keepIn K (.ref fG) = true
  bG : Binds K dG ["cells", "table"] []
  fZ : Addr
  dZ : FuncData
  Z : FnOk P w K mg base CX0 1 fZ dZ ["cells", "wants"] (spGraze K)
  mZ : mg "graze" = some (.ref fZ)
  kZ : PySem.W.keepIn K (.ref fZ) = true
  bZ : Binds K dZ ["cells", "wants"] []
  fN : Addr
  dN : FuncData
  N : FnOk P w K mg base CX0 1 fN dN ["before", "after"] (spGained K)
  mN : mg "gained" = some (.ref fN)
  kN : PySem.W.keepIn K (.ref fN) = true
  bN : Binds K dN ["before", "after"] []
  fS : Addr
  dS : FuncData
  S : FnOk P w K mg base CX0 1 fS dS ["cells", "around"] (spSpread K)
  mS : mg "spread" = some (.ref fS)
  kS : PySem.W.keepIn K (.ref fS) = true
  bS : Binds K dS ["cells", "around"] []
theorem scTurn : FnScope ["self", "full", "left"] ["self"] (defScope sTurn) := ⟨rfl, rfl, rfl, by decide +kernel, rfl, by decide +kernel, by decide +kernel⟩
theorem ok_turn {f C : Addr} {fd : FuncData} (F : Fun K "turn" "State.turn" sTurn f fd) (T : Txt K mg C) (B : Bl mg) (U : TurnFns P w K mg base) : FnOk P w K mg base CX0 2 f fd ["self"] (spTurn C) := by
  refine F.ok scTurn (fun vs H Q E h => ?_) (fun cdv A outer s H vs Q E hr h => ?_)
  · obtain ⟨N, p, aT, aW, s, rfl, _⟩ := h
    rfl
  · obtain ⟨N, p, aT, aW, s, rfl, S, ok, k⟩ := h
    refine ⟨_, pss_cons (ps_set (i := 1) scTurn.nd rfl (Or.inl rfl) (pe_call U.G hr rfl U.mG U.kG U.bG .nil pass0 (pa_cons (pe_fld (pv 0) rfl) (pa_cons (pe_ix ix_list (pe_fld (pv 0) rfl) (pe_fld (pv 0) rfl) (fun _ _ => rfl)) pa_nil))))
      (pss_cons (ps_set (i := 2) scTurn.nd rfl (Or.inl rfl) (pe_call U.Z hr rfl U.mZ U.kZ U.bZ .nil pass0 (pa_cons (pv 1) (pa_cons (pe_ix ix_list (pe_fld (pv 0) rfl) (pe_fld (pv 0) rfl) (fun _ _ => rfl)) pa_nil))))
      (pss_cons (ps_fldaug (pv 0) (pe_call U.N hr rfl U.mN U.kN U.bN .nil pass0 (pa_cons (pe_fld (pv 0) rfl) (pa_cons (pv 1) pa_nil))) in_add)
      (pss_cons (ps_fldaug (pv 0) (pe_call U.N hr rfl U.mN U.kN U.bN .nil pass0 (pa_cons (pv 1) (pa_cons (pe_fld (pv 0) rfl) pa_nil))) in_add)
      (pss_cons (ps_fldaug (pv 0) (pe_op op_sub (pe_callB (cr_sum rfl) (by rfl) B.sum boot_sum (pa_cons (pv 1) pa_nil)) (pe_callB (cr_sum rfl) (by rfl) B.sum boot_sum (pa_cons (pv 2) pa_nil))) in_add)
      (pss_cons (ps_fld (pv 0) (pe_call U.S hr rfl U.mS U.kS U.bS .nil pass0 (pa_cons (pv 2) (pa_cons (pe_fld (pv 0) rfl) pa_nil))) rfl)
      (pss_one (ps_fld (pv 0) (pe_op op_mod (pe_op op_add (pe_fld (pv 0) rfl) pe_int) (pe_fld (pv 0) rfl)) rfl))))))), ?_⟩
    obtain ⟨dx, aA, aC, h1, h2, h3⟩ := S.ex
    obtain ⟨oP, oC, oS⟩ := ok
    obtain ⟨xt, bt, ht1, ht2, ht3⟩ := S.tb.get oS
    obtain ⟨xw, bw, hw1, hw2, hw3⟩ := S.gr.get (show s.season < s.pond.grazed.length by rw [oP.gl]; exact oS)
    have n36 := oP.n36
    have clen : s.cells.length = s.pond.w * s.pond.h := oC.len
    have tOk := oP.table oS
    have wOk := oP.wants oS
    have gOk := PM.grown_ok oP oS oC
    have lOk := PM.left_ok oP oS gOk
    -- full = grow(self.cells, self.tables[self.season])
    refine (r_fld rfl h1 T.cl T.cells lk_cells (r_fld rfl h1 T.cl T.tables lk_tables (r_fld rfl h1 T.cl T.season lk_season (r_ixL (SqL.of ht1) ht2 ⟨aC, bt, s.cells, r_one rfl ⟨SqL.of h3, SqL.of ht3, by omega, (fun v hv => by rw [tOk.len]; exact Nat.lt_succ_of_le (oC.le v hv)), fun H1 a1 n1 => ?_⟩⟩))))

    have s1 := n1.same
    have hfull : H1 a1 = some (.lst (nl (Vbecae.grown s.pond s.season s.cells))) := n1.at_
    -- left = graze(full, self.wants[self.season])
    refine (r_one rfl (r_fld rfl (s1 _ _ h1) T.cl T.wants lk_wants (r_fld rfl (s1 _ _ h1) T.cl T.season lk_season (r_ixL (SqL.of (s1 _ _ hw1)) hw2 (ex4 a1 bw _ _ ⟨rfl, SqL.of hfull, SqL.of (s1 _ _ hw3), (by rw [gOk.len]; omega), (by rw [gOk.len, wOk.len]), fun H2 a2 n2 => ?_⟩)))))

    have s2 := s1.trans n2.same
    have hfull2 := n2.same _ _ hfull
    have hleft : H2 a2 = some (.lst (nl (Vbecae.left s.pond s.season (Vbecae.grown s.pond s.season s.cells)))) := n2.at_
    -- self.grown += gained(self.cells, full)
    refine ⟨_, rfl, p, C, dx, _, _, rfl, s2 _ _ h1, T.cl, T.grown, lk_grown, _, rfl, p, C, dx, _, _, rfl, s2 _ _ h1, T.cl, T.cells, lk_cells, _, rfl, aC, a1, s.cells, _, rfl, SqL.of (s2 _ _ h3), SqL.of hfull2, by omega, (by rw [gOk.len, clen]), fun H3 s3 => ?_⟩
    refine (r_two rfl rfl ⟨dx, _, s3 _ _ (s2 _ _ h1), (by show 14 < 1000; decide), ?_⟩)
    rw [pt_grown]
    refine gen_upd fun H4 e4 k4 => ?_
    have p3 := s3 _ _ (s2 _ _ h1)
    have q4 : But p H H4 := (But.of_same (s2.trans s3)).trans k4
    have f4 := k4.list p3 (s3 _ _ hfull2)
    have l4 := k4.list p3 (s3 _ _ hleft)
    have c4 := q4.list h1 h3
    have t4 := h2.but q4 h1
    -- self.died += gained(full, self.cells)
    refine ⟨_, rfl, p, C, dx, _, _, rfl, e4, T.cl, T.died, lk_died, _, rfl, _, rfl, p, C, dx, _, _, rfl, e4, T.cl, T.cells, lk_cells, a1, aC, _, s.cells, rfl, SqL.of f4, SqL.of c4, (by rw [gOk.len]; omega), (by rw [gOk.len, clen]), fun H5 s5 => ?_⟩
    refine (r_two rfl rfl ⟨dx, _, s5 _ _ e4, (by show 14 < 1000; decide), ?_⟩)
    rw [pt_died]
    refine gen_upd fun H6 e6 k6 => ?_
    have k46 : But p H4 H6 := (But.of_same s5).trans k6
    have q6 : But p H H6 := q4.trans k46
    have f6 := k46.list e4 f4
    have l6 := k46.list e4 l4
    have t6 := t4.but k46 e4
    -- self.grazed += sum(full) - sum(left)
    refine ⟨_, rfl, p, C, dx, _, _, rfl, e6, T.cl, T.grazed, lk_grazed, _, rfl, a1, Vbecae.ints (Vbecae.grown s.pond s.season s.cells), rfl, SqL.of f6, _, rfl, a2, Vbecae.ints (Vbecae.left s.pond s.season (Vbecae.grown s.pond s.season s.cells)), rfl, SqL.of l6, _, _, rfl, rfl,
      _, _, rfl, rfl, dx, _, e6, (by show 14 < 1000; decide), ?_⟩
    have et : ((s.eaten : Nat) : Int) + ((Vbecae.ints (Vbecae.grown s.pond s.season s.cells)).sum - (Vbecae.ints (Vbecae.left s.pond s.season (Vbecae.grown s.pond s.season s.cells))).sum) = ((s.eaten + (Vbecae.taken s.pond s.season (Vbecae.grown s.pond s.season s.cells)).sum : Nat) : Int) := by
      have := PM.taken_eq oP oS gOk
      rw [nl_sum, nl_sum]
      omega
    rw [et, pt_grazed]
    refine gen_upd fun H7 e7 k7 => ?_
    have q7 : But p H H7 := q6.trans k7
    have l7 := k7.list e6 l6
    have t7 := t6.but k7 e6
    -- self.cells = spread(left, self.around)
    refine (r_one rfl (r_fld rfl e7 T.cl T.around lk_around (ex5 a2 aA.1 _ _ _ ⟨rfl, SqL.of l7, t7.1, lOk.len, oP.w6, oP.h6, fun H8 a8 n8 => ?_⟩)))
    refine (r_one rfl (ex4 p C dx _ ⟨rfl, n8.same _ _ e7, T.cl, T.cells, (by show 14 < 1000; decide), ?_⟩))
    rw [pt_cells]
    refine gen_upd fun H9 e9 k9 => ?_
    have q9 : But p H H9 := q7.trans ((But.of_same n8.same).trans k9)
    have c9 := k9.list (n8.same _ _ e7) n8.at_
    -- self.season = (self.season + 1) % self.p
    refine (r_fld rfl e9 T.cl T.season lk_season (r_two rfl rfl (r_fld rfl e9 T.cl T.p lk_p (r_two rfl rfl ⟨(by have := oP.p1; show (0 : Int) < ((s.pond.tables.length : Nat) : Int); omega), r_one rfl (ex4 p C dx _ ⟨rfl, e9, T.cl, T.season, (by show 14 < 1000; decide), ?_⟩)⟩))))

    rw [pt_season]
    refine gen_upd fun H10 e10 k10 => ?_
    have q10 : But p H H10 := q9.trans k10
    have c10 := k10.list e9 c9
    rw [← PM.spread_gath oP.w6 oP.h6] at c10
    exact k H10 ⟨⟨dx, aA, a8, e10, h2.but q10 h1, c10⟩, S.tb.but q10 h1, S.gr.but q10 h1, S.ne⟩ q10
end
end PD
end
section
set_option Elab.async false
set_option linter.all false
set_option maxRecDepth 100000
set_option maxHeartbeats 2000000
namespace PD
open PySem PySem.Spec PyProof.Rows L2
open Vbecae (at_ share)
/-- a comprehension's word for a list of rows, all alike -/
def RowsTo (H1 : Hp) (D : Addr) (t : List Nat) (i : Nat) (H : Hp) : Prop := Same H1 H ∧ ∃ rs : List Addr, H D = some (.lst (rs.map V.ref)) ∧ rs.length = i ∧ ∀ (k : Nat) (r : Addr), rs[k]? = some r → H r = some (.lst (nl t))
theorem RowsTo.zero {H1 : Hp} {D : Addr} {t : List Nat} (hD : H1 D = none) : RowsTo H1 D t 0 (upd H1 D (.lst [])) := ⟨Same.new hD, [], upd_same, rfl, fun k r h => by simp at h⟩
theorem RowsTo.on {H1 H H4 : Hp} {D : Addr} {t : List Nat} {i : Nat} (f : RowsTo H1 D t i H) (s : Same H H4) : RowsTo H1 D t i H4 := by
  obtain ⟨s1, rs, h1, h2, h3⟩ := f
  exact ⟨s1.trans s, rs, s _ _ h1, h2, fun k r h => s _ _ (h3 k r h)⟩
theorem RowsTo.more {H1 H4 : Hp} {D l : Addr} {t : List Nat} {i : Nat} (hD : H1 D = none) (f : RowsTo H1 D t i H4) (hl : H4 l = some (.lst (nl t))) (ht : t ≠ []) (hi : i < 1000) :
    ∃ acc, H4 D = some (.lst acc) ∧ acc.length < sizeLine ∧ RowsTo H1 D t (i + 1) (upd H4 D (.lst (acc ++ [.ref l]))) := by
  obtain ⟨s1, rs, h1, h2, h3⟩ := f
  have neD : ∀ r, H4 r = some (.lst (nl t)) → r ≠ D := fun r hr e => by
    rw [e, h1] at hr
    have e2 : rs.map V.ref = nl t := by
      injection hr with e3
      injection e3
    cases t with
    | nil => exact ht rfl
    | cons a t =>
      cases rs with
      | nil => cases e2
      | cons b rs =>
        have e3 : V.ref b = V.int ((a : Nat) : Int) := (List.cons.inj e2).1
        cases e3
  refine ⟨_, h1, (by rw [List.length_map, h2]; exact small1000 (Nat.le_of_lt hi)), s1.upd hD, rs ++ [l], ?_, ?_, fun k r h => ?_⟩
  · rw [upd_same, List.map_append]
    rfl
  · rw [List.length_append, h2]
    rfl
  · have hr : H4 r = some (.lst (nl t)) := by
      by_cases hk : k < rs.length
      · rw [List.getElem?_append_left hk] at h
        exact h3 k r h
      · rw [List.getElem?_append_right (by omega)] at h
        have e : r = l := by
          have := List.mem_of_getElem? h
          simpa using this
        rw [e]
        exact hl
    rw [upd_ne (neD r hr)]
    exact hr
theorem RowsTo.rows {H1 H : Hp} {D : Addr} {t : List Nat} {i : Nat} (f : RowsTo H1 D t i H) : RowsAt H D (List.replicate i t) := by
  obtain ⟨s1, rs, h1, h2, h3⟩ := f
  refine ⟨rs, h1, by simpa using h2, fun k r u hr hu => ?_⟩
  have e : u = t := List.eq_of_mem_replicate (List.mem_of_getElem? hu)
  rw [e]
  exact h3 k r hr
theorem nl_id (m : Nat) : ((List.range (m + 1)).map fun (n : Nat) => V.int (n : Int)) = nl (Vbecae.id_ m) := by
  unfold nl Vbecae.ints Vbecae.id_
  rw [List.map_map]
  rfl
theorem rep_zero (n : Nat) : (List.replicate n [V.int 0]).flatten = nl (List.replicate n 0) := by
  induction n with
  | zero => rfl
  | succ n ih =>
    rw [List.replicate_succ, List.replicate_succ, List.flatten_cons, ih]
    rfl
section
variable {P : Program} {w : World} {K : PySem.W.Frag} {mg : Str → Option Value} {base : Heap}
/-! ### new_pond -/
def newF (cw ch m p : Int) (aA aT aW aC : Addr) (fs : List (Str × V)) : List (Str × V) :=
  putF "cells" (.ref aC) (putF "wants" (.ref aW) (putF "tables" (.ref aT) (putF "around" (.ref aA) (putF "p" (.int p) (putF "most" (.int m) (putF "h" (.int ch) (putF "w" (.int cw) fs)))))))
theorem newF_nil (cw ch m p z : Int) (aA aT aW aC aD : Addr) : anewF z (newF cw ch m p aA aT aW aC [("known", .ref aD)]) = stF cw ch m p (aA, aD) aT aW aC 0 z 0 0 0 := by rfl
theorem newF_st (cw ch m p z : Int) (aA aT aW aC aD : Addr) (a b c d : Int) (e1 e2 e3 e4 : Addr) (f g h i j : Int) : anewF z (newF cw ch m p aA aT aW aC (stF a b c d (e1, aD) e2 e3 e4 f g h i j)) = stF cw ch m p (aA, aD) aT aW aC 0 z 0 0 0 := by rfl
def Bare (aD : Addr) (fs : List (Str × V)) : Prop := fs = ([("known", .ref aD)] : List (Str × V)) ∨ ∃ a b c d e1 e2 e3 e4 f g h i j, fs = stF a b c d (e1, aD) e2 e3 e4 f g h i j
theorem Bare.new {aD : Addr} {fs : List (Str × V)} (h : Bare aD fs) (cw ch m p z : Int) (aA aT aW aC : Addr) : anewF z (newF cw ch m p aA aT aW aC fs) = stF cw ch m p (aA, aD) aT aW aC 0 z 0 0 0 := by
  rcases h with rfl | ⟨a, b, c, d, e1, e2, e3, e4, f, g, h, i, j, rfl⟩
  · exact newF_nil ..
  · exact newF_st ..
theorem Bare.len {aD : Addr} {fs : List (Str × V)} (h : Bare aD fs) : fs.length ≤ 14 := by
  rcases h with rfl | ⟨a, b, c, d, e1, e2, e3, e4, f, g, h, i, j, rfl⟩
  · exact (by show 1 ≤ 14; decide)
  · exact Nat.le_refl _
def newS (cw ch m p : Nat) : Vbecae.State := Vbecae.fresh (Vbecae.newPond cw ch m p) (List.replicate (cw * ch) 0)
def spNew (C : Addr) : Sp := fun vs H Q _ => ∃ (N : Nat) (q dx aD : Addr) (fs : List (Str × V)) (cw ch m p : Nat), vs = [.ref q, .int ((cw : Nat) : Int), .int ((ch : Nat) : Int), .int ((m : Nat) : Int), .int ((p : Nat) : Int)] ∧ H q = some (.ins C dx fs) ∧ Bare aD fs ∧ KnownAt N H aD ∧
  1 ≤ cw ∧ cw ≤ 6 ∧ 1 ≤ ch ∧ ch ≤ 6 ∧ 1 ≤ m ∧ m ≤ 60 ∧ 1 ≤ p ∧ p ≤ 8 ∧
  ∀ (H' : Hp) (aT aW : Addr), StateAt C N H' q aT aW (newS cw ch m p) → H aT = none → H aW = none → But q H H' → Q .non H'
theorem scNew : FnScope ["self", "w", "h", "most", "p", "s"] ["self", "w", "h", "most", "p"] (defScope sNew) := ⟨rfl, rfl, rfl, by decide +kernel, rfl, by decide +kernel, by decide +kernel⟩
theorem But.free {p a : Addr} {H H' : Hp} (k : But p H H') (h : H' a = none) (hp : ∀ o, H p = some o → a ≠ p) : H a = none := by
  cases e : H a with
  | none => rfl
  | some o =>
    by_cases hap : a = p
    · subst hap
      exact (hp o e rfl).elim
    · rw [k _ _ e hap] at h
      cases h
theorem ok_new {f C fN fB : Addr} {fd dN dB : FuncData} (F : Fun K "new_pond" "State.new_pond" sNew f fd) (T : Txt K mg C) (B : Bl mg)
    (N : FnOk P w K mg base CX0 1 fN dN ["w", "h"] spNeigh) (mN : mg "neighbours" = some (.ref fN)) (kN : PySem.W.keepIn K (.ref fN) = true) (bN : Binds K dN ["w", "h"] [])
    (A : FnOk P w K mg base CX0 1 fB dB ["self"] (spAnew C)) (bB : Binds K dB ["self"] []) (mB : Meth K C "begin_anew" fB) : FnOk P w K mg base CX0 2 f fd ["self", "w", "h", "most", "p"] (spNew C) := by
  refine F.ok scNew (fun vs H Q E h => ?_) (fun cdv A' outer s H vs Q E hr h => ?_)
  · obtain ⟨N0, q, dx, aD, fs, cw, ch, m, p, rfl, _⟩ := h
    rfl
  · obtain ⟨N0, q, dx, aD, fs, cw, ch, m, p, rfl, hq, hf, hkn, w1, w6, h1, h6, m1, m60, p1, p8, k⟩ := h
    refine ⟨_, pss_cons (ps_fld (pv 0) (pv 1) rfl) (pss_cons (ps_fld (pv 0) (pv 2) rfl) (pss_cons (ps_fld (pv 0) (pv 3) rfl) (pss_cons (ps_fld (pv 0) (pv 4) rfl)
      (pss_cons (ps_fld (pv 0) (pe_call N hr rfl mN kN bN .nil pass0 (pa_cons (pv 1) (pa_cons (pv 2) pa_nil))) rfl)
      (pss_cons (ps_fld (pv 0) (pe_lc (own := [("s", 5)]) rfl scNew.nd (pi_range1 rfl B.range (pa_cons (pv 4) pa_nil)) (blkOk_by (by show blkC ["self", "w", "h", "most", "p", "s"] (defScope sNew) _ _ = true; decide +kernel)) (fun _ _ _ _ _ => pg_name (i := 5) scNew.nd rfl (Or.inl rfl)) (fun _ _ _ _ _ => pts_nil)
        (fun _ _ _ _ _ => pe_callTy (call_listR rfl) (by rfl) B.list boot_list (pa_cons (pe_callTy call_rangeV (by rfl) B.range boot_range (pa_cons (pe_op op_add (pv 3) pe_int) pa_nil)) pa_nil))) rfl)
      (pss_cons (ps_fld (pv 0) (pe_lc (own := [("s", 5)]) rfl scNew.nd (pi_range1 rfl B.range (pa_cons (pv 4) pa_nil)) (blkOk_by (by show blkC ["self", "w", "h", "most", "p", "s"] (defScope sNew) _ _ = true; decide +kernel)) (fun _ _ _ _ _ => pg_name (i := 5) scNew.nd rfl (Or.inl rfl)) (fun _ _ _ _ _ => pts_nil)
        (fun _ _ _ _ _ => pe_op op_rep (pe_lst (pa_cons pe_int pa_nil)) (pe_op op_mul (pv 1) (pv 2)))) rfl)
      (pss_cons (ps_fld (pv 0) (pe_op op_rep (pe_lst (pa_cons pe_int pa_nil)) (pe_op op_mul (pv 1) (pv 2))) rfl)
      (pss_one (ps_expr (pe_meth0 (pv 0) T.cl mB A hr bB .nil pass0)))))))))), ?_⟩
    have h36 : cw * ch ≤ 6 * 6 := Nat.mul_le_mul w6 h6
    have hlen := hf.len
    have wm : -(2 ^ 64) < ((ch : Nat) : Int) ∧ ((ch : Nat) : Int) < 2 ^ 64 := ⟨by omega, by omega⟩
    have emul : ((cw : Nat) : Int) * ((ch : Nat) : Int) = ((cw * ch : Nat) : Int) := (Int.natCast_mul _ _).symm
    have n1 : 1 ≤ cw * ch := Nat.mul_le_mul w1 h1
    have hz36 : 1 * (((cw * ch : Nat) : Int)).toNat ≤ sizeLine := Nat.le_of_lt (small1000 (by rw [Int.toNat_natCast]; omega))
    have z0 : (List.replicate (cw * ch) 0 : List Nat) ≠ [] := fun e => by
      have := congrArg List.length e
      simp at this
      omega
    -- self.w .. self.p
    have l1 := putF_len "w" (.int ((cw : Nat) : Int)) fs
    have l2 := putF_len "h" (.int ((ch : Nat) : Int)) (putF "w" (.int ((cw : Nat) : Int)) fs)
    have l3 := putF_len "most" (.int ((m : Nat) : Int)) (putF "h" (.int ((ch : Nat) : Int)) (putF "w" (.int ((cw : Nat) : Int)) fs))
    have l4 := putF_len "p" (.int ((p : Nat) : Int)) (putF "most" (.int ((m : Nat) : Int)) (putF "h" (.int ((ch : Nat) : Int)) (putF "w" (.int ((cw : Nat) : Int)) fs)))
    refine (r_one rfl (r_one rfl (ex4 q C dx _ ⟨rfl, hq, T.cl, T.w, by omega, ?_⟩)))
    refine gen_upd fun H1 e1 k1 => ?_
    refine (r_one rfl (r_one rfl (ex4 q C dx _ ⟨rfl, e1, T.cl, T.h, by omega, ?_⟩)))
    refine gen_upd fun H2 e2 k2 => ?_
    refine (r_one rfl (r_one rfl (ex4 q C dx _ ⟨rfl, e2, T.cl, T.most, by omega, ?_⟩)))
    refine gen_upd fun H3 e3 k3 => ?_
    refine (r_one rfl (r_one rfl (ex4 q C dx _ ⟨rfl, e3, T.cl, T.p, by omega, ?_⟩)))
    refine gen_upd fun H4 e4 k4 => ?_
    have b4 : But q H H4 := k1.trans (k2.trans (k3.trans k4))
    -- self.around = neighbours(w, h)
    refine (r_one rfl (r_one rfl (ex2 cw ch ⟨rfl, w1, w6, h1, h6, fun H5 aA hA s5 tA => ?_⟩)))
    have l5 := putF_len "around" (.ref aA) (putF "p" (.int ((p : Nat) : Int)) (putF "most" (.int ((m : Nat) : Int)) (putF "h" (.int ((ch : Nat) : Int)) (putF "w" (.int ((cw : Nat) : Int)) fs))))
    refine (r_one rfl (ex4 q C dx _ ⟨rfl, s5 _ _ e4, T.cl, T.around, by omega, ?_⟩))
    refine gen_upd fun H6 e6 k6 => ?_
    have t6 := tA.but k6 (s5 _ _ e4)
    have b6 : But q H H6 := b4.trans ((But.of_same s5).trans k6)
    -- self.tables = [list(range(most + 1)) for s in range(p)]
    refine (r_one rfl ⟨((p : Nat) : Int), rfl, by omega, by omega, fun aT hT => lc_range (n := ((p : Nat) : Int).toNat) (RowsTo H6 aT (Vbecae.id_ m)) (RowsTo.zero hT) ?_ ?_⟩)
    · intro i G hi f
      refine ⟨rfl, ?_⟩
      refine (r_one rfl (r_two rfl rfl (r_one rfl (fun ar har => ?_))))
      refine ⟨ar, m + 1, rfl, (by rw [upd_same]; rfl), Nat.le_of_lt (small1000 (by omega)), fun l hl => ?_⟩
      rw [nl_id]
      have f' := (f.on (Same.new (o := .rng 0 (((m : Nat) : Int) + 1)) har)).on (Same.new (o := .lst (nl (Vbecae.id_ m))) hl)
      exact f'.more hT upd_same (by simp [Vbecae.id_]) (by omega)
    intro H7 f7
    have r7 : RowsAt H7 aT (List.replicate p (Vbecae.id_ m)) := by simpa using f7.rows
    have s7 := f7.1
    have l6 := putF_len "tables" (.ref aT) (putF "around" (.ref aA) (putF "p" (.int ((p : Nat) : Int)) (putF "most" (.int ((m : Nat) : Int)) (putF "h" (.int ((ch : Nat) : Int)) (putF "w" (.int ((cw : Nat) : Int)) fs)))))
    refine (r_one rfl (ex4 q C dx _ ⟨rfl, s7 _ _ e6, T.cl, T.tables, by omega, ?_⟩))
    refine gen_upd fun H8 e8 k8 => ?_
    have r8 := r7.but k8 (s7 _ _ e6)
    have t8 := (t6.same s7).but k8 (s7 _ _ e6)
    have b8 : But q H H8 := b6.trans ((But.of_same s7).trans k8)
    -- self.wants = [[0] * (w * h) for s in range(p)]
    refine (r_one rfl ⟨((p : Nat) : Int), rfl, by omega, by omega, fun aW hW => lc_range (n := ((p : Nat) : Int).toNat) (RowsTo H8 aW (List.replicate (cw * ch) 0)) (RowsTo.zero hW) ?_ ?_⟩)
    · intro i G hi f
      refine ⟨rfl, ?_⟩
      refine ⟨(by show 1 ≤ sizeLine; decide), fun l hl => ?_⟩
      refine (r_one rfl (r_one rfl (r_two rfl rfl ⟨.inr wm, ?_⟩)))
      dsimp only
      rw [emul]
      refine (ex3 l _ _ ⟨rfl, rfl, upd_same, by omega, by omega, hz36, fun l2 hl2 => ?_⟩)
      rw [show (((cw * ch : Nat) : Int)).toNat = cw * ch from rfl, rep_zero]
      have f' := (f.on (Same.new (o := .lst [.int 0]) hl)).on (Same.new (o := .lst (nl (List.replicate (cw * ch) 0))) hl2)
      exact f'.more hW upd_same z0 (by omega)
    intro H9 f9
    have r9 : RowsAt H9 aW (List.replicate p (List.replicate (cw * ch) 0)) := by simpa using f9.rows
    have s9 := f9.1
    have l7 := putF_len "wants" (.ref aW) (putF "tables" (.ref aT) (putF "around" (.ref aA) (putF "p" (.int ((p : Nat) : Int)) (putF "most" (.int ((m : Nat) : Int)) (putF "h" (.int ((ch : Nat) : Int)) (putF "w" (.int ((cw : Nat) : Int)) fs))))))
    refine (r_one rfl (ex4 q C dx _ ⟨rfl, s9 _ _ e8, T.cl, T.wants, by omega, ?_⟩))
    refine gen_upd fun H10 e10 k10 => ?_
    have k810 : But q H8 H10 := (But.of_same s9).trans k10
    have r10 := r8.but k810 e8
    have g10 := r9.but k10 (s9 _ _ e8)
    have t10 := t8.but k810 e8
    have b10 : But q H H10 := b8.trans k810
    -- self.cells = [0] * (w * h)
    refine ⟨(by show 1 ≤ sizeLine; decide), fun l hl => ?_⟩
    refine (r_one rfl (r_one rfl (r_two rfl rfl ⟨.inr wm, ?_⟩)))
    dsimp only
    rw [emul]
    refine (ex3 l _ _ ⟨rfl, rfl, upd_same, by omega, by omega, hz36, fun aC hC => ?_⟩)
    rw [show (((cw * ch : Nat) : Int)).toNat = cw * ch from rfl, rep_zero]
    have s11 : Same H10 (upd (upd H10 l (.lst [.int 0])) aC (.lst (nl (List.replicate (cw * ch) 0)))) := (Same.new hl).trans (Same.new hC)
    have c11 : (upd (upd H10 l (.lst [.int 0])) aC (.lst (nl (List.replicate (cw * ch) 0)))) aC = some (.lst (nl (List.replicate (cw * ch) 0))) := upd_same
    generalize upd (upd H10 l (.lst [.int 0])) aC (.lst (nl (List.replicate (cw * ch) 0))) = H11 at s11 c11 ⊢
    have l8 := putF_len "cells" (.ref aC) (putF "wants" (.ref aW) (putF "tables" (.ref aT) (putF "around" (.ref aA) (putF "p" (.int ((p : Nat) : Int)) (putF "most" (.int ((m : Nat) : Int)) (putF "h" (.int ((ch : Nat) : Int)) (putF "w" (.int ((cw : Nat) : Int)) fs)))))))
    refine (r_one rfl (ex4 q C dx _ ⟨rfl, s11 _ _ e10, T.cl, T.cells, by omega, ?_⟩))
    refine gen_upd fun H12 e12 k12 => ?_
    have k1012 : But q H10 H12 := (But.of_same s11).trans k12
    have c12 := k12.list (s11 _ _ e10) c11
    have b12 : But q H H12 := b10.trans k1012
    -- self.begin_anew()
    have noM : (putF "cells" (.ref aC) (putF "wants" (.ref aW) (putF "tables" (.ref aT) (putF "around" (.ref aA) (putF "p" (.int ((p : Nat) : Int)) (putF "most" (.int ((m : Nat) : Int)) (putF "h" (.int ((ch : Nat) : Int)) (putF "w" (.int ((cw : Nat) : Int)) fs)))))))).lookup ("begin_anew" : Str) = none := by
      rcases hf with rfl | ⟨a, b, c, d, e1', e2', e3', e4', f', g', h', i', j', rfl⟩
      · rfl
      · rfl
    refine ⟨_, rfl, q, dx, _, rfl, e12, noM, q, dx, aC, _, _, rfl, e12, (by rw [lookup_putF, if_pos rfl]), c12, by omega, fun H13 e13 k13 => ?_⟩
    have e13' : H13 q = some (.ins C dx (stF ((cw : Nat) : Int) ((ch : Nat) : Int) ((m : Nat) : Int) ((p : Nat) : Int) (aA, aD) aT aW aC 0 (((List.replicate (cw * ch) 0 : List Nat).sum : Nat) : Int) 0 0 0)) := by
      rw [← hf.new]
      exact e13
    have b13 : But q H H13 := b12.trans k13
    have k1013 := k1012.trans k13
    have fT : H aT = none := b6.free hT fun o ho e => by rw [e, e6] at hT; cases hT
    have fW : H aW = none := b8.free hW fun o ho e => by rw [e, e8] at hW; cases hW
    have nTW : aT ≠ aW := by
      obtain ⟨rs, hr1, _⟩ := r8
      exact ne_of_none hr1 hW
    refine k H13 aT aW ⟨⟨dx, (aA, aD), aC, ?_, ⟨t10.but k1013 e10, hkn.but b13 hq⟩, k13.list e12 c12⟩, r10.but k1013 e10, g10.but k1013 e10, nTW⟩ fT fW b13
    have ep : (Vbecae.newPond cw ch m p).tables.length = p := by simp [Vbecae.newPond]
    show H13 q = some (.ins C dx (stF ((cw : Nat) : Int) ((ch : Nat) : Int) ((m : Nat) : Int) (((Vbecae.newPond cw ch m p).tables.length : Nat) : Int) (aA, aD) aT aW aC 0 (((List.replicate (cw * ch) 0 : List Nat).sum : Nat) : Int) 0 0 0))
    rw [ep]
    exact e13'
/-! ### __init__ -/
def spInit (C : Addr) : Sp := fun vs H Q _ => ∃ (q dx : Addr), vs = [.ref q] ∧ H q = some (.ins C dx []) ∧
  ∀ (H' : Hp) (aT aW : Addr), StateAt C 0 H' q aT aW Vbecae.start → H aT = none → H aW = none → But q H H' → Q .non H'
theorem scInit : FnScope ["self"] ["self"] (defScope sInit) := ⟨rfl, rfl, rfl, by decide +kernel, rfl, by decide +kernel, by decide +kernel⟩
theorem ok_init {f C fN : Addr} {fd dN : FuncData} (F : Fun K "__init__" "State.__init__" sInit f fd) (T : Txt K mg C)
    (N : FnOk P w K mg base CX0 2 fN dN ["self", "w", "h", "most", "p"] (spNew C)) (bN : Binds K dN ["self", "w", "h", "most", "p"] []) (mN : Meth K C "new_pond" fN) : FnOk P w K mg base CX0 3 f fd ["self"] (spInit C) := by
  refine F.ok scInit (fun vs H Q E h => ?_) (fun cdv A' outer s H vs Q E hr h => ?_)
  · obtain ⟨q, dx, rfl, _⟩ := h
    rfl
  · obtain ⟨q, dx, rfl, hq, k⟩ := h
    refine ⟨_, pss_cons (ps_fld (pv 0) (pe_xnew (hash := hashK)) rfl) (pss_one (ps_expr (pe_meth (pv 0) T.cl mN N hr bN .nil pass0 (pa_cons pe_int (pa_cons pe_int (pa_cons pe_int (pa_cons pe_int pa_nil))))))), ?_⟩
    intro d hd
    have s1 : Same H (upd H d (.ext (DX hashK d []))) := Same.new hd
    have hd1 : (upd H d (.ext (DX hashK d []))) d = some (.ext (DX hashK d [])) := upd_same
    generalize upd H d (.ext (DX hashK d [])) = H1 at s1 hd1
    refine (r_one rfl (ex4 q C dx _ ⟨rfl, s1 _ _ hq, T.cl, T.known, (by show 0 < 1000; decide), ?_⟩))
    refine gen_upd fun H2 e2 k2 => ?_
    have e2' : H2 q = some (.ins C dx [("known", .ref d)]) := e2
    have kn : KnownAt 0 H2 d := ⟨[], ⟨k2 _ _ hd1 (ne_of hd1 (s1 _ _ hq) (by intro z; cases z)), fun x hx => nomatch hx⟩, Nat.le_refl _, fun x hx => nomatch hx⟩
    have b2 : But q H H2 := (But.of_same s1).trans k2
    refine (r_one rfl (ex3 q dx _ ⟨rfl, e2', rfl, ex9 0 q dx d _ 1 1 1 1 ⟨rfl, e2', .inl rfl, kn, by decide, by decide, by decide, by decide, by decide, by decide, by decide, by decide, fun H' aT aW S h1 h2 kb => ?_⟩⟩))
    exact k H' aT aW S (b2.free h1 fun o ho e => by rw [e, e2'] at h1; cases h1) (b2.free h2 fun o ho e => by rw [e, e2'] at h2; cases h2) (b2.trans kb)
end
end PD
end
section
set_option Elab.async false
set_option linter.all false
set_option maxRecDepth 100000
set_option maxHeartbeats 2000000
namespace PD
open PySem PySem.Spec PyProof.Rows L2
open Vbecae (at_ share)
abbrev sCPond : Stmt := top 23
abbrev sCTable : Stmt := top 24
abbrev sCGraze : Stmt := top 25
abbrev sCSet : Stmt := top 26
abbrev sCTold : Stmt := top 27
abbrev sCGet : Stmt := top 28
abbrev sCCells : Stmt := top 29
abbrev sCTurns : Stmt := top 30
abbrev sCBook : Stmt := top 31
/-! ### what a call promises -/
def callOf (c : Int) (r : Bool) (ns row : List Int) : List (List Int) := if r = true then [c :: ns, row] else [c :: ns]
/-- all but the object and its two lists is as it was, and none of it becomes one of these -/
def Fr (H : Hp) (p aT aW : Addr) (H' : Hp) (aT' aW' : Addr) : Prop := ∀ b o, H b = some o → b ≠ p → b ≠ aT → b ≠ aW → (∀ φ, o ≠ .ext φ) → H' b = some o ∧ b ≠ aT' ∧ b ≠ aW'
def Goes (C : Addr) (N : Nat) (H : Hp) (p aT aW : Addr) (out : Vbecae.State × List Int) (Q : VK) : Prop :=
  ∀ (H' : Hp) (aT' aW' q : Addr), StateAt C (N + 2) H' p aT' aW' out.1 → H q = none → H' q = some (.lst (out.2.map V.int)) → Fr H p aT aW H' aT' aW' → q ≠ aT' → q ≠ aW' → Q (.ref q) H'
def spCall (C : Addr) (c : Int) (n : Nat) (r : Bool) : Sp := fun vs H Q _ => ∃ (N : Nat) (p aT aW aN aR : Addr) (s : Vbecae.State) (ns row : List Int),
  vs = [.ref p, .ref aN, .ref aR] ∧ StateAt C N H p aT aW s ∧ PM.SOk s ∧ H aN = some (.lst (ns.map V.int)) ∧ H aR = some (.lst (row.map V.int)) ∧ ns.length = n ∧ row.length ≤ 100000 ∧ aR ≠ aT ∧ aR ≠ aW ∧ N ≤ 1000 ∧
  Goes C N H p aT aW (Vbecae.step s (callOf c r ns row)) Q
theorem Fr.same {H H' : Hp} {p aT aW : Addr} (sm : Same H H') : Fr H p aT aW H' aT aW := fun b o e _ n1 n2 _ => ⟨sm b o e, n1, n2⟩
theorem Fr.but {H H' : Hp} {p aT aW : Addr} (sm : But p H H') : Fr H p aT aW H' aT aW := fun b o e n n1 n2 _ => ⟨sm b o e n, n1, n2⟩
theorem StateAt.atT {N : Nat} {C p aT aW : Addr} {H : Hp} {s : Vbecae.State} (S : StateAt C N H p aT aW s) : ∃ o, H aT = some o := let ⟨_, h, _⟩ := S.tb; ⟨_, h⟩
theorem StateAt.atW {N : Nat} {C p aT aW : Addr} {H : Hp} {s : Vbecae.State} (S : StateAt C N H p aT aW s) : ∃ o, H aW = some o := let ⟨_, h, _⟩ := S.gr; ⟨_, h⟩
theorem ne_new {H : Hp} {a q : Addr} (h : ∃ o, H a = some o) (hq : H q = none) : q ≠ a := fun e => by
  obtain ⟨o, ho⟩ := h
  rw [e, ho] at hq
  cases hq
/-- a call that changes nothing -/
theorem Goes.same {N : Nat} {C p aT aW q : Addr} {H H' : Hp} {s : Vbecae.State} {out : Vbecae.State × List Int} {ans : List Int} {Q : VK} (k : Goes C N H p aT aW out Q) (S : StateAt C N H p aT aW s) (e : out = (s, ans)) (sm : Same H H') (hq : H q = none)
    (h : H' q = some (.lst (ans.map V.int))) : Q (.ref q) H' := by
  subst e
  exact k H' aT aW q (S.same sm).two hq h (Fr.same sm) (ne_new S.atT hq) (ne_new S.atW hq)
/-- .. that answers one written number -/
theorem Goes.one {N : Nat} {C p aT aW q : Addr} {H : Hp} {s : Vbecae.State} {out : Vbecae.State × List Int} {z : Int} {Q : VK} (k : Goes C N H p aT aW out Q) (S : StateAt C N H p aT aW s) (e : out = (s, [z])) (hq : H q = none) : Q (.ref q) (upd H q (.lst [.int z])) :=
  k.same S e (Same.new hq) hq upd_same
theorem len1 {l : List Int} (h : l.length = 1) : ∃ a, l = [a] := by
  match l, h with
  | [a], _ => exact ⟨a, rfl⟩
theorem len2 {l : List Int} (h : l.length = 2) : ∃ a b, l = [a, b] := by
  match l, h with
  | [a, b], _ => exact ⟨a, b, rfl⟩
theorem len4 {l : List Int} (h : l.length = 4) : ∃ a b c d, l = [a, b, c, d] := by
  match l, h with
  | [a, b, c, d], _ => exact ⟨a, b, c, d, rfl⟩
theorem len0 {l : List Int} (h : l.length = 0) : l = [] := List.length_eq_zero_iff.mp h
section
variable {P : Program} {w : World} {K : PySem.W.Frag} {mg : Str → Option Value} {base : Heap}
/-! ### is_season, fits_cells -/
def spIsS (C : Addr) : Sp := fun vs H Q _ => ∃ (N : Nat) (p aT aW : Addr) (s : Vbecae.State) (n : Int), vs = [.ref p, .int n] ∧ StateAt C N H p aT aW s ∧ Q (.bl (Vbecae.seasonOk s n)) H
theorem scIsS : FnScope ["state", "s"] ["state", "s"] (defScope sIsS) := ⟨rfl, rfl, rfl, by decide +kernel, rfl, by decide +kernel, by decide +kernel⟩
theorem ok_isS {f C : Addr} {fd : FuncData} (F : Fun K "is_season" "is_season" sIsS f fd) (T : Txt K mg C) : FnOk P w K mg base CX0 1 f fd ["state", "s"] (spIsS C) := by
  refine F.ok scIsS (fun vs H Q E h => ?_) (fun cdv A outer st H vs Q E hr h => ?_)
  · obtain ⟨N, p, aT, aW, s, n, rfl, _⟩ := h
    rfl
  · obtain ⟨N, p, aT, aW, s, n, rfl, S, k⟩ := h
    obtain ⟨dx, aA, aC, h1, h2, h3⟩ := S.ex
    refine ⟨_, pss_one (ps_ret (pe_chain op_le op_lt pe_int (pv 1) (pe_fld (pv 0) rfl))), ?_⟩
    refine (r_one rfl (r_two rfl rfl (r_one rfl ?_)))
    have e : Vbecae.seasonOk s n = (decide (0 ≤ n) && decide (n < ((s.pond.tables.length : Nat) : Int))) := by
      unfold Vbecae.seasonOk Vbecae.isBetween Vbecae.seasons
      congr 1
      exact decide_eq_decide.mpr (by omega)
    rw [e] at k
    refine ite2 (fun hc => ?_) (fun hc => ?_)
    · rw [hc] at k
      exact (r_fld rfl h1 T.cl T.p lk_p (r_two rfl rfl k))
    · rw [Bool.not_eq_true] at hc
      rw [hc] at k
      exact k
def fitsB (s : Vbecae.State) (row : List Int) (g : Int) : Prop := row.length = s.pond.w * s.pond.h ∧ ∀ v ∈ row, 0 ≤ v ∧ v ≤ g
def spFits (C : Addr) (K : PySem.W.Frag) : Sp := fun vs H Q _ => ∃ (N : Nat) (p aT aW a : Addr) (s : Vbecae.State) (row : List Int) (g : Int), vs = [.ref p, .ref a, .int g] ∧ StateAt C N H p aT aW s ∧ s.pond.w ≤ 6 ∧ SqL K H a (row.map V.int) ∧
  ∀ b : Bool, (b = true ↔ fitsB s row g) → Q (.bl b) H
theorem scFits : FnScope ["state", "row", "greatest"] ["state", "row", "greatest"] (defScope sFits) := ⟨rfl, rfl, rfl, by decide +kernel, rfl, by decide +kernel, by decide +kernel⟩
theorem ok_fits {f C fW : Addr} {fd dW : FuncData} (F : Fun K "fits_cells" "fits_cells" sFits f fd) (T : Txt K mg C) (B : Bl mg)
    (W : FnOk P w K mg base CX0 1 fW dW ["numbers", "least", "greatest"] (spWithin K)) (mW : mg "all_within" = some (.ref fW)) (kW : PySem.W.keepIn K (.ref fW) = true) (bW : Binds K dW ["numbers", "least", "greatest"] []) :
    FnOk P w K mg base CX0 2 f fd ["state", "row", "greatest"] (spFits C K) := by
  refine F.ok scFits (fun vs H Q E h => ?_) (fun cdv A outer st H vs Q E hr h => ?_)
  · obtain ⟨N, p, aT, aW, a, s, row, g, rfl, _⟩ := h
    rfl
  · obtain ⟨N, p, aT, aW, a, s, row, g, rfl, S, w6, hx, k⟩ := h
    obtain ⟨dx, aA, aC, h1, h2, h3⟩ := S.ex
    refine ⟨_, pss_one (ps_ret (pe_and (pe_cmpR op_eq (pe_callB call_len_seq (by rfl) B.len PySem.boot_len (pa_cons (pv 1) pa_nil)) (pe_op op_mul (pe_fld (pv 0) rfl) (pe_fld (pv 0) rfl)) (nomark _))
      (pe_one (pe_call W hr rfl mW kW bW .nil pass0 (pa_cons (pv 1) (pa_cons pe_int (pa_cons (pv 2) pa_nil))))))), ?_⟩
    refine (r_one rfl (ex2 a _ ⟨rfl, .inl hx, r_fld rfl h1 T.cl T.w lk_w (r_fld rfl h1 T.cl T.h lk_h (r_two rfl rfl ⟨.inl ⟨by omega, by omega⟩, rfl, r_one rfl ?_⟩))⟩))
    have el : decide (V.int (((row.map V.int).length : Nat) : Int) = V.int (((s.pond.w : Nat) : Int) * ((s.pond.h : Nat) : Int))) = decide (row.length = s.pond.w * s.pond.h) := by
      rw [← Int.natCast_mul, List.length_map]
      refine decide_eq_decide.mpr ⟨fun q => ?_, fun q => by rw [q]⟩
      injection q with q
      exact Int.ofNat.inj q
    rw [el]
    refine ite2 (fun hc => ?_) (fun hc => ?_)
    · have hc := of_decide_eq_true hc
      refine (r_one rfl (r_one rfl (ex4 a row 0 g ⟨rfl, hx, fun b hb => ?_⟩)))
      exact k b (hb.trans ⟨fun q => ⟨hc, q⟩, fun q => q.2⟩)
    · have hc : ¬ row.length = s.pond.w * s.pond.h := fun q => hc (decide_eq_true q)
      exact k false ⟨fun q => (Bool.false_ne_true q).elim, fun q => (hc q.1).elim⟩
/-- lo <= x <= hi, and what is made of it -/
theorem chain_le {R : Bool → Hp → Prop} {lo x hi : Int} {H : Hp} (h : R (Vbecae.isBetween x lo hi) H) :
    if decide (lo ≤ x) = true then ∃ i j, V.int x = .int i ∧ V.int hi = .int j ∧ ∃ k, V.bl (decide (i ≤ j)) = .bl k ∧ R k H else ∃ k, V.bl false = .bl k ∧ R k H := by
  unfold Vbecae.isBetween at h
  refine ite2 (fun hc => ?_) (fun hc => ?_)
  · rw [hc] at h
    exact (r_two rfl rfl (r_one rfl h))
  · rw [Bool.not_eq_true] at hc
    rw [hc] at h
    exact (r_one rfl h)
/-! ### pond -/
theorem scCPond : FnScope ["state", "numbers", "row", "w", "h", "most", "p"] ["state", "numbers", "row"] (defScope sCPond) := ⟨rfl, rfl, rfl, by decide +kernel, rfl, by decide +kernel, by decide +kernel⟩
theorem step_pond (s : Vbecae.State) (a b c d : Int) : Vbecae.step s [[0, a, b, c, d]] = Vbecae.act s (.pond a b c d) := rfl
theorem btw {n lo hi : Int} {b : Bool} (h : b = true ↔ lo ≤ n ∧ n ≤ hi) : Vbecae.isBetween n lo hi = b := by
  rw [Bool.eq_iff_iff, PM.between_iff]
  exact h.symm
theorem ok_cpond {f C fW fN : Addr} {fd dW dN : FuncData} (F : Fun K "call_pond" "call_pond" sCPond f fd) (T : Txt K mg C) (B : Bl mg)
    (W : FnOk P w K mg base CX0 1 fW dW ["numbers", "least", "greatest"] (spWithin K)) (mW : mg "all_within" = some (.ref fW)) (kW : PySem.W.keepIn K (.ref fW) = true) (bW : Binds K dW ["numbers", "least", "greatest"] [])
    (N : FnOk P w K mg base CX0 2 fN dN ["self", "w", "h", "most", "p"] (spNew C)) (bN : Binds K dN ["self", "w", "h", "most", "p"] []) (mN : Meth K C "new_pond" fN) :
    FnOk P w K mg base CX0 3 f fd ["state", "numbers", "row"] (spCall C 0 4 false) := by
  refine F.ok scCPond (fun vs H Q E h => ?_) (fun cdv A outer st H vs Q E hr h => ?_)
  · obtain ⟨N0, p, aT, aW, aN, aR, s, ns, row, rfl, _⟩ := h
    rfl
  · obtain ⟨N0, p, aT, aW, aN, aR, s, ns, row, rfl, S, ok, hN, hR, hlen, hrow, nRT, nRW, nN, k⟩ := h
    obtain ⟨a, b, c, d, rfl⟩ := len4 hlen
    obtain ⟨dx, aA, aC, h1, h2, h3⟩ := S.ex
    have hr1 : Room 1 _ := hr.mono (by decide)
    refine ⟨_, pss_cons (ps_set (i := 3) scCPond.nd rfl (Or.inl rfl) (pe_ix ix_list (pv 1) pe_int (fun _ _ => rfl))) (pss_cons (ps_set (i := 4) scCPond.nd rfl (Or.inl rfl) (pe_ix ix_list (pv 1) pe_int (fun _ _ => rfl)))
      (pss_cons (ps_set (i := 5) scCPond.nd rfl (Or.inl rfl) (pe_ix ix_list (pv 1) pe_int (fun _ _ => rfl))) (pss_cons (ps_set (i := 6) scCPond.nd rfl (Or.inl rfl) (pe_ix ix_list (pv 1) pe_int (fun _ _ => rfl)))
      (pss_cons (ps_if (pt_not (pt_val (pe_call W hr1 rfl mW kW bW .nil pass0 (pa_cons (pe_lst (pa_cons (pv 3) (pa_cons (pv 4) pa_nil))) (pa_cons pe_int (pa_cons pe_int pa_nil)))))) (pss_one (ps_ret (pe_lst (pa_cons (pe_un un_neg pe_int) pa_nil)))) pss_nil)
      (pss_cons (ps_if (pt_not (pt_chain op_le op_le pe_int (pv 5) pe_int)) (pss_one (ps_ret (pe_lst (pa_cons (pe_un un_neg pe_int) pa_nil)))) pss_nil)
      (pss_cons (ps_if (pt_not (pt_chain op_le op_le pe_int (pv 6) pe_int)) (pss_one (ps_ret (pe_lst (pa_cons (pe_un un_neg pe_int) pa_nil)))) pss_nil)
      (pss_cons (ps_expr (pe_meth (pv 0) T.cl mN N hr bN .nil pass0 (pa_cons (pv 3) (pa_cons (pv 4) (pa_cons (pv 5) (pa_cons (pv 6) pa_nil))))))
      (pss_one (ps_ret (pe_lst (pa_cons pe_int pa_nil))))))))))), ?_⟩
    have k0 : Goes C N0 H p aT aW (Vbecae.act s (.pond a b c d)) Q := k
    refine (r_one rfl (r_ixL (SqL.of hN) (at_of (j := 0) rfl rfl) ?_))
    refine (r_one rfl (r_ixL (SqL.of hN) (at_of (j := 1) rfl rfl) ?_))
    refine (r_one rfl (r_ixL (SqL.of hN) (at_of (j := 2) rfl rfl) ?_))
    refine (r_one rfl (r_ixL (SqL.of hN) (at_of (j := 3) rfl rfl) ?_))
    -- if not all_within([w, h], 1, 6)
    refine (r_one rfl (r_one rfl ⟨(by show 2 ≤ sizeLine; decide), fun t ht => ?_⟩))
    refine ⟨t, [a, b], ex2 1 6 ⟨rfl, SqL.of upd_same, fun c1 hc1 => ⟨c1, rfl, ?_⟩⟩⟩
    have hc1' : c1 = true ↔ (1 ≤ a ∧ a ≤ 6) ∧ (1 ≤ b ∧ b ≤ 6) := hc1.trans ⟨fun q => ⟨q a (by simp), q b (by simp)⟩, fun q v hv => by
      simp at hv
      rcases hv with rfl | rfl
      · exact q.1
      · exact q.2⟩
    have s1 : Same H (upd H t (.lst [.int a, .int b])) := Same.new ht
    generalize upd H t (.lst [.int a, .int b]) = H1 at s1
    have e1 : (Vbecae.isBetween a 1 6 = false ∨ Vbecae.isBetween b 1 6 = false) ↔ ¬ ((1 ≤ a ∧ a ≤ 6) ∧ (1 ≤ b ∧ b ≤ 6)) := by
      rw [PM.between_not, PM.between_not]
      omega
    refine ite2 (fun hc => ?_) (fun hc => ?_)
    · have hc : ¬ ((1 ≤ a ∧ a ≤ 6) ∧ (1 ≤ b ∧ b ≤ 6)) := fun q => by
        rw [hc1'.mpr q] at hc
        cases hc
      refine (r_one rfl ⟨(by show 1 ≤ sizeLine; decide), fun q hq => ?_⟩)
      exact k0.same S (show Vbecae.act s (.pond a b c d) = (s, [-1]) by unfold Vbecae.act; simp only [if_pos (e1.mpr hc)]) (s1.upd (s1.free hq)) (s1.free hq) upd_same
    have hc2 : (1 ≤ a ∧ a ≤ 6) ∧ (1 ≤ b ∧ b ≤ 6) := hc1'.mp (by cases c1 with | true => rfl | false => exact (hc rfl).elim)
    have ne1 : ¬ (Vbecae.isBetween a 1 6 = false ∨ Vbecae.isBetween b 1 6 = false) := fun q => e1.mp q hc2
    -- if not 1 <= most <= 60
    refine (r_one rfl (r_two rfl rfl (r_one rfl (chain_le ?_))))
    refine ite2 (fun hc => ?_) (fun hc => ?_)
    · have hc : Vbecae.isBetween c 1 60 = false := by simpa using hc
      refine (r_one rfl ⟨(by show 1 ≤ sizeLine; decide), fun q hq => ?_⟩)
      exact k0.same S (show Vbecae.act s (.pond a b c d) = (s, [-2]) by unfold Vbecae.act; simp only [if_neg ne1, if_pos hc]) (s1.upd (s1.free hq)) (s1.free hq) upd_same
    have ne2 : ¬ Vbecae.isBetween c 1 60 = false := fun q => hc (by rw [q]; rfl)
    have hc3 := PM.between_iff.mp (by simpa using ne2 : Vbecae.isBetween c 1 60 = true)
    -- if not 1 <= p <= 8
    refine (r_one rfl (r_two rfl rfl (r_one rfl (chain_le ?_))))
    refine ite2 (fun hc => ?_) (fun hc => ?_)
    · have hc : Vbecae.isBetween d 1 8 = false := by simpa using hc
      refine (r_one rfl ⟨(by show 1 ≤ sizeLine; decide), fun q hq => ?_⟩)
      exact k0.same S (show Vbecae.act s (.pond a b c d) = (s, [-3]) by unfold Vbecae.act; simp only [if_neg ne1, if_neg ne2, if_pos hc]) (s1.upd (s1.free hq)) (s1.free hq) upd_same
    have ne3 : ¬ Vbecae.isBetween d 1 8 = false := fun q => hc (by rw [q]; rfl)
    have hc4 := PM.between_iff.mp (by simpa using ne3 : Vbecae.isBetween d 1 8 = true)
    -- state.new_pond(w, h, most, p)
    obtain ⟨a', rfl⟩ := Int.eq_ofNat_of_zero_le (show 0 ≤ a by omega)
    obtain ⟨b', rfl⟩ := Int.eq_ofNat_of_zero_le (show 0 ≤ b by omega)
    obtain ⟨c', rfl⟩ := Int.eq_ofNat_of_zero_le (show 0 ≤ c by omega)
    obtain ⟨d', rfl⟩ := Int.eq_ofNat_of_zero_le (show 0 ≤ d by omega)
    refine (r_one rfl (ex3 p dx _ ⟨rfl, s1 _ _ h1, rfl, r_one rfl (r_one rfl (r_one rfl (r_one rfl (ex9 N0 p dx aA.2 _ a' b' c' d' ⟨rfl, s1 _ _ h1, .inr ⟨_, _, _, _, _, _, _, _, _, _, _, _, _, rfl⟩, h2.2.same s1, by omega, by omega, by omega, by omega, by omega, by omega, by omega, by omega, fun H2 aT' aW' S2 fT fW kb => ?_⟩))))⟩))
    refine ⟨(by show 1 ≤ sizeLine; decide), fun q hq => ?_⟩
    have kb' : But p H H2 := (But.of_same s1).trans kb
    have e : Vbecae.act s (.pond a' b' c' d') = (newS a' b' c' d', [0]) := by
      unfold Vbecae.act
      simp only [if_neg ne1, if_neg ne2, if_neg ne3]
      rfl
    rw [e] at k0
    have hq' : H q = none := kb'.free hq fun o ho e => by
      obtain ⟨dx', _, _, h1', _⟩ := S2.ex
      rw [e, h1'] at hq
      cases hq
    have fT' := s1.free fT
    have fW' := s1.free fW
    exact k0 _ aT' aW' q (S2.same (Same.new hq)).two hq' upd_same (fun x o hx np _ _ _ => ⟨by rw [upd_ne (ne_of_none (kb' x o hx np) hq)]; exact kb' x o hx np, ne_of_none hx fT', ne_of_none hx fW'⟩) (ne_new S2.atT hq) (ne_new S2.atW hq)
end
end PD
end
section
set_option Elab.async false
set_option linter.all false
set_option maxRecDepth 100000
set_option maxHeartbeats 2000000
namespace PD
open PySem PySem.Spec PyProof.Rows L2
open Vbecae (at_ share)
/-! ### the two lists that change -/
theorem refs_ne {rs : List Addr} {x : List Nat} (h : x ≠ []) (e : HO.lst (rs.map V.ref) = HO.lst (nl x)) : False := by
  have e2 : rs.map V.ref = nl x := by injection e
  cases x with
  | nil => exact h rfl
  | cons a x =>
    cases rs with
    | nil => cases e2
    | cons b rs =>
      have e3 : V.ref b = V.int ((a : Nat) : Int) := (List.cons.inj e2).1
      cases e3
theorem ne_row {H : Hp} {a r : Addr} {rs : List Addr} {x : List Nat} (h : H a = some (.lst (rs.map V.ref))) (hr : H r = some (.lst (nl x))) (hx : x ≠ []) : r ≠ a := fun e => by
  rw [e, h] at hr
  exact refs_ne hx (Option.some.inj hr)
theorem refs_inj : ∀ {ts rs : List Addr}, ts.map V.ref = rs.map V.ref → ts = rs
  | [], [], _ => rfl
  | a :: ts, b :: rs, h => by
    obtain ⟨h1, h2⟩ := List.cons.inj (show V.ref a :: ts.map V.ref = V.ref b :: rs.map V.ref from h)
    injection h1 with h1
    rw [h1, refs_inj h2]
  | [], _ :: _, h => by cases h
  | _ :: _, [], h => by cases h
/-- the list of the neighbours is not one of rows -/
theorem tups_ne {H : Hp} {aA a : Addr} {cw ch n : Nat} {rows : List (List Nat)} (t : TupsAt H aA cw ch n) (r : RowsAt H a rows) (hn : 1 ≤ n) (hr : 1 ≤ rows.length) : aA ≠ a := fun e => by
  obtain ⟨ts, h1, h2, h3⟩ := t
  obtain ⟨rs, g1, g2, g3⟩ := r
  rw [e, g1] at h1
  have e2 : rs = ts := refs_inj (by injection h1 with h1; injection h1)
  subst e2
  obtain ⟨b, hb⟩ : ∃ b, rs[0]? = some b := ⟨_, List.getElem?_eq_getElem (by omega)⟩
  obtain ⟨u, hu⟩ : ∃ u, rows[0]? = some u := ⟨_, List.getElem?_eq_getElem (by omega)⟩
  have k1 := h3 0 b hb
  have k2 := g3 0 b u hb hu
  rw [k1] at k2
  cases k2
theorem TupsAt.butL {H H' : Hp} {aA a : Addr} {cw ch n : Nat} {xs : List V} (t : TupsAt H aA cw ch n) (k : But a H H') (ha : H a = some (.lst xs)) (ne : aA ≠ a) : TupsAt H' aA cw ch n := by
  obtain ⟨ts, h1, h2, h3⟩ := t
  exact ⟨ts, k _ _ h1 ne, h2, fun i t ht => k _ _ (h3 i t ht) (ne_of (h3 i t ht) ha (by intro z; cases z))⟩
theorem RowsAt.butL {H H' : Hp} {aA a : Addr} {rs : List Addr} {rows : List (List Nat)} (r : RowsAt H aA rows) (k : But a H H') (ha : H a = some (.lst (rs.map V.ref))) (ne : aA ≠ a) (hne : ∀ t ∈ rows, t ≠ []) : RowsAt H' aA rows := by
  obtain ⟨ts, h1, h2, h3⟩ := r
  exact ⟨ts, k _ _ h1 ne, h2, fun i b t hb ht => k _ _ (h3 i b t hb ht) (ne_row ha (h3 i b t hb ht) (hne t (List.mem_of_getElem? ht)))⟩
theorem RowsAt.set {H H' : Hp} {a b : Addr} {rs : List Addr} {rows : List (List Nat)} {n : Nat} {t : List Nat} (r : RowsAt H a rows) (k : But a H H') (ha : H a = some (.lst (rs.map V.ref))) (h' : H' a = some (.lst ((rs.map V.ref).set n (.ref b))))
    (hb : H b = some (.lst (nl t))) (ht : t ≠ []) (hne : ∀ t ∈ rows, t ≠ []) : RowsAt H' a (rows.set n t) := by
  obtain ⟨ts, h1, h2, h3⟩ := r
  have e : rs = ts := refs_inj (by rw [ha] at h1; injection h1 with h1; injection h1)
  subst e
  refine ⟨rs.set n b, by rw [h', List.map_set], by rw [List.length_set, List.length_set]; exact h2, fun i c u hc hu => ?_⟩
  by_cases e : i = n
  · subst e
    have hi : i < rs.length := by
      have := (List.getElem?_eq_some_iff.mp hc).1
      simpa using this
    rw [List.getElem?_set_self hi] at hc
    rw [List.getElem?_set_self (by omega)] at hu
    cases hc
    cases hu
    exact k _ _ hb (ne_row ha hb ht)
  · rw [List.getElem?_set_ne (fun q => e q.symm)] at hc hu
    exact k _ _ (h3 i c u hc hu) (ne_row ha (h3 i c u hc hu) (hne u (List.mem_of_getElem? hu)))
theorem tb_ne {a : Vbecae.Pond} (o : PM.POk a) : ∀ t ∈ a.tables, t ≠ [] := fun t ht e => by
  have := (o.tb t ht).len
  rw [e] at this
  cases this
theorem gr_ne {a : Vbecae.Pond} (o : PM.POk a) : ∀ t ∈ a.grazed, t ≠ [] := fun t ht e => by
  have h1 := (o.gw t ht).len
  have h2 := o.n1
  rw [e, List.length_nil] at h1
  omega
theorem cells_ne {s : Vbecae.State} (o : PM.SOk s) : s.cells ≠ [] := fun e => by
  have h1 := o.cells.len
  have h2 := o.pond.n1
  rw [e, List.length_nil] at h1
  omega
theorem KnownAt.butL {N : Nat} {H H' : Hp} {k a : Addr} {rs : List Addr} (h : KnownAt N H k) (b : But a H H') (ha : H a = some (.lst (rs.map V.ref))) : KnownAt N H' k := h.keep fun c o e r => b c o e fun q => by
  rw [q, ha] at e
  rcases r with ⟨_, e2⟩ | ⟨_, e2⟩ | ⟨z, hz, e2⟩
  · rw [e2] at e
    cases e
  · rw [e2] at e
    cases e
  · rw [e2] at e
    exact refs_ne hz (Option.some.inj e)
theorem Arnd.butL {N : Nat} {H H' : Hp} {aA : Addr × Addr} {a : Addr} {rs : List Addr} {cw ch n : Nat} (t : Arnd N H aA cw ch n) (k : But a H H') (ha : H a = some (.lst (rs.map V.ref))) (ne : aA.1 ≠ a) : Arnd N H' aA cw ch n := ⟨t.1.butL k ha ne, t.2.butL k ha⟩
/-- the state with another list of tables, before all begins anew -/
theorem StateAt.setT {N : Nat} {C p aT aW b : Addr} {H H' : Hp} {s : Vbecae.State} {rs : List Addr} {n : Nat} {t : List Nat} (S : StateAt C N H p aT aW s) (o : PM.SOk s) (ha : H aT = some (.lst (rs.map V.ref))) (k : But aT H H') (h' : H' aT = some (.lst ((rs.map V.ref).set n (.ref b))))
    (hb : H b = some (.lst (nl t))) (ht : t ≠ []) : StateAt C N H' p aT aW { s with pond := { w := s.pond.w, h := s.pond.h, most := s.pond.most, tables := s.pond.tables.set n t, grazed := s.pond.grazed } } := by
  obtain ⟨dx, aA, aC, h1, h2, h3⟩ := S.ex
  obtain ⟨rw', g1, g2, g3⟩ := id S.gr
  refine ⟨⟨dx, aA, aC, ?_, h2.butL k ha (tups_ne h2.1 S.tb o.pond.n1 o.pond.p1), k _ _ h3 (ne_row ha h3 (cells_ne o))⟩, S.tb.set k ha h' hb ht (tb_ne o.pond), S.gr.butL k ha (fun e => S.ne e.symm) (gr_ne o.pond), S.ne⟩
  rw [k _ _ h1 (ne_of h1 ha (by intro z; cases z))]
  show some (HO.ins C dx (stF _ _ _ (((s.pond.tables.length : Nat) : Int)) _ _ _ _ _ _ _ _ _)) = some (HO.ins C dx (stF _ _ _ ((((s.pond.tables.set n t).length : Nat) : Int)) _ _ _ _ _ _ _ _ _))
  rw [List.length_set]
theorem StateAt.setW {N : Nat} {C p aT aW b : Addr} {H H' : Hp} {s : Vbecae.State} {rs : List Addr} {n : Nat} {t : List Nat} (S : StateAt C N H p aT aW s) (o : PM.SOk s) (ha : H aW = some (.lst (rs.map V.ref))) (k : But aW H H') (h' : H' aW = some (.lst ((rs.map V.ref).set n (.ref b))))
    (hb : H b = some (.lst (nl t))) (ht : t ≠ []) : StateAt C N H' p aT aW { s with pond := { w := s.pond.w, h := s.pond.h, most := s.pond.most, tables := s.pond.tables, grazed := s.pond.grazed.set n t } } := by
  obtain ⟨dx, aA, aC, h1, h2, h3⟩ := S.ex
  refine ⟨⟨dx, aA, aC, ?_, h2.butL k ha (tups_ne h2.1 S.gr o.pond.n1 (by rw [o.pond.gl]; exact o.pond.p1)), k _ _ h3 (ne_row ha h3 (cells_ne o))⟩, S.tb.butL k ha S.ne (tb_ne o.pond), S.gr.set k ha h' hb ht (gr_ne o.pond), S.ne⟩
  exact k _ _ h1 (ne_of h1 ha (by intro z; cases z))
theorem anew_st (z : Int) (cw ch m p : Int) (aA : Addr × Addr) (aT aW aC : Addr) (se fi gr di ea : Int) : anewF z (stF cw ch m p aA aT aW aC se fi gr di ea) = stF cw ch m p aA aT aW aC 0 z 0 0 0 := by rfl
/-- all has begun anew -/
theorem StateAt.anew {N : Nat} {C p aT aW dx aC : Addr} {aA : Addr × Addr} {H H' : Hp} {s : Vbecae.State} (S : StateAt C N H p aT aW s) (h1 : H p = some (.ins C dx (stOf s aA aT aW aC))) (h2 : Arnd N H aA s.pond.w s.pond.h (s.pond.w * s.pond.h)) (h3 : H aC = some (.lst (nl s.cells)))
    (e : H' p = some (.ins C dx (anewF ((s.cells.sum : Nat) : Int) (stOf s aA aT aW aC)))) (k : But p H H') : StateAt C N H' p aT aW (Vbecae.fresh s.pond s.cells) := by
  rw [anew_st] at e
  exact ⟨⟨dx, aA, aC, e, h2.but k h1, k.list h1 h3⟩, S.tb.but k h1, S.gr.but k h1, S.ne⟩
theorem nat_list {row : List Int} {m : Nat} (h : ∀ v ∈ row, 0 ≤ v ∧ v ≤ (m : Int)) : row.map V.int = nl (row.map Int.toNat) := by
  unfold nl Vbecae.ints
  rw [List.map_map, List.map_map]
  apply List.map_congr_left
  intro v hv
  have := (h v hv).1
  show V.int v = V.int ((v.toNat : Nat) : Int)
  congr 1
  omega
section
variable {P : Program} {w : World} {K : PySem.W.Frag} {mg : Str → Option Value} {base : Heap}
/-! ### table -/
theorem scCTable : FnScope ["state", "numbers", "row", "s"] ["state", "numbers", "row"] (defScope sCTable) := ⟨rfl, rfl, rfl, by decide +kernel, rfl, by decide +kernel, by decide +kernel⟩
theorem falls_rising {row : List Int} {m : Nat} (h : ∀ v ∈ row, 0 ≤ v ∧ v ≤ (m : Int)) : Vbecae.rising (row.map Int.toNat) = true ↔ ∀ (i : Nat) (u v : Int), row[i]? = some u → row[i + 1]? = some v → u ≤ v := by
  rw [PM.rising_iff]
  constructor
  · intro q i u v hu hv
    have h1 := (List.getElem?_eq_some_iff.mp hv).1
    have := q i (by simpa using h1)
    rw [PM.at_some (show (row.map Int.toNat)[i]? = some u.toNat by rw [List.getElem?_map, hu]; rfl), PM.at_some (show (row.map Int.toNat)[i + 1]? = some v.toNat by rw [List.getElem?_map, hv]; rfl)] at this
    have := (h u (List.mem_of_getElem? hu)).1
    have := (h v (List.mem_of_getElem? hv)).1
    omega
  · intro q i hi
    have hi : i + 1 < row.length := by simpa using hi
    have g1 := List.getElem?_eq_getElem hi
    have g2 := List.getElem?_eq_getElem (show i < row.length by omega)
    have := q i _ _ g2 g1
    rw [PM.at_some (show (row.map Int.toNat)[i]? = some (row[i]).toNat by rw [List.getElem?_map, g2]; rfl), PM.at_some (show (row.map Int.toNat)[i + 1]? = some (row[i + 1]).toNat by rw [List.getElem?_map, g1]; rfl)]
    omega
theorem ok_ctable {f C fI fW fL fB : Addr} {fd dI dW dL dB : FuncData} (F : Fun K "call_table" "call_table" sCTable f fd) (T : Txt K mg C) (B : Bl mg)
    (I : FnOk P w K mg base CX0 1 fI dI ["state", "s"] (spIsS C)) (mI : mg "is_season" = some (.ref fI)) (kI : PySem.W.keepIn K (.ref fI) = true) (bI : Binds K dI ["state", "s"] [])
    (W : FnOk P w K mg base CX0 1 fW dW ["numbers", "least", "greatest"] (spWithin K)) (mW : mg "all_within" = some (.ref fW)) (kW : PySem.W.keepIn K (.ref fW) = true) (bW : Binds K dW ["numbers", "least", "greatest"] [])
    (L : FnOk P w K mg base CX0 1 fL dL ["numbers"] (spFalls K)) (mL : mg "never_falls" = some (.ref fL)) (kL : PySem.W.keepIn K (.ref fL) = true) (bL : Binds K dL ["numbers"] [])
    (A : FnOk P w K mg base CX0 1 fB dB ["self"] (spAnew C)) (bB : Binds K dB ["self"] []) (mB : Meth K C "begin_anew" fB) :
    FnOk P w K mg base CX0 2 f fd ["state", "numbers", "row"] (spCall C 1 1 true) := by
  refine F.ok scCTable (fun vs H Q E h => ?_) (fun cdv A' outer st H vs Q E hr h => ?_)
  · obtain ⟨N, p, aT, aW, aN, aR, s, ns, row, rfl, _⟩ := h
    rfl
  · obtain ⟨N, p, aT, aW, aN, aR, s, ns, row, rfl, S, ok, hN, hR, hlen, hrow, nRT, nRW, nN, k⟩ := h
    obtain ⟨n, rfl⟩ := len1 hlen
    obtain ⟨dx, aA, aC, h1, h2, h3⟩ := id S.ex
    refine ⟨_, pss_cons (ps_set (i := 3) scCTable.nd rfl (Or.inl rfl) (pe_ix ix_list (pv 1) pe_int (fun _ _ => rfl)))
      (pss_cons (ps_if (pt_not (pt_val (pe_call I hr rfl mI kI bI .nil pass0 (pa_cons (pv 0) (pa_cons (pv 3) pa_nil))))) (pss_one (ps_ret (pe_lst (pa_cons (pe_un un_neg pe_int) pa_nil)))) pss_nil)
      (pss_cons (ps_if (PW.pt (pw_or (pt_cmpR op_ne (pe_callB call_len_seq (by rfl) B.len PySem.boot_len (pa_cons (pv 2) pa_nil)) (pe_op op_add (pe_fld (pv 0) rfl) pe_int) (nomark _))
        (pw_or (pt_not (pt_val (pe_call W hr rfl mW kW bW .nil pass0 (pa_cons (pv 2) (pa_cons pe_int (pa_cons (pe_fld (pv 0) rfl) pa_nil))))))
        (pw_or1 (pt_not (pt_val (pe_call L hr rfl mL kL bL .nil pass0 (pa_cons (pv 2) pa_nil)))))))) (pss_one (ps_ret (pe_lst (pa_cons (pe_un un_neg pe_int) pa_nil)))) pss_nil)
      (pss_cons (ps_asg (pv 2) (pg_sub (pe_fld (pv 0) rfl) (pv 3) set_list))
      (pss_cons (ps_expr (pe_meth0 (pv 0) T.cl mB A hr bB .nil pass0))
      (pss_one (ps_ret (pe_lst (pa_cons pe_int pa_nil)))))))), ?_⟩
    have k0 : Goes C N H p aT aW (Vbecae.act s (.table n row)) Q := k
    refine (r_one rfl (r_ixL (SqL.of hN) (at_of (j := 0) rfl rfl) ?_))
    -- if not is_season(state, s)
    refine ⟨_, rfl, _, rfl, N, p, aT, aW, s, n, rfl, S, _, rfl, ?_⟩
    refine ite2 (fun hc => ?_) (fun hc => ?_)
    · have hc : Vbecae.seasonOk s n = false := by simpa using hc
      refine (r_one rfl ⟨(by show 1 ≤ sizeLine; decide), fun q hq => ?_⟩)
      exact k0.one S (show Vbecae.act s (.table n row) = (s, [-4]) by unfold Vbecae.act; simp only [if_pos hc]) hq
    have ne1 : ¬ Vbecae.seasonOk s n = false := fun q => hc (by rw [q]; rfl)
    have hs := PM.between_iff.mp (by simpa [Vbecae.seasonOk] using ne1 : Vbecae.isBetween n 0 ((Vbecae.seasons s.pond : Int) - 1) = true)
    have bad : Vbecae.listOf (s.pond.most + 1) s.pond.most row = none → Vbecae.act s (.table n row) = (s, [-5]) := fun e => by
      unfold Vbecae.act
      simp only [if_neg ne1, e]
    -- the row
    refine (r_one rfl (ex2 aR _ ⟨rfl, .inl (SqL.of hR), r_fld rfl h1 T.cl T.most lk_most (r_two rfl rfl ⟨rfl, r_one rfl ?_⟩)⟩))
    have el : decide (V.int (((row.map V.int).length : Nat) : Int) = V.int (((s.pond.most : Nat) : Int) + 1)) = decide (row.length = s.pond.most + 1) := by
      rw [List.length_map]
      refine decide_eq_decide.mpr ⟨fun q => ?_, fun q => by rw [q]; rfl⟩
      injection q with q
      omega
    rw [el]
    refine ite2 (fun hc => ?_) (fun hc => ?_)
    · have hc : ¬ row.length = s.pond.most + 1 := by simpa using hc
      refine (r_one rfl ⟨(by show 1 ≤ sizeLine; decide), fun q hq => ?_⟩)
      exact k0.one S (bad (PM.listOf_none fun z => hc z.1)) hq
    have hl : row.length = s.pond.most + 1 := by simpa using hc
    refine (r_one rfl (r_fld rfl h1 T.cl T.most lk_most (ex4 aR row 0 _ ⟨rfl, SqL.of hR, fun b1 hb1 => ⟨b1, rfl, ?_⟩⟩)))
    refine ite2 (fun hc => ?_) (fun hc => ?_)
    · have hc : ¬ ∀ v ∈ row, 0 ≤ v ∧ v ≤ ((s.pond.most : Nat) : Int) := fun z => by
        rw [hb1.mpr z] at hc
        cases hc
      refine (r_one rfl ⟨(by show 1 ≤ sizeLine; decide), fun q hq => ?_⟩)
      exact k0.one S (bad (PM.listOf_none fun z => hc z.2)) hq
    have ha : ∀ v ∈ row, 0 ≤ v ∧ v ≤ ((s.pond.most : Nat) : Int) := hb1.mp (by cases b1 with | true => rfl | false => exact (hc rfl).elim)
    have eL := PM.listOf_some hl ha
    refine (r_one rfl (ex2 aR row ⟨rfl, SqL.of hR, hrow, fun b2 hb2 => ⟨b2, rfl, ?_⟩⟩))
    have hb3 := hb2.trans (falls_rising ha).symm
    refine ite2 (fun hc => ?_) (fun hc => ?_)
    · have hc : Vbecae.rising (row.map Int.toNat) = false := by
        cases e : Vbecae.rising (row.map Int.toNat) with
        | false => rfl
        | true =>
          rw [hb3.mpr e] at hc
          cases hc
      refine (r_one rfl ⟨(by show 1 ≤ sizeLine; decide), fun q hq => ?_⟩)
      exact k0.one S (show Vbecae.act s (.table n row) = (s, [-5]) by unfold Vbecae.act; simp only [if_neg ne1, eL, if_pos hc]) hq
    have hri : Vbecae.rising (row.map Int.toNat) = true := hb3.mp (by cases b2 with | true => rfl | false => exact (hc rfl).elim)
    have nri : ¬ Vbecae.rising (row.map Int.toNat) = false := by rw [hri]; exact Bool.noConfusion
    -- state.tables[s] = row
    obtain ⟨n', rfl⟩ := Int.eq_ofNat_of_zero_le hs.1
    have hn' : n' < s.pond.tables.length := by
      have := hs.2
      unfold Vbecae.seasons at this
      omega
    have eR : row.map V.int = nl (row.map Int.toNat) := nat_list ha
    rw [eR] at hR
    have tne : row.map Int.toNat ≠ [] := fun e => by
      have := congrArg List.length e
      simp at this
      rw [this] at hl
      simp at hl
    obtain ⟨rs, r1, r2, r3⟩ := id S.tb
    refine (r_one rfl (r_fld rfl h1 T.cl T.tables lk_tables (r_one rfl (ex4 aT _ _ n' ⟨rfl, rfl, r1, ixN_nat (by rw [List.length_map]; omega), ?_⟩))))
    refine gen_upd fun H1 e1 k1 => ?_
    have S1 := S.setT ok r1 k1 e1 hR tne
    -- state.begin_anew()
    obtain ⟨dx1, aA1, aC1, g1, g2, g3⟩ := id S1.ex
    refine (r_one rfl (ex3 p dx1 _ ⟨rfl, g1, rfl, ex5 p dx1 aC1 _ _ ⟨rfl, g1, lk_cells, g3, (by show 14 ≤ 900; decide), fun H2 e2 k2 => ?_⟩⟩))
    have S2 := S1.anew g1 g2 g3 e2 k2
    refine ⟨(by show 1 ≤ sizeLine; decide), fun q hq => ?_⟩
    have e : Vbecae.act s (.table ((n' : Nat) : Int) row) = (Vbecae.fresh { w := s.pond.w, h := s.pond.h, most := s.pond.most, tables := s.pond.tables.set n' (row.map Int.toNat), grazed := s.pond.grazed } s.cells, [0]) := by
      unfold Vbecae.act
      simp only [if_neg ne1, eL, if_neg nri]
      rfl
    rw [e] at k0
    have kk : ∀ b o, H b = some o → b ≠ p → b ≠ aT → H2 b = some o := fun b o hb np nt => k2 b o (k1 b o hb nt) np
    have hq' : H q = none := by
      cases hh : H q with
      | none => rfl
      | some o =>
        have n1 : q ≠ p := ne_new (let ⟨dx', _, _, z, _⟩ := S2.ex; ⟨_, z⟩) hq
        have n2 : q ≠ aT := ne_new S2.atT hq
        rw [kk q o hh n1 n2] at hq
        cases hq
    exact k0 _ aT aW q (S2.same (Same.new hq)).two hq' upd_same (fun x o hx np nt nw _ => ⟨by rw [upd_ne (ne_of_none (kk x o hx np nt) hq)]; exact kk x o hx np nt, nt, nw⟩) (ne_new S2.atT hq) (ne_new S2.atW hq)
end
end PD
end
section
set_option Elab.async false
set_option linter.all false
set_option maxRecDepth 100000
set_option maxHeartbeats 2000000
namespace PD
open PySem PySem.Spec PyProof.Rows L2
open Vbecae (at_ share)
section
variable {P : Program} {w : World} {K : PySem.W.Frag} {mg : Str → Option Value} {base : Heap}
theorem fits_list {s : Vbecae.State} {row : List Int} {m : Nat} : fitsB s row ((m : Nat) : Int) ↔ Vbecae.listOf (Vbecae.size s.pond) m row = some (row.map Int.toNat) := by
  constructor
  · intro h
    exact PM.listOf_some h.1 h.2
  · intro h
    obtain ⟨h1, h2, _⟩ := PM.listOf_inv h
    exact ⟨h1, h2⟩
theorem fits_none {s : Vbecae.State} {row : List Int} {m : Nat} (h : ¬ fitsB s row ((m : Nat) : Int)) : Vbecae.listOf (Vbecae.size s.pond) m row = none := PM.listOf_none fun z => h z
theorem fits_ne {s : Vbecae.State} {row : List Int} {g : Int} (o : PM.SOk s) (h : fitsB s row g) : row.map Int.toNat ≠ [] := fun e => by
  have h1 := congrArg List.length e
  have h2 := h.1
  have := o.pond.n1
  simp at h1
  rw [h1] at h2
  simp at h2
  omega
/-! ### graze -/
theorem scCGraze : FnScope ["state", "numbers", "row", "s"] ["state", "numbers", "row"] (defScope sCGraze) := ⟨rfl, rfl, rfl, by decide +kernel, rfl, by decide +kernel, by decide +kernel⟩
theorem ok_cgraze {f C fI fW fB : Addr} {fd dI dW dB : FuncData} (F : Fun K "call_graze" "call_graze" sCGraze f fd) (T : Txt K mg C)
    (I : FnOk P w K mg base CX0 1 fI dI ["state", "s"] (spIsS C)) (mI : mg "is_season" = some (.ref fI)) (kI : PySem.W.keepIn K (.ref fI) = true) (bI : Binds K dI ["state", "s"] [])
    (W : FnOk P w K mg base CX0 2 fW dW ["state", "row", "greatest"] (spFits C K)) (mW : mg "fits_cells" = some (.ref fW)) (kW : PySem.W.keepIn K (.ref fW) = true) (bW : Binds K dW ["state", "row", "greatest"] [])
    (A : FnOk P w K mg base CX0 1 fB dB ["self"] (spAnew C)) (bB : Binds K dB ["self"] []) (mB : Meth K C "begin_anew" fB) :
    FnOk P w K mg base CX0 3 f fd ["state", "numbers", "row"] (spCall C 2 1 true) := by
  refine F.ok scCGraze (fun vs H Q E h => ?_) (fun cdv A' outer st H vs Q E hr h => ?_)
  · obtain ⟨N, p, aT, aW, aN, aR, s, ns, row, rfl, _⟩ := h
    rfl
  · obtain ⟨N, p, aT, aW, aN, aR, s, ns, row, rfl, S, ok, hN, hR, hlen, hrow, nRT, nRW, nN, k⟩ := h
    obtain ⟨n, rfl⟩ := len1 hlen
    obtain ⟨dx, aA, aC, h1, h2, h3⟩ := id S.ex
    have hr1 : Room 1 _ := hr.mono (by decide)
    refine ⟨_, pss_cons (ps_set (i := 3) scCGraze.nd rfl (Or.inl rfl) (pe_ix ix_list (pv 1) pe_int (fun _ _ => rfl)))
      (pss_cons (ps_if (pt_not (pt_val (pe_call I hr1 rfl mI kI bI .nil pass0 (pa_cons (pv 0) (pa_cons (pv 3) pa_nil))))) (pss_one (ps_ret (pe_lst (pa_cons (pe_un un_neg pe_int) pa_nil)))) pss_nil)
      (pss_cons (ps_if (pt_not (pt_val (pe_call W hr rfl mW kW bW .nil pass0 (pa_cons (pv 0) (pa_cons (pv 2) (pa_cons pe_int pa_nil)))))) (pss_one (ps_ret (pe_lst (pa_cons (pe_un un_neg pe_int) pa_nil)))) pss_nil)
      (pss_cons (ps_asg (pv 2) (pg_sub (pe_fld (pv 0) rfl) (pv 3) set_list))
      (pss_cons (ps_expr (pe_meth0 (pv 0) T.cl mB A hr1 bB .nil pass0))
      (pss_one (ps_ret (pe_lst (pa_cons pe_int pa_nil)))))))), ?_⟩
    have k0 : Goes C N H p aT aW (Vbecae.act s (.graze n row)) Q := k
    refine (r_one rfl (r_ixL (SqL.of hN) (at_of (j := 0) rfl rfl) ?_))
    -- if not is_season(state, s)
    refine ⟨_, rfl, _, rfl, N, p, aT, aW, s, n, rfl, S, _, rfl, ?_⟩
    refine ite2 (fun hc => ?_) (fun hc => ?_)
    · have hc : Vbecae.seasonOk s n = false := by simpa using hc
      refine (r_one rfl ⟨(by show 1 ≤ sizeLine; decide), fun q hq => ?_⟩)
      exact k0.one S (show Vbecae.act s (.graze n row) = (s, [-4]) by unfold Vbecae.act; simp only [if_pos hc]) hq
    have ne1 : ¬ Vbecae.seasonOk s n = false := fun q => hc (by rw [q]; rfl)
    have hs := PM.between_iff.mp (by simpa [Vbecae.seasonOk] using ne1 : Vbecae.isBetween n 0 ((Vbecae.seasons s.pond : Int) - 1) = true)
    -- if not fits_cells(state, row, 100)
    refine (r_one rfl (r_one rfl ⟨N, p, aT, aW, aR, s, row, ((100 : Nat) : Int), rfl, S, ok.pond.w6, SqL.of hR, fun b1 hb1 => ⟨b1, rfl, ?_⟩⟩))
    refine ite2 (fun hc => ?_) (fun hc => ?_)
    · have hc : ¬ fitsB s row ((100 : Nat) : Int) := fun z => by
        rw [hb1.mpr z] at hc
        cases hc
      have eL := fits_none hc
      refine (r_one rfl ⟨(by show 1 ≤ sizeLine; decide), fun q hq => ?_⟩)
      exact k0.one S (show Vbecae.act s (.graze n row) = (s, [-6]) by unfold Vbecae.act; simp only [if_neg ne1, eL]) hq
    have hfit : fitsB s row ((100 : Nat) : Int) := hb1.mp (by cases b1 with | true => rfl | false => exact (hc rfl).elim)
    have eL := fits_list.mp hfit
    -- state.wants[s] = row
    obtain ⟨n', rfl⟩ := Int.eq_ofNat_of_zero_le hs.1
    have hn' : n' < s.pond.grazed.length := by
      have := hs.2
      have := ok.pond.gl
      unfold Vbecae.seasons at *
      omega
    have eR : row.map V.int = nl (row.map Int.toNat) := nat_list hfit.2
    rw [eR] at hR
    have tne := fits_ne ok hfit
    obtain ⟨rs, r1, r2, r3⟩ := id S.gr
    refine (r_one rfl (r_fld rfl h1 T.cl T.wants lk_wants (r_one rfl (ex4 aW _ _ n' ⟨rfl, rfl, r1, ixN_nat (by rw [List.length_map]; omega), ?_⟩))))
    refine gen_upd fun H1 e1 k1 => ?_
    have S1 := S.setW ok r1 k1 e1 hR tne
    -- state.begin_anew()
    obtain ⟨dx1, aA1, aC1, g1, g2, g3⟩ := id S1.ex
    refine (r_one rfl (ex3 p dx1 _ ⟨rfl, g1, rfl, ex5 p dx1 aC1 _ _ ⟨rfl, g1, lk_cells, g3, (by show 14 ≤ 900; decide), fun H2 e2 k2 => ?_⟩⟩))
    have S2 := S1.anew g1 g2 g3 e2 k2
    refine ⟨(by show 1 ≤ sizeLine; decide), fun q hq => ?_⟩
    have e : Vbecae.act s (.graze ((n' : Nat) : Int) row) = (Vbecae.fresh { w := s.pond.w, h := s.pond.h, most := s.pond.most, tables := s.pond.tables, grazed := s.pond.grazed.set n' (row.map Int.toNat) } s.cells, [0]) := by
      unfold Vbecae.act
      simp only [if_neg ne1, eL]
      rfl
    rw [e] at k0
    have kk : ∀ b o, H b = some o → b ≠ p → b ≠ aW → H2 b = some o := fun b o hb np nt => k2 b o (k1 b o hb nt) np
    have hq' : H q = none := by
      cases hh : H q with
      | none => rfl
      | some o =>
        have n1 : q ≠ p := ne_new (let ⟨dx', _, _, z, _⟩ := S2.ex; ⟨_, z⟩) hq
        have n2 : q ≠ aW := ne_new S2.atW hq
        rw [kk q o hh n1 n2] at hq
        cases hq
    exact k0 _ aT aW q (S2.same (Same.new hq)).two hq' upd_same (fun x o hx np nt nw _ => ⟨by rw [upd_ne (ne_of_none (kk x o hx np nw) hq)]; exact kk x o hx np nw, nt, nw⟩) (ne_new S2.atT hq) (ne_new S2.atW hq)

/-- behind a step that changed the object alone -/
theorem Goes.but {N : Nat} {C p aT aW q : Addr} {H H2 H' : Hp} {s' : Vbecae.State} {out : Vbecae.State × List Int} {ans : List Int} {Q : VK} (k : Goes C N H p aT aW out Q) (S2 : StateAt C N H2 p aT aW s') (e : out = (s', ans)) (kb : But p H H2) (sm : Same H2 H') (hq : H2 q = none)
    (h : H' q = some (.lst (ans.map V.int))) : Q (.ref q) H' := by
  subst e
  have hq' : H q = none := kb.free hq fun o ho e => by
    obtain ⟨dx', _, _, h1', _⟩ := S2.ex
    rw [e, h1'] at hq
    cases hq
  exact k H' aT aW q (S2.same sm).two hq' h (fun x o hx np nt nw _ => ⟨sm _ _ (kb x o hx np), nt, nw⟩) (ne_new S2.atT hq) (ne_new S2.atW hq)

/-! ### set -/
theorem scCSet : FnScope ["state", "numbers", "row"] ["state", "numbers", "row"] (defScope sCSet) := ⟨rfl, rfl, rfl, by decide +kernel, rfl, by decide +kernel, by decide +kernel⟩
theorem ok_cset {f C fW fB : Addr} {fd dW dB : FuncData} (F : Fun K "call_set" "call_set" sCSet f fd) (T : Txt K mg C) (B : Bl mg)
    (W : FnOk P w K mg base CX0 2 fW dW ["state", "row", "greatest"] (spFits C K)) (mW : mg "fits_cells" = some (.ref fW)) (kW : PySem.W.keepIn K (.ref fW) = true) (bW : Binds K dW ["state", "row", "greatest"] [])
    (A : FnOk P w K mg base CX0 1 fB dB ["self"] (spAnew C)) (bB : Binds K dB ["self"] []) (mB : Meth K C "begin_anew" fB) :
    FnOk P w K mg base CX0 3 f fd ["state", "numbers", "row"] (spCall C 3 0 true) := by
  refine F.ok scCSet (fun vs H Q E h => ?_) (fun cdv A' outer st H vs Q E hr h => ?_)
  · obtain ⟨N, p, aT, aW, aN, aR, s, ns, row, rfl, _⟩ := h
    rfl
  · obtain ⟨N, p, aT, aW, aN, aR, s, ns, row, rfl, S, ok, hN, hR, hlen, hrow, nRT, nRW, nN, k⟩ := h
    obtain rfl := len0 hlen
    obtain ⟨dx, aA, aC, h1, h2, h3⟩ := id S.ex
    have hr1 : Room 1 _ := hr.mono (by decide)
    refine ⟨_, pss_cons (ps_if (pt_not (pt_val (pe_call W hr rfl mW kW bW .nil pass0 (pa_cons (pv 0) (pa_cons (pv 2) (pa_cons (pe_fld (pv 0) rfl) pa_nil)))))) (pss_one (ps_ret (pe_lst (pa_cons (pe_un un_neg pe_int) pa_nil)))) pss_nil)
      (pss_cons (ps_fld (pv 0) (pv 2) rfl)
      (pss_cons (ps_expr (pe_meth0 (pv 0) T.cl mB A hr1 bB .nil pass0))
      (pss_one (ps_ret (pe_lst (pa_cons (pe_callB (cr_sum rfl) (by rfl) B.sum boot_sum (pa_cons (pe_fld (pv 0) rfl) pa_nil)) pa_nil)))))), ?_⟩
    have k0 : Goes C N H p aT aW (Vbecae.act s (.set row)) Q := k
    -- if not fits_cells(state, row, state.most)
    refine (r_one rfl (r_one rfl (r_fld rfl h1 T.cl T.most lk_most (ex8 N p aT aW aR s row _ ⟨rfl, S, ok.pond.w6, SqL.of hR, fun b1 hb1 => ⟨b1, rfl, ?_⟩⟩))))
    refine ite2 (fun hc => ?_) (fun hc => ?_)
    · have hc : ¬ fitsB s row ((s.pond.most : Nat) : Int) := fun z => by
        rw [hb1.mpr z] at hc
        cases hc
      have eL := fits_none hc
      refine (r_one rfl ⟨(by show 1 ≤ sizeLine; decide), fun q hq => ?_⟩)
      exact k0.one S (show Vbecae.act s (.set row) = (s, [-6]) by simp only [Vbecae.act, eL]) hq
    have hfit : fitsB s row ((s.pond.most : Nat) : Int) := hb1.mp (by cases b1 with | true => rfl | false => exact (hc rfl).elim)
    have eL := fits_list.mp hfit
    have eR : row.map V.int = nl (row.map Int.toNat) := nat_list hfit.2
    rw [eR] at hR
    -- state.cells = row
    refine (r_one rfl (r_one rfl (ex4 p C dx _ ⟨rfl, h1, T.cl, T.cells, (by show 14 < 1000; decide), ?_⟩)))
    rw [pt_cells]
    refine gen_upd fun H1 e1 k1 => ?_
    have c1 := k1.list h1 hR
    have S1 : StateAt C N H1 p aT aW { s with cells := row.map Int.toNat } := ⟨⟨dx, aA, aR, e1, h2.but k1 h1, c1⟩, S.tb.but k1 h1, S.gr.but k1 h1, S.ne⟩
    -- state.begin_anew()
    refine (r_one rfl (ex3 p dx _ ⟨rfl, e1, rfl, ex5 p dx aR _ _ ⟨rfl, e1, lk_cells, c1, (by show 14 ≤ 900; decide), fun H2 e2 k2 => ?_⟩⟩))
    have S2 := S1.anew e1 (h2.but k1 h1) c1 e2 k2
    have kb : But p H H2 := k1.trans k2
    obtain ⟨dx2, aA2, aC2, g1, g2, g3⟩ := id S2.ex
    -- return [sum(state.cells)]
    refine (r_fld rfl g1 T.cl T.cells lk_cells ⟨aC2, Vbecae.ints (row.map Int.toNat), rfl, SqL.of g3, (by show 1 ≤ sizeLine; decide), fun q hq => ?_⟩)
    have e : Vbecae.act s (.set row) = (Vbecae.fresh s.pond (row.map Int.toNat), [((row.map Int.toNat).sum : Int)]) := by
      simp only [Vbecae.act, eL]
    rw [nl_sum]
    exact k0.but S2 e kb (Same.new hq) hq upd_same

/-! ### cells, book, get -/
theorem scCCells : FnScope ["state", "numbers", "row"] ["state", "numbers", "row"] (defScope sCCells) := ⟨rfl, rfl, rfl, by decide +kernel, rfl, by decide +kernel, by decide +kernel⟩
theorem ok_ccells {f C : Addr} {fd : FuncData} (F : Fun K "call_cells" "call_cells" sCCells f fd) (T : Txt K mg C) : FnOk P w K mg base CX0 1 f fd ["state", "numbers", "row"] (spCall C 6 0 false) := by
  refine F.ok scCCells (fun vs H Q E h => ?_) (fun cdv A' outer st H vs Q E hr h => ?_)
  · obtain ⟨N, p, aT, aW, aN, aR, s, ns, row, rfl, _⟩ := h
    rfl
  · obtain ⟨N, p, aT, aW, aN, aR, s, ns, row, rfl, S, ok, hN, hR, hlen, hrow, nRT, nRW, nN, k⟩ := h
    obtain rfl := len0 hlen
    obtain ⟨dx, aA, aC, h1, h2, h3⟩ := id S.ex
    refine ⟨_, pss_one (ps_ret (pe_op op_cat (pe_lst (pa_cons pe_int pa_nil)) (pe_fld (pv 0) rfl))), ?_⟩
    have n36 := ok.pond.n36
    refine ⟨(by show 1 ≤ sizeLine; decide), fun l hl => ?_⟩
    have s1 : Same H (upd H l (.lst [.int 0])) := Same.new hl
    refine (r_fld rfl (s1 _ _ h1) T.cl T.cells lk_cells (ex4 l aC _ _ ⟨rfl, rfl, upd_same, s1 _ _ h3, (by rw [nl_length, ok.cells.len]; exact Nat.le_of_lt (small1000 (by show 1 + _ ≤ 1000; omega))), fun q hq => ?_⟩))
    exact Goes.same (s := s) k S (show Vbecae.step s [[6]] = (s, 0 :: Vbecae.ints s.cells) from rfl) (s1.trans (Same.new hq)) (s1.free hq) upd_same
theorem scCBook : FnScope ["state", "numbers", "row"] ["state", "numbers", "row"] (defScope sCBook) := ⟨rfl, rfl, rfl, by decide +kernel, rfl, by decide +kernel, by decide +kernel⟩
theorem ok_cbook {f C : Addr} {fd : FuncData} (F : Fun K "call_book" "call_book" sCBook f fd) (T : Txt K mg C) (B : Bl mg) : FnOk P w K mg base CX0 1 f fd ["state", "numbers", "row"] (spCall C 8 0 false) := by
  refine F.ok scCBook (fun vs H Q E h => ?_) (fun cdv A' outer st H vs Q E hr h => ?_)
  · obtain ⟨N, p, aT, aW, aN, aR, s, ns, row, rfl, _⟩ := h
    rfl
  · obtain ⟨N, p, aT, aW, aN, aR, s, ns, row, rfl, S, ok, hN, hR, hlen, hrow, nRT, nRW, nN, k⟩ := h
    obtain rfl := len0 hlen
    obtain ⟨dx, aA, aC, h1, h2, h3⟩ := id S.ex
    refine ⟨_, pss_one (ps_ret (pe_lst (pa_cons pe_int (pa_cons (pe_fld (pv 0) rfl) (pa_cons (pe_fld (pv 0) rfl) (pa_cons (pe_fld (pv 0) rfl) (pa_cons (pe_fld (pv 0) rfl) (pa_cons (pe_callB (cr_sum rfl) (by rfl) B.sum boot_sum (pa_cons (pe_fld (pv 0) rfl) pa_nil)) pa_nil)))))))), ?_⟩
    refine (r_fld rfl h1 T.cl T.first lk_first (r_fld rfl h1 T.cl T.grown lk_grown (r_fld rfl h1 T.cl T.died lk_died (r_fld rfl h1 T.cl T.grazed lk_grazed (r_fld rfl h1 T.cl T.cells lk_cells ⟨aC, Vbecae.ints s.cells, rfl, SqL.of h3, (by show 6 ≤ sizeLine; decide), fun q hq => ?_⟩)))))

    rw [nl_sum]
    exact Goes.same (s := s) k S (show Vbecae.step s [[8]] = (s, [0, (s.first : Int), (s.more : Int), (s.died : Int), (s.eaten : Int), (s.cells.sum : Int)]) from rfl) (Same.new hq) hq upd_same
/-! ### turns -/
theorem scCTurns : FnScope ["state", "numbers", "row", "n", "k"] ["state", "numbers", "row"] (defScope sCTurns) := ⟨rfl, rfl, rfl, by decide +kernel, rfl, by decide +kernel, by decide +kernel⟩
theorem ok_cturns {f C fT : Addr} {fd dT : FuncData} (F : Fun K "call_turns" "call_turns" sCTurns f fd) (T : Txt K mg C) (B : Bl mg)
    (U : FnOk P w K mg base CX0 2 fT dT ["self"] (spTurn C)) (bU : Binds K dT ["self"] []) (mU : Meth K C "turn" fT) : FnOk P w K mg base CX0 3 f fd ["state", "numbers", "row"] (spCall C 7 1 false) := by
  refine F.ok scCTurns (fun vs H Q E h => ?_) (fun cdv A' outer st H vs Q E hr h => ?_)
  · obtain ⟨N, p, aT, aW, aN, aR, s, ns, row, rfl, _⟩ := h
    rfl
  · obtain ⟨N, p, aT, aW, aN, aR, s, ns, row, rfl, S, ok, hN, hR, hlen, hrow, nRT, nRW, nN, k⟩ := h
    obtain ⟨n, rfl⟩ := len1 hlen
    refine ⟨_, pss_cons (ps_set (i := 3) scCTurns.nd rfl (Or.inl rfl) (pe_ix ix_list (pv 1) pe_int (fun _ _ => rfl)))
      (pss_cons (ps_if (pt_not (pt_chain op_le op_le pe_int (pv 3) pe_int)) (pss_one (ps_ret (pe_lst (pa_cons (pe_un un_neg pe_int) pa_nil)))) pss_nil)
      (pss_cons (ps_for PassesOwn.never rfl (pi_range1 rfl B.range (pa_cons (pv 3) pa_nil)) (pg_name (i := 4) scCTurns.nd rfl (Or.inl rfl)) (pss_one (ps_expr (pe_meth0 (pv 0) T.cl mU U hr bU .nil pass0))))
      (pss_one (ps_ret (pe_lst (pa_cons (pe_callB (cr_sum rfl) (by rfl) B.sum boot_sum (pa_cons (pe_fld (pv 0) rfl) pa_nil)) pa_nil)))))), ?_⟩
    have k0 : Goes C N H p aT aW (Vbecae.act s (.turns n)) Q := k
    refine (r_one rfl (r_ixL (SqL.of hN) (at_of (j := 0) rfl rfl) ?_))
    refine (r_one rfl (r_two rfl rfl (r_one rfl (chain_le ?_))))
    refine ite2 (fun hc => ?_) (fun hc => ?_)
    · have hc : Vbecae.isBetween n 0 1000 = false := by simpa using hc
      refine (r_one rfl ⟨(by show 1 ≤ sizeLine; decide), fun q hq => ?_⟩)
      exact k0.one S (show Vbecae.act s (.turns n) = (s, [-7]) by simp only [Vbecae.act, if_pos hc]) hq
    have ne1 : ¬ Vbecae.isBetween n 0 1000 = false := fun q => hc (by rw [q]; rfl)
    have hb := PM.between_iff.mp (by simpa using ne1 : Vbecae.isBetween n 0 1000 = true)
    obtain ⟨n', rfl⟩ := Int.eq_ofNat_of_zero_le hb.1
    refine (r_one rfl ⟨((n' : Nat) : Int), rfl, by omega, by omega, for_range (n := ((n' : Nat) : Int).toNat) (fun i σ H' => ∃ v : Option V, σ = [some (.ref p), some (.ref aN), some (.ref aR), some (.int ((n' : Nat) : Int)), v] ∧ But p H H' ∧ StateAt C N H' p aT aW (Vbecae.bookedN i s)) ⟨none, rfl, But.refl _ _, S⟩ ?_ ?_⟩)

    · rintro i σ H1 hi ⟨v, rfl, kb, S1⟩
      obtain ⟨dx1, aA1, aC1, g1, g2, g3⟩ := id S1.ex
      refine (r_one rfl (ex3 p dx1 _ ⟨rfl, g1, rfl, ex5 N p aT aW _ ⟨rfl, S1, PM.bookedN_ok i ok, fun H2 S2 k2 => ?_⟩⟩))
      refine (r_one rfl ⟨kb.trans k2, ?_⟩)
      rw [PM.bookedN_succ]
      exact S2
    · rintro σ H1 ⟨v, rfl, kb, S1⟩
      obtain ⟨dx1, aA1, aC1, g1, g2, g3⟩ := id S1.ex
      refine (r_fld rfl g1 T.cl T.cells lk_cells (ex2 aC1 _ ⟨rfl, SqL.of g3, (by show 1 ≤ sizeLine; decide), fun q hq => ?_⟩))
      have e : Vbecae.act s (.turns ((n' : Nat) : Int)) = (Vbecae.bookedN n' s, [((Vbecae.bookedN n' s).cells.sum : Int)]) := by
        simp only [Vbecae.act, if_neg ne1]
        rfl
      rw [nl_sum]
      exact k0.but S1 e kb (Same.new hq) hq upd_same
end
end PD
end
section
set_option Elab.async false
set_option linter.all false
set_option maxRecDepth 100000
set_option maxHeartbeats 2000000
namespace PD
open PySem PySem.Spec PyProof.Rows L2
open Vbecae (at_ share)
theorem nl_flat (rows : List (List Nat)) : rows.flatMap nl = (rows.flatMap Vbecae.ints).map V.int := by
  rw [List.map_flatMap]
  rfl
theorem flat_take {rows : List (List Nat)} {i : Nat} {t : List Nat} (h : rows[i]? = some t) : (rows.take (i + 1)).flatMap nl = (rows.take i).flatMap nl ++ nl t := by
  rw [take_snoc h, List.flatMap_append]
  simp
section
variable {P : Program} {w : World} {K : PySem.W.Frag} {mg : Str → Option Value} {base : Heap}
/-! ### get -/
theorem scCGet : FnScope ["state", "numbers", "row", "x", "y"] ["state", "numbers", "row"] (defScope sCGet) := ⟨rfl, rfl, rfl, by decide +kernel, rfl, by decide +kernel, by decide +kernel⟩
theorem ok_cget {f C : Addr} {fd : FuncData} (F : Fun K "call_get" "call_get" sCGet f fd) (T : Txt K mg C) : FnOk P w K mg base CX0 1 f fd ["state", "numbers", "row"] (spCall C 5 2 false) := by
  refine F.ok scCGet (fun vs H Q E h => ?_) (fun cdv A' outer st H vs Q E hr h => ?_)
  · obtain ⟨N, p, aT, aW, aN, aR, s, ns, row, rfl, _⟩ := h
    rfl
  · obtain ⟨N, p, aT, aW, aN, aR, s, ns, row, rfl, S, ok, hN, hR, hlen, hrow, nRT, nRW, nN, k⟩ := h
    obtain ⟨x, y, rfl⟩ := len2 hlen
    obtain ⟨dx, aA, aC, h1, h2, h3⟩ := id S.ex
    refine ⟨_, pss_cons (ps_set (i := 3) scCGet.nd rfl (Or.inl rfl) (pe_ix ix_list (pv 1) pe_int (fun _ _ => rfl))) (pss_cons (ps_set (i := 4) scCGet.nd rfl (Or.inl rfl) (pe_ix ix_list (pv 1) pe_int (fun _ _ => rfl)))
      (pss_cons (ps_if (PW.pt (pw_or (pt_not (pt_chain op_le op_lt pe_int (pv 3) (pe_fld (pv 0) rfl))) (pw_or1 (pt_not (pt_chain op_le op_lt pe_int (pv 4) (pe_fld (pv 0) rfl)))))) (pss_one (ps_ret (pe_lst (pa_cons (pe_un un_neg pe_int) pa_nil)))) pss_nil)
      (pss_one (ps_ret (pe_lst (pa_cons (pe_ix ix_list (pe_fld (pv 0) rfl) (pe_op op_add (pe_op op_mul (pv 4) (pe_fld (pv 0) rfl)) (pv 3)) (fun _ _ => rfl)) pa_nil)))))), ?_⟩
    have k0 : Goes C N H p aT aW (Vbecae.act s (.get x y)) Q := k
    refine (r_one rfl (r_ixL (SqL.of hN) (at_of (j := 0) rfl rfl) ?_))
    refine (r_one rfl (r_ixL (SqL.of hN) (at_of (j := 1) rfl rfl) ?_))
    have bad : ¬ ((0 ≤ x ∧ x < ((s.pond.w : Nat) : Int)) ∧ (0 ≤ y ∧ y < ((s.pond.h : Nat) : Int))) → ∀ q, H q = none → Q (.ref q) (upd H q (.lst [.int (-1 * 6)])) := fun hc q hq => by
      refine k0.one S ?_ hq
      show (s, if Vbecae.isBetween x 0 ((s.pond.w : Int) - 1) = true ∧ Vbecae.isBetween y 0 ((s.pond.h : Int) - 1) = true then [(Vbecae.cell s.pond s.cells x.toNat y.toNat : Int)] else [-6]) = _
      rw [if_neg]
      · rfl
      · rw [PM.between_iff, PM.between_iff]
        intro z
        exact hc (by omega)
    refine (r_one rfl (r_two rfl rfl (r_one rfl ?_)))
    refine ite2 (fun a1 => ?_) (fun a1 => ?_)
    case _ => 
      have a1 := of_decide_eq_true a1
      refine (r_fld rfl h1 T.cl T.w lk_w (r_two rfl rfl (r_one rfl ?_)))
      refine ite2 (fun a2 => ?_) (fun a2 => ?_)
      · have a2 : ¬ x < ((s.pond.w : Nat) : Int) := by simpa using a2
        exact (r_one rfl ⟨(by show 1 ≤ sizeLine; decide), fun q hq => bad (fun z => a2 z.1.2) q hq⟩)
      have a2 : x < ((s.pond.w : Nat) : Int) := by simpa using a2
      refine (r_one rfl (r_two rfl rfl (r_one rfl ?_)))
      refine ite2 (fun a3 => ?_) (fun a3 => ?_)
      case _ =>
        have a3 := of_decide_eq_true a3
        refine (r_fld rfl h1 T.cl T.h lk_h (r_two rfl rfl (r_one rfl ?_)))
        refine ite2 (fun a4 => ?_) (fun a4 => ?_)
        · have a4 : ¬ y < ((s.pond.h : Nat) : Int) := by simpa using a4
          exact (r_one rfl ⟨(by show 1 ≤ sizeLine; decide), fun q hq => bad (fun z => a4 z.2.2) q hq⟩)
        have a4 : y < ((s.pond.h : Nat) : Int) := by simpa using a4
        obtain ⟨x', rfl⟩ := Int.eq_ofNat_of_zero_le a1
        obtain ⟨y', rfl⟩ := Int.eq_ofNat_of_zero_le a3
        have w6 := ok.pond.w6
        obtain ⟨q0, q1, q2, _⟩ := PM.int_place (w := s.pond.w) (h := s.pond.h) (y := y') (x := x') ok.pond.w6 ok.pond.h6 (by omega) (by omega)
        have ei : ((y' : Nat) : Int) * ((s.pond.w : Nat) : Int) + ((x' : Nat) : Int) = ((y' * s.pond.w + x' : Nat) : Int) := by
          rw [Int.natCast_add, Int.natCast_mul]
        refine (r_fld rfl h1 T.cl T.cells lk_cells (r_one rfl (r_fld rfl h1 T.cl T.w lk_w (r_two rfl rfl ⟨.inr ⟨by omega, by omega⟩, r_one rfl (r_two rfl rfl (r_ixL (SqL.of h3) (by rw [ei]; exact at_nl (by rw [ok.cells.len]; exact q0)) ⟨(by show 1 ≤ sizeLine; decide), fun q hq => ?_⟩))⟩))))

        refine k0.one S ?_ hq
        show (s, if Vbecae.isBetween ((x' : Nat) : Int) 0 ((s.pond.w : Int) - 1) = true ∧ Vbecae.isBetween ((y' : Nat) : Int) 0 ((s.pond.h : Int) - 1) = true then [(Vbecae.cell s.pond s.cells x' y' : Int)] else [-6]) = _
        rw [if_pos (by rw [PM.between_iff, PM.between_iff]; omega)]
        unfold Vbecae.cell
        rw [Nat.mod_eq_of_lt (show y' < s.pond.h by omega), Nat.mod_eq_of_lt (show x' < s.pond.w by omega)]
      · have a3 : ¬ 0 ≤ y := fun z => a3 (decide_eq_true z)
        refine (r_one rfl ?_)
        exact (r_one rfl ⟨(by show 1 ≤ sizeLine; decide), fun q hq => bad (fun z => a3 z.2.1) q hq⟩)
    · have a1 : ¬ 0 ≤ x := fun z => a1 (decide_eq_true z)
      refine (r_one rfl ?_)
      exact (r_one rfl ⟨(by show 1 ≤ sizeLine; decide), fun q hq => bad (fun z => a1 z.1.1) q hq⟩)
/-! ### told -/
theorem scCTold : FnScope ["state", "numbers", "row", "answer", "table", "wants"] ["state", "numbers", "row"] (defScope sCTold) := ⟨rfl, rfl, rfl, by decide +kernel, rfl, by decide +kernel, by decide +kernel⟩
theorem ok_ctold {f C : Addr} {fd : FuncData} (F : Fun K "call_told" "call_told" sCTold f fd) (T : Txt K mg C) : FnOk P w K mg base CX0 1 f fd ["state", "numbers", "row"] (spCall C 4 0 false) := by
  refine F.ok scCTold (fun vs H Q E h => ?_) (fun cdv A' outer st H vs Q E hr h => ?_)
  · obtain ⟨N, p, aT, aW, aN, aR, s, ns, row, rfl, _⟩ := h
    rfl
  · obtain ⟨N, p, aT, aW, aN, aR, s, ns, row, rfl, S, ok, hN, hR, hlen, hrow, nRT, nRW, nN, k⟩ := h
    obtain rfl := len0 hlen
    obtain ⟨dx, aA, aC, h1, h2, h3⟩ := id S.ex
    refine ⟨_, pss_cons (ps_set (i := 3) scCTold.nd rfl (Or.inl rfl) (pe_lst (pa_cons pe_int (pa_cons (pe_fld (pv 0) rfl) (pa_cons (pe_fld (pv 0) rfl) (pa_cons (pe_fld (pv 0) rfl) (pa_cons (pe_fld (pv 0) rfl) (pa_cons (pe_fld (pv 0) rfl) pa_nil))))))))
      (pss_cons (ps_for PassesOwn.never rfl (pi_list (pe_fld (pv 0) rfl)) (pg_name (i := 4) scCTold.nd rfl (Or.inl rfl)) (pss_one (ps_expr (pe_bm PySem.F.plainAttrs_list PySem.F.slot_list_extend PySem.F.type_list_extend mt_extend (pv 3) (pa_cons (pv 4) pa_nil)))))
      (pss_cons (ps_for PassesOwn.never rfl (pi_list (pe_fld (pv 0) rfl)) (pg_name (i := 5) scCTold.nd rfl (Or.inl rfl)) (pss_one (ps_expr (pe_bm PySem.F.plainAttrs_list PySem.F.slot_list_extend PySem.F.type_list_extend mt_extend (pv 3) (pa_cons (pv 5) pa_nil)))))
      (pss_one (ps_ret (pv 3))))), ?_⟩
    have fT := PM.flat_len (k := 8) (m := 61) ok.pond.p8 fun t ht => by have := (ok.pond.tb t ht).len; have := ok.pond.m60; omega
    have fW := PM.flat_len (k := 8) (m := 36) (l := s.pond.grazed) (by rw [ok.pond.gl]; exact ok.pond.p8) fun t ht => by have := (ok.pond.gw t ht).len; have := ok.pond.n36; omega
    have lenle : ∀ (rows : List (List Nat)) (i : Nat), ((rows.take i).flatMap nl).length ≤ (rows.flatMap Vbecae.ints).length := fun rows i => by
      rw [nl_flat, List.length_map]
      conv => rhs; rw [← List.take_append_drop i rows, List.flatMap_append, List.length_append]
      omega
    -- answer = [0, ..]
    refine (r_fld rfl h1 T.cl T.w lk_w (r_fld rfl h1 T.cl T.h lk_h (r_fld rfl h1 T.cl T.most lk_most (r_fld rfl h1 T.cl T.p lk_p (r_fld rfl h1 T.cl T.season lk_season ⟨(by show 6 ≤ sizeLine; decide), fun D hD => ?_⟩)))))

    have hd0 : ([.int 0, .int ((s.pond.w : Nat) : Int), .int ((s.pond.h : Nat) : Int), .int ((s.pond.most : Nat) : Int), .int ((s.pond.tables.length : Nat) : Int), .int ((s.season : Nat) : Int)] : List V).length = 6 := rfl
    generalize hA : ([.int 0, .int ((s.pond.w : Nat) : Int), .int ((s.pond.h : Nat) : Int), .int ((s.pond.most : Nat) : Int), .int ((s.pond.tables.length : Nat) : Int), .int ((s.season : Nat) : Int)] : List V) = A0 at hd0 ⊢
    have s0 : Same H (upd H D (.lst A0)) := Same.new hD
    obtain ⟨rs, r1, r2, r3⟩ := id S.tb
    obtain ⟨us, u1, u2, u3⟩ := id S.gr
    refine (r_fld rfl (s0 _ _ h1) T.cl T.tables lk_tables ⟨aT, rfl, ⟨_, SqL.of (s0 _ _ r1)⟩, for_list (K := K) (a := aT) (xs := rs.map V.ref) (fun i σ H' => ∃ v4 v5 : Option V, σ = [some (.ref p), some (.ref aN), some (.ref aR), some (.ref D), v4, v5] ∧ Same H H' ∧ H' D = some (.lst (A0 ++ (s.pond.tables.take i).flatMap nl))) (ex2 none none ⟨rfl, s0, by rw [upd_same]; simp⟩) (fun i σ H' _ ⟨_, _, _, s1, _⟩ => SqL.of (s1 _ _ r1)) ?_ ?_⟩)

    · rintro i y σ H' hi ⟨v4, v5, rfl, s1, hD1⟩
      obtain ⟨r, hr', rfl⟩ : ∃ r, rs[i]? = some r ∧ y = V.ref r := by
        rw [List.getElem?_map] at hi
        cases e : rs[i]? with
        | none =>
          rw [e] at hi
          cases hi
        | some z =>
          rw [e] at hi
          exact ⟨z, rfl, (Option.some.inj hi).symm⟩
      have hil : i < s.pond.tables.length := by
        have := (List.getElem?_eq_some_iff.mp hr').1
        omega
      have ht := List.getElem?_eq_getElem hil
      have l1 := lenle s.pond.tables (i + 1)
      rw [flat_take ht, List.length_append] at l1
      refine (r_one rfl ⟨.inl ⟨rfl, _, SqL.of hD1⟩, r_one rfl (ex4 D r _ _ ⟨rfl, rfl, hD1, s1 _ _ (r3 i r _ hr' ht), (by rw [List.length_append, hd0]; exact Nat.le_of_lt (small1000 (by omega))), ?_⟩)⟩)
      refine (ex2 _ _ ⟨rfl, s1.upd hD, ?_⟩)
      rw [upd_same, flat_take ht, List.append_assoc]
    rintro σ H1 ⟨v4, v5, rfl, s1, hD1⟩
    rw [List.length_map, r2, List.take_length] at hD1
    refine (r_fld rfl (s1 _ _ h1) T.cl T.wants lk_wants ⟨aW, rfl, ⟨_, SqL.of (s1 _ _ u1)⟩, for_list (K := K) (a := aW) (xs := us.map V.ref) (fun i σ H' => ∃ v4 v5 : Option V, σ = [some (.ref p), some (.ref aN), some (.ref aR), some (.ref D), v4, v5] ∧ Same H H' ∧ H' D = some (.lst (A0 ++ s.pond.tables.flatMap nl ++ (s.pond.grazed.take i).flatMap nl))) (ex2 _ _ ⟨rfl, s1, by rw [hD1]; simp⟩) (fun i σ H' _ ⟨_, _, _, s2, _⟩ => SqL.of (s2 _ _ u1)) ?_ ?_⟩)

    · rintro i y σ H' hi ⟨v4, v5, rfl, s2, hD2⟩
      obtain ⟨r, hr', rfl⟩ : ∃ r, us[i]? = some r ∧ y = V.ref r := by
        rw [List.getElem?_map] at hi
        cases e : us[i]? with
        | none =>
          rw [e] at hi
          cases hi
        | some z =>
          rw [e] at hi
          exact ⟨z, rfl, (Option.some.inj hi).symm⟩
      have hil : i < s.pond.grazed.length := by
        have := (List.getElem?_eq_some_iff.mp hr').1
        omega
      have ht := List.getElem?_eq_getElem hil
      have l1 := lenle s.pond.grazed (i + 1)
      rw [flat_take ht, List.length_append] at l1
      have l2 : (s.pond.tables.flatMap nl).length = (s.pond.tables.flatMap Vbecae.ints).length := by rw [nl_flat, List.length_map]
      refine (r_one rfl ⟨.inl ⟨rfl, _, SqL.of hD2⟩, r_one rfl (ex4 D r _ _ ⟨rfl, rfl, hD2, s2 _ _ (u3 i r _ hr' ht), (by rw [List.length_append, List.length_append, hd0, l2]; exact Nat.le_of_lt (small1000 (by omega))), ?_⟩)⟩)
      refine (ex2 _ _ ⟨rfl, s2.upd hD, ?_⟩)
      rw [upd_same, flat_take ht]
      simp only [List.append_assoc]
    rintro σ H2 ⟨v4', v5', rfl, s2, hD2⟩
    rw [List.length_map, u2, List.take_length] at hD2
    refine (r_one rfl ?_)
    refine Goes.same (s := s) k S (show Vbecae.step s [[4]] = (s, [0, (s.pond.w : Int), (s.pond.h : Int), (s.pond.most : Int), (Vbecae.seasons s.pond : Int), (s.season : Int)] ++ (s.pond.tables.flatMap Vbecae.ints ++ s.pond.grazed.flatMap Vbecae.ints)) from rfl) s2 hD ?_
    rw [hD2, List.map_append, List.map_append, nl_flat, nl_flat, List.append_assoc, ← hA]
    rfl
end
end PD
end
section
set_option Elab.async false
set_option linter.all false
set_option maxRecDepth 100000
set_option maxHeartbeats 2000000
namespace PD
open PySem PySem.Spec PyProof.Rows L2
open Vbecae (at_ share)
open PM (movedL wg)
abbrev sCAT : Stmt := top 9
abbrev sCAY : Stmt := top 10
abbrev sGIY : Stmt := top 11
/-- a comprehension's word for a list of rows -/
def RowsFill (H1 : Hp) (D : Addr) (rows : List (List Nat)) (i : Nat) (H : Hp) : Prop := Same H1 H ∧ ∃ rs : List Addr, H D = some (.lst (rs.map V.ref)) ∧ rs.length = i ∧ ∀ (k : Nat) (r : Addr) (t : List Nat), rs[k]? = some r → rows[k]? = some t → H r = some (.lst (nl t))
theorem RowsFill.zero {H1 : Hp} {D : Addr} {rows : List (List Nat)} (hD : H1 D = none) : RowsFill H1 D rows 0 (upd H1 D (.lst [])) := ⟨Same.new hD, [], upd_same, rfl, fun k r t h => by simp at h⟩
theorem RowsFill.on {H1 H H4 : Hp} {D : Addr} {rows : List (List Nat)} {i : Nat} (f : RowsFill H1 D rows i H) (s : Same H H4) : RowsFill H1 D rows i H4 := by
  obtain ⟨s1, rs, h1, h2, h3⟩ := f
  exact ⟨s1.trans s, rs, s _ _ h1, h2, fun k r t h ht => s _ _ (h3 k r t h ht)⟩
theorem RowsFill.more {H1 H4 : Hp} {D l : Addr} {rows : List (List Nat)} {t : List Nat} {i : Nat} (hD : H1 D = none) (f : RowsFill H1 D rows i H4) (hl : H4 l = some (.lst (nl t))) (ht : rows[i]? = some t) (hne : ∀ t ∈ rows, t ≠ []) (hi : i < 1000) :
    ∃ acc, H4 D = some (.lst acc) ∧ acc.length < sizeLine ∧ RowsFill H1 D rows (i + 1) (upd H4 D (.lst (acc ++ [.ref l]))) := by
  obtain ⟨s1, rs, h1, h2, h3⟩ := f
  refine ⟨_, h1, (by rw [List.length_map, h2]; exact small1000 (Nat.le_of_lt hi)), s1.upd hD, rs ++ [l], ?_, ?_, fun k r u h hu => ?_⟩
  · rw [upd_same, List.map_append]
    rfl
  · rw [List.length_append, h2]
    rfl
  · have hr : H4 r = some (.lst (nl u)) := by
      by_cases hk : k < rs.length
      · rw [List.getElem?_append_left hk] at h
        exact h3 k r u h hu
      · rw [List.getElem?_append_right (by omega)] at h
        have hb := (List.getElem?_eq_some_iff.mp h).1
        have ek : k = i := by
          simp at hb
          omega
        subst ek
        have e : r = l := by
          have := List.mem_of_getElem? h
          simpa using this
        rw [ht] at hu
        cases hu
        rw [e]
        exact hl
    rw [upd_ne (ne_row h1 hr (hne u (List.mem_of_getElem? hu)))]
    exact hr
theorem RowsFill.rows {H1 H : Hp} {D : Addr} {rows : List (List Nat)} (f : RowsFill H1 D rows rows.length H) : RowsAt H D rows := by
  obtain ⟨s1, rs, h1, h2, h3⟩ := f
  exact ⟨rs, h1, h2, h3⟩
/-- o.f within a comprehension -/
theorem pe_fldK {X : Cx} {K : PySem.W.Frag} {e : Expr} {f : Str} {pos : Pos} {ta : TE} (hK : X.K = K) (he : PE X e ta) (hb : attributeBase e f X.env (eval e X.env) = eval e X.env) : PE X (.Attribute e f pos) (tFld K ta f) := hK ▸ pe_fld he hb
section
variable {P : Program} {w : World} {K : PySem.W.Frag} {mg : Str → Option Value} {base : Heap}
/-! ### moved -/
def spMoved (K : PySem.W.Frag) : Sp := fun vs H Q _ => ∃ (a : Addr) (x : List Nat) (cw ch dx dy : Nat), vs = [.ref a, .int ((cw : Nat) : Int), .int ((dx : Nat) : Int), .int ((dy : Nat) : Int)] ∧ SqL K H a (nl x) ∧ x.length = cw * ch ∧ 1 ≤ cw ∧ cw ≤ 6 ∧ 1 ≤ ch ∧ ch ≤ 6 ∧
  ∀ (H' : Hp) (p : Addr), New H H' p (nl (movedL cw ch dx dy x)) → Q (.ref p) H'
theorem scMoved : FnScope ["row", "w", "dx", "dy", "h", "k"] ["row", "w", "dx", "dy"] (defScope sMoved) := ⟨rfl, rfl, rfl, by decide +kernel, rfl, by decide +kernel, by decide +kernel⟩
theorem ok_moved {f : Addr} {fd : FuncData} (F : Fun K "moved" "moved" sMoved f fd) (B : Bl mg) : FnOk P w K mg base CX0 1 f fd ["row", "w", "dx", "dy"] (spMoved K) := by
  refine F.ok scMoved (fun vs H Q E h => ?_) (fun cdv A outer s H vs Q E hr h => ?_)
  · obtain ⟨a, x, cw, ch, dx, dy, rfl, _⟩ := h
    rfl
  · obtain ⟨a, x, cw, ch, dx, dy, rfl, hx, hlen, w1, w6, h1, h6, k⟩ := h
    refine ⟨_, pss_cons (ps_set (i := 4) scMoved.nd rfl (Or.inr rfl) (pe_op op_fdiv (pe_callB call_len_seq (by rfl) B.len PySem.boot_len (pa_cons (pv 0) pa_nil)) (pv 1)))
      (pss_one (ps_ret (pe_lc (own := [("k", 5)]) rfl scMoved.nd (pi_range1 rfl B.range (pa_cons (pe_callB call_len_seq (by rfl) B.len PySem.boot_len (pa_cons (pv 0) pa_nil)) pa_nil))
        (blkOk_by (by show blkC ["row", "w", "dx", "dy", "h", "k"] (defScope sMoved) _ _ = true; decide +kernel)) (fun _ _ _ _ _ => pg_name (i := 5) scMoved.nd rfl (Or.inl rfl)) (fun _ _ _ _ _ => pts_nil)
        (fun _ _ _ _ _ => pe_ix (r := rIxL K) ix_list (pv 0) (pe_op op_add (pe_op op_mul (pe_op op_mod (pe_op op_add (pe_op op_fdiv (pv 5) (pv 1)) (pv 3)) (pv 4)) (pv 1)) (pe_op op_mod (pe_op op_add (pe_op op_mod (pv 5) (pv 1)) (pv 2)) (pv 1))) (fun _ _ => rfl))))), ?_⟩
    have h36 : cw * ch ≤ 6 * 6 := Nat.mul_le_mul w6 h6
    have w0 : (0 : Int) < ((cw : Nat) : Int) := by omega
    have h0 : (0 : Int) < ((ch : Nat) : Int) := by omega
    have wm : -(2 ^ 64) < ((cw : Nat) : Int) ∧ ((cw : Nat) : Int) < 2 ^ 64 := ⟨by omega, by omega⟩
    have wd : CDiv 0 ((cw : Nat) : Int) := ⟨by omega, by omega⟩
    have el : (((nl x).length : Nat) : Int) / ((cw : Nat) : Int) = ((ch : Nat) : Int) := by
      rw [nl_length, hlen]
      exact PM.div_len w1
    have hz : (nl (movedL cw ch dx dy x)).length ≤ sizeLine := by
      rw [nl_length, PM.moved_len]
      exact Nat.le_of_lt (small1000 (by omega))
    refine (r_one rfl (ex2 a _ ⟨rfl, .inl hx, r_one rfl (r_two rfl rfl ⟨⟨by omega, by omega⟩, ?_⟩)⟩))
    dsimp only
    rw [el]
    refine (r_one rfl (ex2 a _ ⟨rfl, .inl hx, (((nl x).length : Nat) : Int), rfl, by omega, (by rw [nl_length]; omega), fun D hD => lc_range (n := ((((nl x).length : Nat) : Int)).toNat) (Filled H D (nl (movedL cw ch dx dy x))) (Filled.zero hD) ?_ ?_⟩))
    · intro i G hi f
      refine ⟨rfl, ?_⟩
      have hi' : i < cw * ch := by
        rw [Int.toNat_natCast, nl_length] at hi
        omega
      have e0 : (0 : Int) + ((i : Nat) : Int) = ((i : Nat) : Int) := Int.zero_add _
      rw [e0]
      refine ⟨_, rfl, _, rfl, _, rfl, _, _, rfl, rfl, ⟨by omega, by omega⟩, _, rfl, _, _, rfl, rfl, _, rfl, _, _, rfl, rfl, h0, _, rfl, _, _, rfl, rfl, .inr wm,
        _, rfl, _, rfl, _, _, rfl, rfl, w0, _, rfl, _, _, rfl, rfl, _, rfl, _, _, rfl, rfl, w0, _, _, rfl, rfl, a, _, _, _, rfl, rfl, f.1.seq hx, (by rw [PM.moved_int]; exact at_nl (by rw [hlen]; exact PM.moved_place w1 h1)), ?_⟩
      refine f.more hD (nl_at ?_) hz
      unfold movedL
      rw [List.getElem?_map, List.getElem?_range hi']
      rfl
    · intro G f
      refine k G D ⟨hD, ?_, f.1⟩
      rw [f.2, List.take_of_length_le]
      rw [nl_length, Int.toNat_natCast, nl_length, PM.moved_len]
      omega
/-! ### move -/
def movedS (s : Vbecae.State) (dx dy : Nat) : Vbecae.State := { pond := Vbecae.movedPond s.pond dx dy, season := s.season, cells := Vbecae.movedCells s.pond dx dy s.cells, first := s.first, more := s.more, died := s.died, eaten := s.eaten }
def spMove (C : Addr) : Sp := fun vs H Q _ => ∃ (N : Nat) (p aT aW : Addr) (s : Vbecae.State) (dx dy : Nat), vs = [.ref p, .int ((dx : Nat) : Int), .int ((dy : Nat) : Int)] ∧ StateAt C N H p aT aW s ∧ PM.SOk s ∧
  ∀ (H' : Hp) (aW' : Addr), StateAt C N H' p aT aW' (movedS s dx dy) → H aW' = none → But p H H' → Q .non H'
theorem scMove : FnScope ["self", "dx", "dy", "row"] ["self", "dx", "dy"] (defScope sMove) := ⟨rfl, rfl, rfl, by decide +kernel, rfl, by decide +kernel, by decide +kernel⟩
theorem pt_wants {cw ch m p : Int} {aA : Addr × Addr} {aT aW aC q : Addr} {se fi gr di ea : Int} : putF "wants" (.ref q) (stF cw ch m p aA aT aW aC se fi gr di ea) = stF cw ch m p aA aT q aC se fi gr di ea := by rfl
theorem ok_move {f C fM : Addr} {fd dM : FuncData} (F : Fun K "move" "State.move" sMove f fd) (T : Txt K mg C)
    (M : FnOk P w K mg base CX0 1 fM dM ["row", "w", "dx", "dy"] (spMoved K)) (mM : mg "moved" = some (.ref fM)) (kM : PySem.W.keepIn K (.ref fM) = true) (bM : Binds K dM ["row", "w", "dx", "dy"] []) : FnOk P w K mg base CX0 2 f fd ["self", "dx", "dy"] (spMove C) := by
  refine F.ok scMove (fun vs H Q E h => ?_) (fun cdv A outer st H vs Q E hr h => ?_)
  · obtain ⟨N, p, aT, aW, s, dx, dy, rfl, _⟩ := h
    rfl
  · obtain ⟨N, p, aT, aW, s, dx, dy, rfl, S, ok, k⟩ := h
    refine ⟨_, pss_cons (ps_fld (pv 0) (pe_call M hr rfl mM kM bM .nil pass0 (pa_cons (pe_fld (pv 0) rfl) (pa_cons (pe_fld (pv 0) rfl) (pa_cons (pv 1) (pa_cons (pv 2) pa_nil))))) rfl)
      (pss_one (ps_fld (pv 0) (pe_lc (own := [("row", 3)]) rfl scMove.nd (pi_list (pe_fld (pv 0) rfl)) (blkOk_by (by show blkC ["self", "dx", "dy", "row"] (defScope sMove) _ _ = true; decide +kernel)) (fun _ _ _ _ _ => pg_name (i := 3) scMove.nd rfl (Or.inl rfl)) (fun _ _ _ _ _ => pts_nil)
        (fun _ _ _ _ _ => pe_call M hr rfl mM kM bM .nil pass0 (pa_cons (pv 3) (pa_cons (pe_fldK (K := K) rfl (pv 0) rfl) (pa_cons (pv 1) (pa_cons (pv 2) pa_nil)))))) rfl)), ?_⟩
    obtain ⟨dd, aA, aC, h1, h2, h3⟩ := id S.ex
    obtain ⟨oP, oC, oS⟩ := id ok
    -- self.cells = moved(self.cells, self.w, dx, dy)
    refine (r_fld rfl h1 T.cl T.cells lk_cells (r_fld rfl h1 T.cl T.w lk_w (r_one rfl (r_one rfl ⟨aC, s.cells, s.pond.w, s.pond.h, ex2 dx dy ⟨rfl, SqL.of h3, oC.len, oP.w1, oP.w6, oP.h1, oP.h6, fun H1 a1 n1 => ?_⟩⟩))))
    have s1 := n1.same
    refine (r_one rfl (ex4 p C dd _ ⟨rfl, s1 _ _ h1, T.cl, T.cells, (by show 14 < 1000; decide), ?_⟩))
    rw [pt_cells]
    refine gen_upd fun H2 e2 k2 => ?_
    have b2 : But p H H2 := (But.of_same s1).trans k2
    have c2 := k2.list (s1 _ _ h1) n1.at_
    have r2 := S.gr.but b2 h1
    obtain ⟨rs, g1, g2, g3⟩ := id r2
    have gne := gr_ne oP
    have gl8 : s.pond.grazed.length ≤ 8 := by rw [oP.gl]; exact oP.p8
    -- self.wants = [moved(row, self.w, dx, dy) for row in self.wants]
    refine (r_fld rfl e2 T.cl T.wants lk_wants ⟨aW, rfl, ⟨_, SqL.of g1⟩, fun D hD => lc_list (xs := rs.map V.ref) (RowsFill H2 D (s.pond.grazed.map (movedL s.pond.w s.pond.h dx dy))) (RowsFill.zero hD) (fun i H' _ f => f.1.seq (SqL.of g1)) ?_ ?_⟩)
    · intro i y G hi f
      obtain ⟨r, hr', rfl⟩ : ∃ r, rs[i]? = some r ∧ y = V.ref r := by
        rw [List.getElem?_map] at hi
        cases e : rs[i]? with
        | none =>
          rw [e] at hi
          cases hi
        | some z =>
          rw [e] at hi
          exact ⟨z, rfl, (Option.some.inj hi).symm⟩
      have hil : i < s.pond.grazed.length := by
        have := (List.getElem?_eq_some_iff.mp hr').1
        omega
      have ht := List.getElem?_eq_getElem hil
      have hrow := f.1 _ _ (g3 i r _ hr' ht)
      have glen := (oP.gw _ (List.getElem_mem hil)).len
      refine ⟨rfl, ?_⟩
      refine (r_one rfl (r_fld rfl (f.1 _ _ e2) T.cl T.w lk_w (r_one rfl (r_one rfl ⟨r, _, s.pond.w, s.pond.h, ex2 dx dy ⟨rfl, SqL.of hrow, glen, oP.w1, oP.w6, oP.h1, oP.h6, fun H3 a3 n3 => ?_⟩⟩))))
      refine (f.on n3.same).more hD n3.at_ (by rw [List.getElem?_map, ht]; rfl) (fun t ht e => ?_) (by omega)
      obtain ⟨u, hu, rfl⟩ := List.mem_map.mp ht
      have := congrArg List.length e
      rw [PM.moved_len] at this
      have := oP.n1
      simp at *
      omega
    · intro H3 f
      rw [List.length_map, g2, ← List.length_map (f := movedL s.pond.w s.pond.h dx dy) (as := s.pond.grazed)] at f
      have r3 := f.rows
      have s3 := f.1
      refine (r_one rfl (ex4 p C dd _ ⟨rfl, s3 _ _ e2, T.cl, T.wants, (by show 14 < 1000; decide), ?_⟩))
      rw [pt_wants]
      refine gen_upd fun H4 e4 k4 => ?_
      have k24 : But p H2 H4 := (But.of_same s3).trans k4
      have b4 : But p H H4 := b2.trans k24
      have r4 := r3.but k4 (s3 _ _ e2)
      have fD : H D = none := b2.free hD fun o ho e => by rw [e, e2] at hD; cases hD
      refine k H4 D ⟨⟨dd, aA, a1, e4, h2.but b4 h1, k24.list e2 c2⟩, S.tb.but b4 h1, r4, ?_⟩ fD b4
      exact fun e => ne_new S.atT fD e.symm
/-! ### cells_after_turn -/
/-- the pond that is gone through, the lists that stand for it -/
structure Walk (C : Addr) (N : Nat) (H : Hp) (p aT aW aV : Addr) (s : Vbecae.State) (g : List (List Nat)) : Prop where
  st : StateAt C N H p aT aW s
  ws : RowsAt H aV g
  ok : PM.POk (wg s.pond g)
theorem Walk.same {C : Addr} {N : Nat} {H H' : Hp} {p aT aW aV : Addr} {s : Vbecae.State} {g : List (List Nat)} (W : Walk C N H p aT aW aV s g) (k : Same H H') : Walk C N H' p aT aW aV s g := ⟨W.st.same k, W.ws.same k, W.ok⟩
def spCAT (C : Addr) : Sp := fun vs H Q _ => ∃ (N : Nat) (p aT aW aV aX : Addr) (s : Vbecae.State) (g : List (List Nat)) (se : Nat) (x : List Nat), vs = [.ref p, .ref aV, .int ((se : Nat) : Int), .ref aX] ∧ Walk C N H p aT aW aV s g ∧ se < s.pond.tables.length ∧
  PM.COk (wg s.pond g) x ∧ H aX = some (.lst (nl x)) ∧ ∀ (H' : Hp) (q : Addr), New H H' q (nl (Vbecae.turn (wg s.pond g) se x)) → Q (.ref q) H'
theorem scCAT : FnScope ["state", "wants", "season", "cells", "full"] ["state", "wants", "season", "cells"] (defScope sCAT) := ⟨rfl, rfl, rfl, by decide +kernel, rfl, by decide +kernel, by decide +kernel⟩
theorem New.trans {H H1 H2 : Hp} {p : Addr} {xs : List V} (s : Same H H1) (n : New H1 H2 p xs) : New H H2 p xs := ⟨s.free n.free, n.at_, s.trans n.same⟩
theorem ok_cat {f C : Addr} {fd : FuncData} (F : Fun K "cells_after_turn" "cells_after_turn" sCAT f fd) (T : Txt K mg C) (U : TurnFns P w K mg base) : FnOk P w K mg base CX0 2 f fd ["state", "wants", "season", "cells"] (spCAT C) := by
  refine F.ok scCAT (fun vs H Q E h => ?_) (fun cdv A outer st H vs Q E hr h => ?_)
  · obtain ⟨N, p, aT, aW, aV, aX, s, g, se, x, rfl, _⟩ := h
    rfl
  · obtain ⟨N, p, aT, aW, aV, aX, s, g, se, x, rfl, W, hse, cx, hX, k⟩ := h
    refine ⟨_, pss_cons (ps_set (i := 4) scCAT.nd rfl (Or.inl rfl) (pe_call U.G hr rfl U.mG U.kG U.bG .nil pass0 (pa_cons (pv 3) (pa_cons (pe_ix ix_list (pe_fld (pv 0) rfl) (pv 2) (fun _ _ => rfl)) pa_nil))))
      (pss_one (ps_ret (pe_call U.S hr rfl U.mS U.kS U.bS .nil pass0 (pa_cons (pe_call U.Z hr rfl U.mZ U.kZ U.bZ .nil pass0 (pa_cons (pv 4) (pa_cons (pe_ix ix_list (pv 1) (pv 2) (fun _ _ => rfl)) pa_nil))) (pa_cons (pe_fld (pv 0) rfl) pa_nil))))), ?_⟩
    obtain ⟨dx, aA, aC, h1, h2, h3⟩ := W.st.ex
    have oP := W.ok
    obtain ⟨xt, bt, ht1, ht2, ht3⟩ := W.st.tb.get hse
    obtain ⟨xw, bw, hw1, hw2, hw3⟩ := W.ws.get (show se < g.length by rw [show g.length = _ from oP.gl]; exact hse)
    have n36 : s.pond.w * s.pond.h ≤ 36 := oP.n36
    have clen : x.length = s.pond.w * s.pond.h := cx.len
    have tOk := oP.table (s := se) hse
    have wOk := oP.wants (s := se) hse
    have gOk := PM.grown_ok oP (s := se) hse cx
    have lOk := PM.left_ok oP (s := se) hse gOk
    refine ⟨_, rfl, _, rfl, p, C, dx, _, _, rfl, h1, T.cl, T.tables, lk_tables, _, rfl, aT, _, _, _, rfl, rfl, SqL.of ht1, ht2, aX, bt, x, _, rfl, SqL.of hX, SqL.of ht3, by omega, (fun v hv => by
      have := tOk.len
      have := cx.le v hv
      show v < (s.pond.tables.getD se []).length
      rw [show (s.pond.tables.getD se []).length = s.pond.most + 1 from tOk.len]
      exact Nat.lt_succ_of_le (cx.le v hv)), fun H1 a1 n1 => ?_⟩
    have s1 := n1.same
    have hfull : H1 a1 = some (.lst (nl (Vbecae.grown (wg s.pond g) se x))) := n1.at_
    refine (r_one rfl (r_one rfl (r_one rfl (r_ixL (SqL.of (s1 _ _ hw1)) hw2 (ex4 a1 bw _ _ ⟨rfl, SqL.of hfull, SqL.of (s1 _ _ hw3), (by rw [gOk.len]; exact Nat.le_trans n36 (by decide)), (by rw [gOk.len]; exact wOk.len.symm), fun H2 a2 n2 => ?_⟩)))))
    have s2 := s1.trans n2.same
    have hleft : H2 a2 = some (.lst (nl (Vbecae.left (wg s.pond g) se (Vbecae.grown (wg s.pond g) se x)))) := n2.at_
    refine (r_fld rfl (s2 _ _ h1) T.cl T.around lk_around (ex5 a2 aA.1 _ _ _ ⟨rfl, SqL.of hleft, h2.1.same s2, lOk.len, oP.w6, oP.h6, fun H3 a3 n3 => ?_⟩))
    refine k H3 a3 (New.trans s2 ?_)
    have e := PM.spread_gath (a := wg s.pond g) oP.w6 oP.h6 (Vbecae.left (wg s.pond g) se (Vbecae.grown (wg s.pond g) se x))
    unfold Vbecae.turn
    rw [e]
    exact n3
end
end PD
end
section
set_option Elab.async false
set_option linter.all false
set_option maxRecDepth 100000
set_option maxHeartbeats 2000000
namespace PD
open PySem PySem.Spec PyProof.Rows L2
open Vbecae (at_ share)
open PM (movedL wg)
abbrev sSettle : Stmt := top 12
abbrev sFrozen : Stmt := top 13
/-- a def of the text that may be called by its name -/
structure Cal (P : Program) (w : World) (K : PySem.W.Frag) (mg : Str → Option Value) (base : Heap) (x : Str) (k : Nat) (ps : List Str) (sp : Sp) where
  f : Addr
  d : FuncData
  ok : FnOk P w K mg base CX0 k f d ps sp
  m : mg x = some (.ref f)
  kp : PySem.W.keepIn K (.ref f) = true
  b : Binds K d ps []
/-! ### lists of ints compared -/
def pdl (x : List Nat) : PyData := .list ((Vbecae.ints x).map PyData.int)
theorem dp_ints {K : PySem.W.Frag} {H : Hp} : ∀ l : List Int, DpAll K H (l.map V.int) (l.map PyData.int)
  | [] => .nil
  | i :: l => .cons (.int i) (dp_ints l)
theorem dp_nl {K : PySem.W.Frag} {H : Hp} {a : Addr} {x : List Nat} (h : H a = some (.lst (nl x))) : Dp K H (.ref a) (pdl x) := .lst (SqL.of h) (dp_ints _)
theorem lay_ints : ∀ l : List Int, PyData.canLayAll0 (l.map PyData.int) = true
  | [] => rfl
  | i :: l => by
    show (PyData.canLay0 (.int i) && PyData.canLayAll0 (l.map PyData.int)) = true
    rw [lay_ints l]
    rfl
theorem depth_ints : ∀ l : List Int, PyData.depthAll (l.map PyData.int) = 0
  | [] => rfl
  | i :: l => by
    show max (PyData.depth (.int i)) (PyData.depthAll (l.map PyData.int)) = 0
    rw [depth_ints l]
    rfl
theorem pdl_shaped (x : List Nat) : SeqAt.shaped (pdl x) = true := by
  unfold SeqAt.shaped pdl
  rw [Bool.and_eq_true]
  refine ⟨?_, decide_eq_true ?_⟩
  · show PyData.canLayAll0 _ = true
    exact lay_ints _
  · show PyData.depthAll _ + 1 ≤ 64
    rw [depth_ints]
    decide
theorem eqv_ints : ∀ (x y : List Nat), PyData.eqvAll ((Vbecae.ints x).map PyData.int) ((Vbecae.ints y).map PyData.int) = decide (x = y)
  | [], [] => rfl
  | [], _ :: _ => rfl
  | _ :: _, [] => rfl
  | a :: x, b :: y => by
    show (((a : Nat) : Int) == ((b : Nat) : Int) && PyData.eqvAll ((Vbecae.ints x).map PyData.int) ((Vbecae.ints y).map PyData.int)) = _
    rw [eqv_ints x y, Bool.eq_iff_iff, Bool.and_eq_true, decide_eq_true_eq, decide_eq_true_eq, beq_iff_eq]
    constructor
    · rintro ⟨h1, h2⟩
      rw [Int.ofNat.inj h1, h2]
    · intro h
      obtain ⟨h1, h2⟩ := List.cons.inj h
      rw [h1, h2]
      exact ⟨rfl, rfl⟩
theorem eqv_nl (x y : List Nat) : PyData.eqv (pdl x) (pdl y) = decide (x = y) := eqv_ints x y
theorem rep_nl (n u : Nat) : (List.replicate n [V.int ((u : Nat) : Int)]).flatten = nl (List.replicate n u) := by
  induction n with
  | zero => rfl
  | succ n ih =>
    rw [List.replicate_succ, List.replicate_succ, List.flatten_cons, ih]
    rfl
/-- tuple(xs) within a comprehension -/
theorem call_tupleK {X : Cx} {K : PySem.W.Frag} (hK : X.K = K) : CallR X (.type "tuple") (fun xs H Q => ∃ p ys, xs = [.ref p] ∧ ((SqL K H p ys ∧ ∀ l, H l = none → Q (.ref l) (upd H l (.tup ys))) ∨ (SqT K H p ys ∧ Q (.ref p) H))) := hK ▸ call_tuple_of
section
variable {P : Program} {w : World} {K : PySem.W.Frag} {mg : Str → Option Value} {base : Heap}
/-! ### cells_after_year -/
def spCAY (C : Addr) : Sp := fun vs H Q _ => ∃ (N : Nat) (p aT aW aV aX : Addr) (s : Vbecae.State) (g : List (List Nat)) (x : List Nat), vs = [.ref p, .ref aV, .ref aX] ∧ Walk C N H p aT aW aV s g ∧
  PM.COk (wg s.pond g) x ∧ H aX = some (.lst (nl x)) ∧ ∀ (H' : Hp) (q : Addr), Same H H' → H' q = some (.lst (nl (Vbecae.year (wg s.pond g) x))) → Q (.ref q) H'
theorem scCAY : FnScope ["state", "wants", "cells", "season"] ["state", "wants", "cells"] (defScope sCAY) := ⟨rfl, rfl, rfl, by decide +kernel, rfl, by decide +kernel, by decide +kernel⟩
theorem ok_cay {f C : Addr} {fd : FuncData} (F : Fun K "cells_after_year" "cells_after_year" sCAY f fd) (T : Txt K mg C) (B : Bl mg) (U : Cal P w K mg base "cells_after_turn" 2 ["state", "wants", "season", "cells"] (spCAT C)) :
    FnOk P w K mg base CX0 3 f fd ["state", "wants", "cells"] (spCAY C) := by
  refine F.ok scCAY (fun vs H Q E h => ?_) (fun cdv A outer st H vs Q E hr h => ?_)
  · obtain ⟨N, p, aT, aW, aV, aX, s, g, x, rfl, _⟩ := h
    rfl
  · obtain ⟨N, p, aT, aW, aV, aX, s, g, x, rfl, W, cx, hX, k⟩ := h
    refine ⟨_, pss_cons (ps_for PassesOwn.never rfl (pi_range1 rfl B.range (pa_cons (pe_fld (pv 0) rfl) pa_nil)) (pg_name (i := 3) scCAY.nd rfl (Or.inl rfl))
        (pss_one (ps_set (i := 2) scCAY.nd rfl (Or.inl rfl) (pe_call U.ok hr rfl U.m U.kp U.b .nil pass0 (pa_cons (pv 0) (pa_cons (pv 1) (pa_cons (pv 3) (pa_cons (pv 2) pa_nil))))))))
      (pss_one (ps_ret (pv 2))), ?_⟩
    obtain ⟨dx, aA, aC, h1, h2, h3⟩ := W.st.ex
    have oP := W.ok
    have p8 : s.pond.tables.length ≤ 8 := oP.p8
    have p1 : 1 ≤ s.pond.tables.length := oP.p1
    refine (r_fld rfl h1 T.cl T.p lk_p (r_one rfl ⟨by omega, by omega, for_range (n := ((s.pond.tables.length : Nat) : Int).toNat) (fun i σ H' => ∃ (v : Option V) (q : Addr), σ = [some (.ref p), some (.ref aV), some (.ref q), v] ∧ Same H H' ∧ H' q = some (.lst (nl (Vbecae.turns (wg s.pond g) i 0 x)))) (ex2 none aX ⟨rfl, fun _ _ e => e, hX⟩) ?_ ?_⟩))

    · rintro i σ H' hi ⟨v, q, rfl, s1, hq⟩
      have hi' : i < s.pond.tables.length := by simpa using hi
      rw [show (0 : Int) + ((i : Nat) : Int) = ((i : Nat) : Int) from Int.zero_add _]
      refine (r_one rfl (r_one rfl (r_one rfl (r_one rfl (ex10 N p aT aW aV q s g i _ ⟨rfl, W.same s1, hi', PM.turns_ok oP i (s := 0) p1 cx, hq, fun H2 q2 n2 => ?_⟩)))))
      refine (ex2 _ q2 ⟨rfl, s1.trans n2.same, ?_⟩)
      rw [PM.year_snoc (a := wg s.pond g) hi']
      exact n2.at_
    · rintro σ H' ⟨v, q, rfl, s1, hq⟩
      exact (r_one rfl (k H' q s1 hq))
/-! ### grazed_in_year -/
def spGIY (C : Addr) : Sp := fun vs H Q _ => ∃ (N : Nat) (p aT aW aV aX : Addr) (s : Vbecae.State) (g : List (List Nat)) (x : List Nat), vs = [.ref p, .ref aV, .ref aX] ∧ Walk C N H p aT aW aV s g ∧
  PM.COk (wg s.pond g) x ∧ H aX = some (.lst (nl x)) ∧ ∀ (H' : Hp), Same H H' → Q (.int (((Vbecae.bookedN (Vbecae.seasons (wg s.pond g)) (Vbecae.fresh (wg s.pond g) x)).eaten : Nat) : Int)) H'
theorem scGIY : FnScope ["state", "wants", "cells", "grazed", "season", "full", "left"] ["state", "wants", "cells"] (defScope sGIY) := ⟨rfl, rfl, rfl, by decide +kernel, rfl, by decide +kernel, by decide +kernel⟩
theorem ok_giy {f C : Addr} {fd : FuncData} (F : Fun K "grazed_in_year" "grazed_in_year" sGIY f fd) (T : Txt K mg C) (B : Bl mg) (U : TurnFns P w K mg base) : FnOk P w K mg base CX0 2 f fd ["state", "wants", "cells"] (spGIY C) := by
  refine F.ok scGIY (fun vs H Q E h => ?_) (fun cdv A outer st H vs Q E hr h => ?_)
  · obtain ⟨N, p, aT, aW, aV, aX, s, g, x, rfl, _⟩ := h
    rfl
  · obtain ⟨N, p, aT, aW, aV, aX, s, g, x, rfl, W, cx, hX, k⟩ := h
    refine ⟨_, pss_cons (ps_set (i := 3) scGIY.nd rfl (Or.inl rfl) pe_int) (pss_cons (ps_for PassesOwn.never rfl (pi_range1 rfl B.range (pa_cons (pe_fld (pv 0) rfl) pa_nil)) (pg_name (i := 4) scGIY.nd rfl (Or.inl rfl))
        (pss_cons (ps_set (i := 5) scGIY.nd rfl (Or.inl rfl) (pe_call U.G hr rfl U.mG U.kG U.bG .nil pass0 (pa_cons (pv 2) (pa_cons (pe_ix ix_list (pe_fld (pv 0) rfl) (pv 4) (fun _ _ => rfl)) pa_nil))))
        (pss_cons (ps_set (i := 6) scGIY.nd rfl (Or.inl rfl) (pe_call U.Z hr rfl U.mZ U.kZ U.bZ .nil pass0 (pa_cons (pv 5) (pa_cons (pe_ix ix_list (pv 1) (pv 4) (fun _ _ => rfl)) pa_nil))))
        (pss_cons (ps_aug (i := 3) scGIY.nd rfl (Or.inl rfl) (pe_op op_sub (pe_callB (cr_sum rfl) (by rfl) B.sum boot_sum (pa_cons (pv 5) pa_nil)) (pe_callB (cr_sum rfl) (by rfl) B.sum boot_sum (pa_cons (pv 6) pa_nil))) ip_add)
        (pss_one (ps_set (i := 2) scGIY.nd rfl (Or.inl rfl) (pe_call U.S hr rfl U.mS U.kS U.bS .nil pass0 (pa_cons (pv 6) (pa_cons (pe_fld (pv 0) rfl) pa_nil)))))))))
      (pss_one (ps_ret (pv 3)))), ?_⟩
    obtain ⟨dx, aA, aC, h1, h2, h3⟩ := W.st.ex
    have oP := W.ok
    have n36 : s.pond.w * s.pond.h ≤ 36 := oP.n36
    have p8 : s.pond.tables.length ≤ 8 := oP.p8
    have p1 : 1 ≤ s.pond.tables.length := oP.p1
    refine (r_fld rfl h1 T.cl T.p lk_p (r_one rfl ⟨by omega, by omega, for_range (n := ((s.pond.tables.length : Nat) : Int).toNat) (fun i σ H' => ∃ (v4 v5 v6 : Option V) (q : Addr), σ = [some (.ref p), some (.ref aV), some (.ref q), some (.int (((Vbecae.bookedN i (Vbecae.fresh (wg s.pond g) x)).eaten : Nat) : Int)), v4, v5, v6] ∧ Same H H' ∧ H' q = some (.lst (nl (Vbecae.turns (wg s.pond g) i 0 x)))) (ex4 none none none aX ⟨rfl, fun _ _ e => e, hX⟩) ?_ ?_⟩))


    · rintro i σ H' hi ⟨v4, v5, v6, q, rfl, s1, hq⟩
      have hi' : i < s.pond.tables.length := by simpa using hi
      rw [show (0 : Int) + ((i : Nat) : Int) = ((i : Nat) : Int) from Int.zero_add _]
      have ci := PM.turns_ok oP i (s := 0) p1 cx
      obtain ⟨xt, bt, ht1, ht2, ht3⟩ := (W.st.tb.same s1).get hi'
      obtain ⟨xw, bw, hw1, hw2, hw3⟩ := (W.ws.same s1).get (show i < g.length by rw [show g.length = _ from oP.gl]; exact hi')
      have tOk := oP.table (s := i) hi'
      have wOk := oP.wants (s := i) hi'
      have gOk := PM.grown_ok oP (s := i) hi' ci
      have lOk := PM.left_ok oP (s := i) hi' gOk
      have clen : (Vbecae.turns (wg s.pond g) i 0 x).length = s.pond.w * s.pond.h := ci.len
      -- full = grow(cells, state.tables[season])
      refine ⟨_, rfl, _, rfl, p, C, dx, _, _, rfl, s1 _ _ h1, T.cl, T.tables, lk_tables, _, rfl, aT, _, _, _, rfl, rfl, SqL.of ht1, ht2, q, bt, _, _, rfl, SqL.of hq, SqL.of ht3, by omega, (fun v hv => by
        rw [show (s.pond.tables.getD i []).length = s.pond.most + 1 from tOk.len]
        exact Nat.lt_succ_of_le (ci.le v hv)), fun H1 a1 n1 => ?_⟩
      have s2 := n1.same
      have hfull : H1 a1 = some (.lst (nl (Vbecae.grown (wg s.pond g) i (Vbecae.turns (wg s.pond g) i 0 x)))) := n1.at_
      -- left = graze(full, wants[season])
      refine (r_one rfl (r_one rfl (r_one rfl (r_ixL (SqL.of (s2 _ _ hw1)) hw2 (ex4 a1 bw _ _ ⟨rfl, SqL.of hfull, SqL.of (s2 _ _ hw3), (by rw [gOk.len]; exact Nat.le_trans n36 (by decide)), (by rw [gOk.len]; exact wOk.len.symm), fun H2 a2 n2 => ?_⟩)))))
      have s3 := (s1.trans s2).trans n2.same
      have hfull2 := n2.same _ _ hfull
      have hleft : H2 a2 = some (.lst (nl (Vbecae.left (wg s.pond g) i (Vbecae.grown (wg s.pond g) i (Vbecae.turns (wg s.pond g) i 0 x))))) := n2.at_
      -- grazed += sum(full) - sum(left)
      refine (r_one rfl (r_one rfl ⟨a1, Vbecae.ints (Vbecae.grown (wg s.pond g) i (Vbecae.turns (wg s.pond g) i 0 x)), rfl, SqL.of hfull2, r_one rfl ⟨a2, Vbecae.ints (Vbecae.left (wg s.pond g) i (Vbecae.grown (wg s.pond g) i (Vbecae.turns (wg s.pond g) i 0 x))), rfl, SqL.of hleft, r_two rfl rfl (r_two rfl rfl ?_)⟩⟩))
      have et : (((Vbecae.bookedN i (Vbecae.fresh (wg s.pond g) x)).eaten : Nat) : Int) + ((Vbecae.ints (Vbecae.grown (wg s.pond g) i (Vbecae.turns (wg s.pond g) i 0 x))).sum - (Vbecae.ints (Vbecae.left (wg s.pond g) i (Vbecae.grown (wg s.pond g) i (Vbecae.turns (wg s.pond g) i 0 x)))).sum) =
          (((Vbecae.bookedN (i + 1) (Vbecae.fresh (wg s.pond g) x)).eaten : Nat) : Int) := by
        have h4 := PM.taken_eq oP (s := i) hi' gOk
        rw [nl_sum, nl_sum, PM.eaten_snoc (a := wg s.pond g) hi']
        omega
      dsimp only
      rw [et]
      -- cells = spread(left, state.around)
      refine (r_one rfl (r_fld rfl (s3 _ _ h1) T.cl T.around lk_around (ex5 a2 aA.1 _ _ _ ⟨rfl, SqL.of hleft, h2.1.same s3, lOk.len, oP.w6, oP.h6, fun H3 a3 n3 => ?_⟩)))
      refine (ex4 _ _ _ a3 ⟨rfl, s3.trans n3.same, ?_⟩)
      rw [PM.year_snoc (a := wg s.pond g) hi']
      have e := PM.spread_gath (a := wg s.pond g) oP.w6 oP.h6 (Vbecae.left (wg s.pond g) i (Vbecae.grown (wg s.pond g) i (Vbecae.turns (wg s.pond g) i 0 x)))
      unfold Vbecae.turn
      rw [e]
      exact n3.at_
    · rintro σ H' ⟨v4, v5, v6, q, rfl, s1, hq⟩
      exact (r_one rfl (k H' s1))
/-! ### settle -/
def spSettle (C : Addr) : Sp := fun vs H Q _ => ∃ (N : Nat) (p aT aW aV : Addr) (s : Vbecae.State) (g : List (List Nat)) (u : Nat), vs = [.ref p, .ref aV, .int ((u : Nat) : Int)] ∧ Walk C N H p aT aW aV s g ∧ (u = s.pond.most ∨ u = 0) ∧
  ∀ (H' : Hp) (t c : Addr), Same H H' → H t = none → H' t = some (.tup [.int (((PM.End (wg s.pond g) u).1 : Nat) : Int), .ref c]) → H' c = some (.lst (nl (PM.End (wg s.pond g) u).2)) → Q (.ref t) H'
theorem scSettle : FnScope ["state", "wants", "units", "years", "cells", "after"] ["state", "wants", "units"] (defScope sSettle) := ⟨rfl, rfl, rfl, by decide +kernel, rfl, by decide +kernel, by decide +kernel⟩
theorem ok_settle {f C : Addr} {fd : FuncData} (F : Fun K "settle" "settle" sSettle f fd) (T : Txt K mg C) (U : Cal P w K mg base "cells_after_year" 3 ["state", "wants", "cells"] (spCAY C)) : FnOk P w K mg base CX0 4 f fd ["state", "wants", "units"] (spSettle C) := by
  refine F.ok scSettle (fun vs H Q E h => ?_) (fun cdv A outer st H vs Q E hr h => ?_)
  · obtain ⟨N, p, aT, aW, aV, s, g, u, rfl, _⟩ := h
    rfl
  · obtain ⟨N, p, aT, aW, aV, s, g, u, rfl, W, hu, k⟩ := h
    refine ⟨_, pss_cons (ps_set (i := 3) scSettle.nd rfl (Or.inl rfl) pe_int)
      (pss_cons (ps_set (i := 4) scSettle.nd rfl (Or.inl rfl) (pe_op op_rep (pe_lst (pa_cons (pv 2) pa_nil)) (pe_op op_mul (pe_fld (pv 0) rfl) (pe_fld (pv 0) rfl))))
      (pss_cons (ps_set (i := 5) scSettle.nd rfl (Or.inl rfl) (pe_call U.ok hr rfl U.m U.kp U.b .nil pass0 (pa_cons (pv 0) (pa_cons (pv 1) (pa_cons (pv 4) pa_nil)))))
      (pss_cons (ps_while PassesOwn.never (pt_cmpR (op_neD hr.units) (pv 5) (pv 4) (nomark _))
        (pss_cons (ps_aug (i := 3) scSettle.nd rfl (Or.inl rfl) pe_int ip_add) (pss_cons (ps_set (i := 4) scSettle.nd rfl (Or.inl rfl) (pv 5))
        (pss_one (ps_set (i := 5) scSettle.nd rfl (Or.inl rfl) (pe_call U.ok hr rfl U.m U.kp U.b .nil pass0 (pa_cons (pv 0) (pa_cons (pv 1) (pa_cons (pv 4) pa_nil)))))))))
      (pss_one (ps_ret (pe_tup (pa_cons (pv 3) (pa_cons (pv 4) pa_nil)))))))), ?_⟩
    obtain ⟨dx, aA, aC, h1, h2, h3⟩ := W.st.ex
    have oP := W.ok
    have n36 : s.pond.w * s.pond.h ≤ 36 := oP.n36
    have w6 : s.pond.w ≤ 6 := oP.w6
    have hh6 : s.pond.h ≤ 6 := oP.h6
    have wm : -(2 ^ 64) < ((s.pond.h : Nat) : Int) ∧ ((s.pond.h : Nat) : Int) < 2 ^ 64 := ⟨by omega, by omega⟩
    have emul : ((s.pond.w : Nat) : Int) * ((s.pond.h : Nat) : Int) = ((s.pond.w * s.pond.h : Nat) : Int) := (Int.natCast_mul _ _).symm
    have hz36 : 1 * (((s.pond.w * s.pond.h : Nat) : Int)).toNat ≤ sizeLine := Nat.le_of_lt (small1000 (by rw [Int.toNat_natCast]; omega))
    -- cells = [units] * (state.w * state.h)
    refine (r_one rfl ⟨(by show 1 ≤ sizeLine; decide), fun l hl => ?_⟩)
    have s0 : Same H (upd H l (.lst [.int ((u : Nat) : Int)])) := Same.new hl
    refine (r_fld rfl (s0 _ _ h1) T.cl T.w lk_w (r_fld rfl (s0 _ _ h1) T.cl T.h lk_h (r_two rfl rfl ⟨.inr wm, ?_⟩)))
    dsimp only
    rw [emul]
    refine (ex3 l _ _ ⟨rfl, rfl, upd_same, by omega, by omega, hz36, fun a0 hC => ?_⟩)
    rw [show (((s.pond.w * s.pond.h : Nat) : Int)).toNat = s.pond.w * s.pond.h from rfl, rep_nl]
    have s1 : Same H (upd (upd H l (.lst [.int ((u : Nat) : Int)])) a0 (.lst (nl (List.replicate (s.pond.w * s.pond.h) u)))) := s0.trans (Same.new hC)
    have c1 : (upd (upd H l (.lst [.int ((u : Nat) : Int)])) a0 (.lst (nl (List.replicate (s.pond.w * s.pond.h) u)))) a0 = some (.lst (nl (Vbecae.all (wg s.pond g) u))) := upd_same
    generalize upd (upd H l (.lst [.int ((u : Nat) : Int)])) a0 (.lst (nl (List.replicate (s.pond.w * s.pond.h) u))) = H1 at s1 c1 ⊢
    have way0 := PM.way_start (a := wg s.pond g) oP hu
    -- after = cells_after_year(state, wants, cells)
    refine (r_one rfl (r_one rfl (r_one rfl (ex9 N p aT aW aV a0 s g _ ⟨rfl, W.same s1, way0.ok, c1, fun H2 q2 k2 e2 => ?_⟩))))
    -- while after != cells
    refine ⟨fun m σ H' => ∃ (n : Nat) (x : List Nat) (q q' : Addr), σ = [some (.ref p), some (.ref aV), some (.int ((u : Nat) : Int)), some (.int ((n : Nat) : Int)), some (.ref q), some (.ref q')] ∧ Same H H' ∧ H' q = some (.lst (nl x)) ∧
      H' q' = some (.lst (nl (Vbecae.year (wg s.pond g) x))) ∧ PM.Way (wg s.pond g) u x ∧ PM.rest (wg s.pond g) n x = PM.End (wg s.pond g) u ∧ m = PM.left_ (wg s.pond g) u x, ⟨_, 0, _, a0, q2, rfl, s1.trans k2, k2 _ _ c1, e2, way0, rfl, rfl⟩, ?_⟩
    rintro m σ H' ⟨n, x0, q, q', rfl, sm, hq, hq', way, hrest, rfl⟩
    refine (r_one rfl (r_one rfl ⟨pdl (Vbecae.year (wg s.pond g) x0), pdl x0, dp_nl hq', dp_nl hq, pdl_shaped _, pdl_shaped _, r_one rfl ?_⟩))
    rw [eqv_nl]
    refine ite2 (fun hc => ?_) (fun hc => ?_)
    · have hc : ¬ Vbecae.year (wg s.pond g) x0 = x0 := by simpa using hc
      refine ⟨fun σ' G => ∃ (n : Nat) (x : List Nat) (q q' : Addr), σ' = [some (.ref p), some (.ref aV), some (.int ((u : Nat) : Int)), some (.int ((n : Nat) : Int)), some (.ref q), some (.ref q')] ∧ Same H G ∧ G q = some (.lst (nl x)) ∧
        G q' = some (.lst (nl (Vbecae.year (wg s.pond g) x))) ∧ PM.Way (wg s.pond g) u x ∧ PM.rest (wg s.pond g) n x = PM.End (wg s.pond g) u ∧ PM.left_ (wg s.pond g) u x < PM.left_ (wg s.pond g) u x0, ?_, ?_⟩
      · rintro σ' G ⟨n', x', q1, q1', e1, e2, e3, e4, e5, e6, e7⟩
        exact ⟨_, e7, n', x', q1, q1', e1, e2, e3, e4, e5, e6, rfl⟩
      · -- years += 1; cells = after; after = ..
        refine (r_one rfl (r_two rfl rfl ?_))
        refine (r_one rfl ?_)
        have way' := way.next oP
        refine (r_one rfl (r_one rfl (r_one rfl (ex9 N p aT aW aV q' s g _ ⟨rfl, W.same sm, way'.ok, hq', fun G q3 k3 e3 => ?_⟩))))
        exact ⟨n + 1, ex3 _ q' q3 ⟨rfl, sm.trans k3, k3 _ _ hq', e3, way', by rw [← way.rest oP hc]; exact hrest, way.lt oP hc⟩⟩
    · have hc : Vbecae.year (wg s.pond g) x0 = x0 := by simpa using hc
      rw [PM.rest_stop hc] at hrest
      refine (r_one rfl (r_one rfl ⟨(by show 2 ≤ sizeLine; decide), fun t ht => ?_⟩))
      refine k _ t q (sm.trans (Same.new ht)) (sm.free ht) ?_ ?_
      · rw [upd_same, ← hrest]
      · rw [upd_ne (ne_of_none hq ht), ← hrest]
        exact hq
/-! ### frozen -/
def spFrozen (K : PySem.W.Frag) : Sp := fun vs H Q _ => ∃ (a : Addr) (rows : List (List Nat)), vs = [.ref a] ∧ RowsAt H a rows ∧ rows.length ≤ 100 ∧ (∀ t ∈ rows, t.length ≤ 100) ∧
  ∀ (H' : Hp) (b : Addr), Same H H' → aTup (aTup aInt) H' (rows.map Vbecae.ints) (.ref b) → Q (.ref b) H'
theorem scFrozen : FnScope ["rows", "row"] ["rows"] (defScope sFrozen) := ⟨rfl, rfl, rfl, by decide +kernel, rfl, by decide +kernel, by decide +kernel⟩
def TupFill (H1 : Hp) (D : Addr) (rows : List (List Nat)) (i : Nat) (H : Hp) : Prop := Same H1 H ∧ ∃ rs : List Addr, H D = some (.lst (rs.map V.ref)) ∧ rs.length = i ∧ ∀ (k : Nat) (r : Addr) (t : List Nat), rs[k]? = some r → rows[k]? = some t → H r = some (.tup (nl t))
theorem a_ints {H : Hp} : ∀ x : List Int, Paired (aInt H) x (x.map V.int)
  | [] => .nil
  | i :: x => .cons rfl (a_ints x)
theorem ok_frozen {f : Addr} {fd : FuncData} (F : Fun K "frozen" "frozen" sFrozen f fd) (B : Bl mg) : FnOk P w K mg base CX0 1 f fd ["rows"] (spFrozen K) := by
  refine F.ok scFrozen (fun vs H Q E h => ?_) (fun cdv A outer st H vs Q E hr h => ?_)
  · obtain ⟨a, rows, rfl, _⟩ := h
    rfl
  · obtain ⟨a, rows, rfl, R, hr1, hr2, k⟩ := h
    refine ⟨_, pss_one (ps_ret (pe_callTy call_tuple_of (by rfl) B.tuple boot_tuple (pa_cons (pe_lc (own := [("row", 1)]) rfl scFrozen.nd (pi_list (pv 0)) (blkOk_by (by show blkC ["rows", "row"] (defScope sFrozen) _ _ = true; decide +kernel)) (fun _ _ _ _ _ => pg_name (i := 1) scFrozen.nd rfl (Or.inl rfl)) (fun _ _ _ _ _ => pts_nil)
      (fun _ _ _ _ _ => pe_callTy (call_tupleK (K := K) rfl) (by rfl) B.tuple boot_tuple (pa_cons (pv 1) pa_nil))) pa_nil))), ?_⟩
    obtain ⟨rs, g1, g2, g3⟩ := R
    refine (r_one rfl ⟨a, rfl, ⟨_, SqL.of g1⟩, fun D hD => lc_list (xs := rs.map V.ref) (TupFill H D rows) ⟨Same.new hD, [], upd_same, rfl, fun k r t h => by simp at h⟩ (fun i H' _ f => f.1.seq (SqL.of g1)) ?_ ?_⟩)
    · rintro i y G hi ⟨sG, ts, t1, t2, t3⟩
      obtain ⟨r, hr', rfl⟩ : ∃ r, rs[i]? = some r ∧ y = V.ref r := by
        rw [List.getElem?_map] at hi
        cases e : rs[i]? with
        | none =>
          rw [e] at hi
          cases hi
        | some z =>
          rw [e] at hi
          exact ⟨z, rfl, (Option.some.inj hi).symm⟩
      have hil : i < rows.length := by
        have := (List.getElem?_eq_some_iff.mp hr').1
        omega
      have ht := List.getElem?_eq_getElem hil
      refine ⟨rfl, ?_⟩
      refine (r_one rfl (ex2 r _ ⟨rfl, .inl ⟨SqL.of (sG _ _ (g3 i r _ hr' ht)), fun l hl => ?_⟩⟩))
      have nD : D ≠ l := ne_of_none t1 hl
      refine ⟨_, (upd_ne nD).trans t1, (by rw [List.length_map, t2]; exact small1000 (by omega)), (sG.trans (Same.new hl)).upd hD, ts ++ [l], ?_, ?_, fun j u t hu htt => ?_⟩
      · rw [upd_same, List.map_append]
        rfl
      · rw [List.length_append, t2]
        rfl
      · by_cases hj : j < ts.length
        · rw [List.getElem?_append_left hj] at hu
          have e := t3 j u t hu htt
          rw [upd_ne (ne_of e t1 (by intro z; cases z)), upd_ne (ne_of_none e hl)]
          exact e
        · rw [List.getElem?_append_right (by omega)] at hu
          have hb := (List.getElem?_eq_some_iff.mp hu).1
          have ej : j = i := by
            simp at hb
            omega
          subst ej
          have e : u = l := by
            have := List.mem_of_getElem? hu
            simpa using this
          rw [ht] at htt
          cases htt
          rw [e, upd_ne (fun q => nD q.symm), upd_same]
    · rintro G ⟨sG, ts, t1, t2, t3⟩
      rw [List.length_map, g2] at t2
      refine (ex2 D _ ⟨rfl, .inl ⟨SqL.of t1, fun b hb => ?_⟩⟩)
      refine k _ b (sG.trans (Same.new hb)) (ex2 b _ ⟨rfl, upd_same, ?_⟩)
      refine paired_of (by rw [List.length_map, List.length_map]; omega) fun i x v hx hv => ?_
      rw [List.getElem?_map] at hx hv
      cases e1 : rows[i]? with
      | none =>
        rw [e1] at hx
        cases hx
      | some r =>
        cases e2 : ts[i]? with
        | none =>
          rw [e2] at hv
          cases hv
        | some t =>
          rw [e1] at hx
          rw [e2] at hv
          cases hx
          cases hv
          have h4 := t3 i t r e2 e1
          exact ⟨t, nl r, rfl, (upd_ne (ne_of_none h4 hb)).trans h4, a_ints _⟩
end
end PD
end
section
set_option Elab.async false
set_option linter.all false
set_option maxRecDepth 100000
set_option maxHeartbeats 2000000
namespace PD
open PySem PySem.Spec PyProof.Rows L2
open Vbecae (at_ share)
open PM (movedL wg)
abbrev sSettled : Stmt := top 14
/-- all but the dicts is as it was -/
structure SameX (H H' : Hp) : Prop where
  to : ∀ b o, H b = some o → (∀ φ, o ≠ .ext φ) → H' b = some o
  free : ∀ b, H' b = none → H b = none
theorem SameX.of {H H' : Hp} (s : Same H H') : SameX H H' := ⟨fun b o e _ => s b o e, fun b h => s.free h⟩
theorem SameX.trans {H H1 H2 : Hp} (a : SameX H H1) (b : SameX H1 H2) : SameX H H2 := ⟨fun c o e n => b.to c o (a.to c o e n) n, fun c h => a.free c (b.free c h)⟩
theorem SameX.lst {H H' : Hp} (k : SameX H H') {a : Addr} {xs : List V} (e : H a = some (.lst xs)) : H' a = some (.lst xs) := k.to _ _ e (fun _ e => nomatch e)
theorem SameX.rows {a : Addr} {H H' : Hp} {rows : List (List Nat)} (r : RowsAt H a rows) (k : SameX H H') : RowsAt H' a rows := by
  obtain ⟨rs, h1, h2, h3⟩ := r
  exact ⟨rs, k.lst h1, h2, fun i r t hr ht => k.lst (h3 i r t hr ht)⟩
theorem SameX.tups {a : Addr} {H H' : Hp} {w h n : Nat} (r : TupsAt H a w h n) (k : SameX H H') : TupsAt H' a w h n := by
  obtain ⟨ts, h1, h2, h3⟩ := r
  exact ⟨ts, k.lst h1, h2, fun i t ht => k.to _ _ (h3 i t ht) (fun _ e => nomatch e)⟩
theorem getX_mem {K : Type} [DecidableEq K] {xs : List (K × Addr × V)} {k : K} {v : V} (h : getX xs k = some v) : ∃ x ∈ xs, x.1 = k ∧ x.2.2 = v := by
  unfold getX at h
  obtain ⟨x, hx, e⟩ := Option.map_eq_some_iff.mp h
  have hd := List.find?_some hx
  exact ⟨x, List.mem_of_find?_eq_some hx, of_decide_eq_true hd, e⟩
theorem getX_snoc {K : Type} [DecidableEq K] {xs : List (K × Addr × V)} {k : K} {b : Addr} {v : V} (h : getX xs k = none) : getX (xs ++ [(k, b, v)]) k = some v := by
  unfold getX at h ⊢
  have h' : xs.find? (fun x => decide (x.1 = k)) = none := Option.map_eq_none_iff.mp h
  rw [List.find?_append, h']
  simp
section
variable {P : Program} {w : World} {K : PySem.W.Frag} {mg : Str → Option Value} {base : Heap}
/-! ### settled -/
def spSettled (C : Addr) : Sp := fun vs H Q _ => ∃ (N : Nat) (p aT aW aV : Addr) (s : Vbecae.State) (g : List (List Nat)) (u : Nat), vs = [.ref p, .ref aV, .int ((u : Nat) : Int)] ∧ Walk C N H p aT aW aV s g ∧ PM.SOk s ∧ (u = s.pond.most ∨ u = 0) ∧ N ≤ 2000 ∧
  ∀ (H' : Hp) (t c : Addr), Walk C (N + 1) H' p aT aW aV s g → SameX H H' → H' t = some (.tup [.int (((PM.End (wg s.pond g) u).1 : Nat) : Int), .ref c]) → H' c = some (.lst (nl (PM.End (wg s.pond g) u).2)) → Q (.ref t) H'
theorem scSettled : FnScope ["state", "wants", "units", "key"] ["state", "wants", "units"] (defScope sSettled) := ⟨rfl, rfl, rfl, by decide +kernel, rfl, by decide +kernel, by decide +kernel⟩
theorem hu20 {A : Around} {k : Nat} (hr : Room k A) : A.units + 20 < cLine := Nat.lt_of_le_of_lt (Nat.add_le_add_left (by decide : 20 ≤ 64) _) hr.units
theorem end_ne {a : Vbecae.Pond} (o : PM.POk a) {u : Nat} (h : u ≤ a.most) : (PM.End a u).2 ≠ [] := fun e => by
  have h1 := (PM.end_ok o h).len
  have h2 := o.n1
  rw [e, List.length_nil] at h1
  omega
theorem ok_settled {f C : Addr} {fd : FuncData} (F : Fun K "settled" "settled" sSettled f fd) (T : Txt K mg C) (Z : Cal P w K mg base "frozen" 1 ["rows"] (spFrozen K)) (U : Cal P w K mg base "settle" 4 ["state", "wants", "units"] (spSettle C)) :
    FnOk P w K mg base CX0 5 f fd ["state", "wants", "units"] (spSettled C) := by
  refine F.ok scSettled (fun vs H Q E h => ?_) (fun cdv A outer st H vs Q E hr h => ?_)
  · obtain ⟨N, p, aT, aW, aV, s, g, u, rfl, _⟩ := h
    rfl
  · obtain ⟨N, p, aT, aW, aV, s, g, u, rfl, W, ok, hu, hN, k⟩ := h
    have hr1 : Room 1 _ := hr.mono (by decide)
    refine ⟨_, pss_cons (ps_set (i := 3) scSettled.nd rfl (Or.inl rfl) (pe_tup (pa_cons (pe_fld (pv 0) rfl) (pa_cons (pv 2) (pa_cons (pe_call Z.ok hr1 rfl Z.m Z.kp Z.b .nil pass0 (pa_cons (pe_fld (pv 0) rfl) pa_nil)) (pa_cons (pe_call Z.ok hr1 rfl Z.m Z.kp Z.b .nil pass0 (pa_cons (pv 1) pa_nil)) pa_nil))))))
      (pss_cons (ps_if (pt_cmp (pc_xnotin (kindK _) (hu20 hr) (pv 3) (pe_fld (pv 0) rfl))) (pss_one (ps_xput (kindK _) (hu20 hr) (pe_fld (pv 0) rfl) (pv 3) (pe_call U.ok hr rfl U.m U.kp U.b .nil pass0 (pa_cons (pv 0) (pa_cons (pv 1) (pa_cons (pv 2) pa_nil)))) rfl)) pss_nil)
      (pss_one (ps_ret (pe_xget (kindK _) (hu20 hr) (pe_fld (pv 0) rfl) (pv 3) (fun _ _ => rfl))))), ?_⟩
    obtain ⟨dx, aA, aC, h1, h2, h3⟩ := id W.st.ex
    have oP := W.ok
    have oS := ok.pond
    have p8 : s.pond.tables.length ≤ 8 := oP.p8
    have m60 : s.pond.most ≤ 60 := oP.m60
    have n36 : s.pond.w * s.pond.h ≤ 36 := oP.n36
    have ule : u ≤ s.pond.most := by rcases hu with e | e <;> omega
    -- key = (state.w, units, frozen(state.tables), frozen(wants))
    refine ⟨_, rfl, p, C, dx, _, _, rfl, h1, T.cl, T.w, lk_w, _, rfl, _, rfl, p, C, dx, _, _, rfl, h1, T.cl, T.tables, lk_tables, aT, s.pond.tables, rfl, W.st.tb, by omega, (fun t ht => by
      have : t.length = s.pond.most + 1 := (oP.tb t ht).len
      omega), fun H1 b1 s1 a1 => ?_⟩
    refine ⟨_, rfl, aV, g, rfl, W.ws.same s1, (by have : g.length = s.pond.tables.length := oP.gl; omega), (fun t ht => by
      have : t.length = s.pond.w * s.pond.h := (oP.gw t ht).len
      omega), fun H2 b2 s2 a2 => ?_⟩
    refine ⟨(by show 4 ≤ sizeLine; decide), fun b hb => ?_⟩
    have s3 : Same H (upd H2 b (.tup [.int ((s.pond.w : Nat) : Int), .int ((u : Nat) : Int), .ref b1, .ref b2])) := (s1.trans s2).trans (Same.new hb)
    have s23 : Same H2 (upd H2 b (.tup [.int ((s.pond.w : Nat) : Int), .int ((u : Nat) : Int), .ref b1, .ref b2])) := Same.new hb
    have hkey : aTup rK (upd H2 b (.tup [.int ((s.pond.w : Nat) : Int), .int ((u : Nat) : Int), .ref b1, .ref b2])) (PM.keyOf (wg s.pond g) u) (.ref b) := by
      refine (ex2 b _ ⟨rfl, upd_same, .cons rfl (.cons rfl (.cons ?_ (.cons ?_ .nil)))⟩)
      · exact mono_tup (mono_tup mono_int) _ _ _ _ (fun c ys e => s23 _ _ (s2 _ _ e)) a1
      · exact mono_tup (mono_tup mono_int) _ _ _ _ (fun c ys e => s23 _ _ e) a2
    generalize upd H2 b (.tup [.int ((s.pond.w : Nat) : Int), .int ((u : Nat) : Int), .ref b1, .ref b2]) = H3 at s3 hkey
    obtain ⟨xs, D, hl, hv⟩ := h2.2.same s3
    -- if key not in state.known
    refine ⟨_, rfl, _, rfl, p, C, dx, _, _, rfl, s3 _ _ h1, T.cl, T.known, lk_known, aA.2, b, xs, _, rfl, rfl, D, hkey, _, rfl, ?_⟩
    refine ite2 (fun hc => ?_) (fun hc => ?_)
    · -- state.known[key] = settle(state, wants, units)
      have hn : getX xs (PM.keyOf (wg s.pond g) u) = none := by
        cases e : getX xs (PM.keyOf (wg s.pond g) u) with
        | none => rfl
        | some v =>
          rw [e] at hc
          cases hc
      refine (r_one rfl (r_one rfl (r_one rfl (ex8 N p aT aW aV s g u ⟨rfl, W.same s3, hu, fun H4 t c s4 ft ht4 hc4 => ?_⟩))))
      have D4 : XDict rK hashK H4 aA.2 xs := ⟨s4 _ _ D.1, fun x hx => rK_mono _ _ _ _ (fun c ys e => s4 _ _ e) (D.2 x hx)⟩
      have hkey4 := rK_mono _ _ _ _ (fun c ys e => s4 _ _ e) hkey
      have s34 := s3.trans s4
      refine (r_fld rfl (s34 _ _ h1) T.cl T.known lk_known (r_one rfl (ex4 aA.2 b xs _ ⟨rfl, rfl, D4, hkey4, hn, Nat.lt_of_le_of_lt (show xs.length ≤ 2000 by omega) (by decide), ?_⟩)))
      refine gen_upd fun H5 e5 k5 => ?_
      have keep : ∀ c o, H4 c = some o → (∀ φ, o ≠ .ext φ) → H5 c = some o := fun c o e ne => k5 c o e fun q => by
        rw [q, D4.1] at e
        exact ne _ (Option.some.inj e).symm
      have tp : Tups H4 H5 := fun c ys e => keep c _ e (fun _ z => nomatch z)
      have hkey5 := rK_mono _ _ _ _ tp hkey4
      have D5 : XDict rK hashK H5 aA.2 (xs ++ [(PM.keyOf (wg s.pond g) u, b, .ref t)]) := ⟨e5, fun x hx => by
        rcases List.mem_append.mp hx with hx | hx
        · exact rK_mono _ _ _ _ tp (D4.2 x hx)
        · have e : x = (PM.keyOf (wg s.pond g) u, b, .ref t) := by simpa using hx
          subst e
          exact hkey5⟩
      have ht5 := keep _ _ ht4 (fun _ z => nomatch z)
      have hc5 := keep _ _ hc4 (fun _ z => nomatch z)
      have kn5 : KnownAt (N + 1) H5 aA.2 := by
        refine ⟨_, D5, by rw [List.length_append]; exact Nat.succ_le_succ hl, fun x hx => ?_⟩
        rcases List.mem_append.mp hx with hx | hx
        · obtain ⟨t', c', y, z, q1, q2, q3, q4, q5⟩ := hv x hx
          exact ⟨t', c', y, z, q1, tp _ _ (s4 _ _ q2), keep _ _ (s4 _ _ q3) (fun _ z => nomatch z), q4, q5⟩
        · have e : x = (PM.keyOf (wg s.pond g) u, b, .ref t) := by simpa using hx
          subst e
          exact (ex4 t c _ _ ⟨rfl, ht5, hc5, end_ne oP ule, PM.means_end oP hu⟩)
      have sx : SameX H H5 := ⟨fun c o e ne => keep c o (s34 _ _ e) ne, fun c hc0 => by
        cases e : H c with
        | none => rfl
        | some o =>
          by_cases z : c = aA.2
          · rw [z, e5] at hc0
            cases hc0
          · rw [k5 c o (s34 _ _ e) z] at hc0
            cases hc0⟩
      have W5 : Walk C (N + 1) H5 p aT aW aV s g := ⟨⟨⟨dx, aA, aC, sx.to _ _ h1 (fun _ z => nomatch z), ⟨SameX.tups h2.1 sx, kn5⟩, sx.lst h3⟩, SameX.rows W.st.tb sx, SameX.rows W.st.gr sx, W.st.ne⟩, SameX.rows W.ws sx, oP⟩
      refine (r_fld rfl (sx.to _ _ h1 (fun _ z => nomatch z)) T.cl T.known lk_known (r_one rfl (ex5 aA.2 b _ _ _ ⟨rfl, rfl, D5, hkey5, getX_snoc hn, ?_⟩)))
      exact k H5 t c W5 sx ht5 hc5
    · have hsome : ∃ v, getX xs (PM.keyOf (wg s.pond g) u) = some v := by
        cases e : getX xs (PM.keyOf (wg s.pond g) u) with
        | none =>
          rw [e] at hc
          exact (hc rfl).elim
        | some v => exact ⟨v, rfl⟩
      obtain ⟨v, hv2⟩ := hsome
      obtain ⟨x, hx, ex, ev⟩ := getX_mem hv2
      obtain ⟨t, c, y, z, q1, q2, q3, q4, q5⟩ := hv x hx
      rw [ex] at q5
      have e := q5.end_ oP hu
      rw [← ev, q1] at hv2
      refine (r_fld rfl (s3 _ _ h1) T.cl T.known lk_known (r_one rfl (ex5 aA.2 b xs _ _ ⟨rfl, rfl, D, hkey, hv2, ?_⟩)))
      have W3 := W.same s3
      refine k H3 t c ⟨W3.st.mono (Nat.le_succ _), W3.ws, W3.ok⟩ (SameX.of s3) ?_ ?_
      · rw [e]
        exact q2
      · rw [e]
        exact q3
end
end PD
end
section
set_option Elab.async false
set_option linter.all false
set_option maxRecDepth 100000
set_option maxHeartbeats 2000000
namespace PD
open PySem PySem.Spec PyProof.Rows L2
open Vbecae (at_ share)
open PM (movedL wg)
abbrev sCrI : Stmt := inClass (top 15) 0
abbrev sFol : Stmt := inClass (top 15) 1
abbrev sTor : Stmt := inClass (top 15) 2
abbrev sCat : Stmt := inClass (top 15) 3
/-! ### all but empty lists -/
def Keep0 (H H' : Hp) : Prop := ∀ b o, H b = some o → o ≠ .lst [] → H' b = some o
theorem Keep0.of {a : Addr} {H H' : Hp} (k : But a H H') (h : H a = some (.lst [])) : Keep0 H H' := fun b o e n => k b o e fun q => by
  rw [q, h] at e
  exact n (Option.some.inj e).symm
theorem nl_ne {x : List Nat} (h : x ≠ []) : HO.lst (nl x) ≠ .lst [] := fun e => by
  injection e with e
  have := congrArg List.length e
  rw [nl_length] at this
  exact h (List.length_eq_zero_iff.mp this)
theorem refs_ne0 {rs : List Addr} (h : 1 ≤ rs.length) : HO.lst (rs.map V.ref) ≠ .lst [] := fun e => by
  injection e with e
  have := congrArg List.length e
  rw [List.length_map, List.length_nil] at this
  omega
theorem RowsAt.keep0 {H H' : Hp} {a : Addr} {rows : List (List Nat)} (r : RowsAt H a rows) (k : Keep0 H H') (hl : 1 ≤ rows.length) (hne : ∀ t ∈ rows, t ≠ []) : RowsAt H' a rows := by
  obtain ⟨rs, h1, h2, h3⟩ := r
  exact ⟨rs, k _ _ h1 (refs_ne0 (by omega)), h2, fun i b t hb ht => k _ _ (h3 i b t hb ht) (nl_ne (hne t (List.mem_of_getElem? ht)))⟩
theorem TupsAt.keep0 {H H' : Hp} {a : Addr} {w h n : Nat} (r : TupsAt H a w h n) (k : Keep0 H H') (hn : 1 ≤ n) : TupsAt H' a w h n := by
  obtain ⟨ts, h1, h2, h3⟩ := r
  exact ⟨ts, k _ _ h1 (refs_ne0 (by omega)), h2, fun i t ht => k _ _ (h3 i t ht) (fun e => nomatch e)⟩
theorem StateAt.keep0 {C : Addr} {N : Nat} {H H' : Hp} {p aT aW : Addr} {s : Vbecae.State} (S : StateAt C N H p aT aW s) (o : PM.SOk s) (k : Keep0 H H') : StateAt C N H' p aT aW s := by
  obtain ⟨dx, aA, aC, h1, h2, h3⟩ := S.ex
  refine ⟨⟨dx, aA, aC, k _ _ h1 (fun e => nomatch e), ⟨h2.1.keep0 k o.pond.n1, h2.2.keep fun b u e r => k b u e ?_⟩, k _ _ h3 (nl_ne (cells_ne o))⟩, S.tb.keep0 k o.pond.p1 (tb_ne o.pond), S.gr.keep0 k (by rw [o.pond.gl]; exact o.pond.p1) (gr_ne o.pond), S.ne⟩
  rcases r with ⟨_, e⟩ | ⟨_, e⟩ | ⟨z, hz, e⟩
  · rw [e]
    exact fun q => nomatch q
  · rw [e]
    exact fun q => nomatch q
  · rw [e]
    exact nl_ne hz
/-! ### a course -/
structure Txt2 (K : PySem.W.Frag) (mg : Str → Option Value) (C : Addr) : Prop where
  cl : Cls K C
  passed : NoAttr K C "passed"
  tail : NoAttr K C "tail"
  mgC : mg "Course" = some (.ref C)
def crF (aP : Addr) (tv : V) : List (Str × V) := [("passed", .ref aP), ("tail", tv)]
theorem lk_passed {aP : Addr} {tv : V} : (crF aP tv).lookup ("passed" : Str) = some (.ref aP) := by rfl
theorem lk_tail {aP : Addr} {tv : V} : (crF aP tv).lookup ("tail" : Str) = some tv := by rfl
theorem pt_tail {aP : Addr} {tv v : V} : putF "tail" v (crF aP tv) = crF aP v := by rfl
/-- the course at q: of the pond a from the season and cells q0, up to where it comes round, or to the turn bound -/
structure CourseAt (C : Addr) (H : Hp) (q dx aP : Addr) (rs : List Addr) (tv : V) (a : Vbecae.Pond) (q0 : PM.At) (bound : Nat) : Prop where
  ins : H q = some (.ins C dx (crF aP tv))
  lst : H aP = some (.lst (rs.map V.ref))
  at_ : ∀ (k : Nat) (r : Addr), rs[k]? = some r → H r = some (.lst (nl (PM.orb a k q0).2))
  or : (tv = .non ∧ rs.length = bound + 1 ∧ PM.Unlike a q0 (bound + 1)) ∨ ∃ i : Nat, tv = .int ((i : Nat) : Int) ∧ i < rs.length ∧ rs.length ≤ bound ∧ PM.orb a rs.length q0 = PM.orb a i q0 ∧ PM.Unlike a q0 rs.length
section
variable {P : Program} {w : World} {K : PySem.W.Frag} {mg : Str → Option Value} {base : Heap}
/-! ### follow -/
def spFol (C C2 : Addr) : Sp := fun vs H Q _ => ∃ (N : Nat) (p aT aW q dx aP : Addr) (s : Vbecae.State) (bound : Nat), vs = [.ref q, .ref p, .int ((bound : Nat) : Int)] ∧ StateAt C N H p aT aW s ∧ PM.SOk s ∧ bound ≤ 600 ∧
  H q = some (.ins C2 dx (crF aP .non)) ∧ H aP = some (.lst []) ∧
  ∀ (H' : Hp) (rs : List Addr) (tv : V), CourseAt C2 H' q dx aP rs tv s.pond (s.season, s.cells) bound → (∀ b o, H b = some o → b ≠ q → b ≠ aP → H' b = some o) → Q .non H'
theorem scFol : FnScope ["self", "state", "bound", "seen", "season", "cells", "k", "key"] ["self", "state", "bound"] (defScope sFol) := ⟨rfl, rfl, rfl, by decide +kernel, rfl, by decide +kernel, by decide +kernel⟩
theorem ok_fol {f C C2 : Addr} {fd : FuncData} (F : Fun K "follow" "Course.follow" sFol f fd) (T : Txt K mg C) (T2 : Txt2 K mg C2) (B : Bl mg) (U : Cal P w K mg base "cells_after_turn" 2 ["state", "wants", "season", "cells"] (spCAT C)) :
    FnOk P w K mg base CX0 3 f fd ["self", "state", "bound"] (spFol C C2) := by
  refine F.ok scFol (fun vs H Q E h => ?_) (fun cdv A outer st H vs Q E hr h => ?_)
  · obtain ⟨N, p, aT, aW, q, dx, aP, s, bound, rfl, _⟩ := h
    rfl
  · obtain ⟨N, p, aT, aW, q, dx, aP, s, bound, rfl, S, ok, hb6, hq, hP, k⟩ := h
    refine ⟨_, pss_cons (ps_set (i := 3) scFol.nd rfl (Or.inl rfl) (pe_xnew (hash := hashS)))
      (pss_cons (ps_set (i := 4) scFol.nd rfl (Or.inl rfl) (pe_fld (pv 1) rfl))
      (pss_cons (ps_set (i := 5) scFol.nd rfl (Or.inl rfl) (pe_fld (pv 1) rfl))
      (pss_one (ps_for PassesOwn.never rfl (pi_range1 rfl B.range (pa_cons (pe_op op_add (pv 2) pe_int) pa_nil)) (pg_name (i := 6) scFol.nd rfl (Or.inl rfl))
        (pss_cons (ps_set (i := 7) scFol.nd rfl (Or.inl rfl) (pe_tup (pa_cons (pv 4) (pa_cons (pe_callTy call_tuple_of (by rfl) B.tuple boot_tuple (pa_cons (pv 5) pa_nil)) pa_nil))))
        (pss_cons (ps_if (pt_cmp (pc_xin (kindS _) (hu20 hr) (pv 7) (pv 3))) (pss_cons (ps_fld (pv 0) (pe_xget (kindS _) (hu20 hr) (pv 3) (pv 7) (fun _ _ => rfl)) rfl) (pss_one ps_retN)) pss_nil)
        (pss_cons (ps_xput (kindS _) (hu20 hr) (pv 3) (pv 7) (pv 6) rfl)
        (pss_cons (ps_expr (pe_bm PySem.F.plainAttrs_list PySem.F.slot_list_append PySem.F.type_list_append mt_append (pe_fld (pv 0) rfl) (pa_cons (pv 5) pa_nil)))
        (pss_cons (ps_set (i := 5) scFol.nd rfl (Or.inl rfl) (pe_call U.ok hr rfl U.m U.kp U.b .nil pass0 (pa_cons (pv 1) (pa_cons (pe_fld (pv 1) rfl) (pa_cons (pv 4) (pa_cons (pv 5) pa_nil))))))
        (pss_one (ps_set (i := 4) scFol.nd rfl (Or.inl rfl) (pe_op op_mod (pe_op op_add (pv 4) pe_int) (pe_fld (pv 1) rfl))))))))))))), ?_⟩
    obtain ⟨dd, aA, aC, h1, h2, h3⟩ := id S.ex
    have oP := ok.pond
    have nqP : q ≠ aP := ne_of hq hP (by intro z; cases z)
    -- seen = {}
    intro aS hS
    have s0 : Same H (upd H aS (.ext (DX hashS aS []))) := Same.new hS
    have d0 : (upd H aS (.ext (DX hashS aS []))) aS = some (.ext (DX hashS aS [])) := upd_same
    generalize upd H aS (.ext (DX hashS aS [])) = H0 at s0 d0
    refine (r_fld rfl (s0 _ _ h1) T.cl T.season lk_season ?_)
    refine (r_fld rfl (s0 _ _ h1) T.cl T.cells lk_cells ?_)
    have en : (((bound : Nat) : Int) + 1).toNat = bound + 1 := by omega
    refine (r_one rfl (r_two rfl rfl (r_one rfl ⟨by omega, by omega, for_range (n := (((bound : Nat) : Int) + 1).toNat) (fun i σ H' => ∃ (v6 v7 : Option V) (qc : Addr) (rs : List Addr) (xs : List (SK × Addr × V)), σ = [some (.ref q), some (.ref p), some (.int ((bound : Nat) : Int)), some (.ref aS), some (.int (((PM.orb s.pond i (s.season, s.cells)).1 : Nat) : Int)), some (.ref qc), v6, v7] ∧ But aP H H' ∧ H' aP = some (.lst (rs.map V.ref)) ∧ rs.length = i ∧ (∀ (j : Nat) (r : Addr), rs[j]? = some r → H' r = some (.lst (nl (PM.orb s.pond j (s.season, s.cells)).2))) ∧ XDict rS hashS H' aS xs ∧ xs.length = i ∧ (∀ (j : Nat) (x : SK × Addr × V), xs[j]? = some x → x.1 = PM.keyS (PM.orb s.pond j (s.season, s.cells)) ∧ x.2.2 = .int ((j : Nat) : Int)) ∧ H' qc = some (.lst (nl (PM.orb s.pond i (s.season, s.cells)).2)) ∧ PM.Unlike s.pond (s.season, s.cells) i) ⟨none, none, aC, [], [], rfl, But.of_same s0, s0 _ _ hP, rfl, fun j r h => by simp at h, ⟨d0, fun x hx => nomatch hx⟩, rfl, fun j x h => by simp at h, s0 _ _ h3, fun u v h1 h2 => by omega⟩ ?_ ?_⟩)))





    · rintro i σ H' hi ⟨v6, v7, qc, rs, xs, rfl, kb, hP', rl, hrs, D, xl, hxs, hqc, un⟩
      rw [en] at hi
      rw [show (0 : Int) + ((i : Nat) : Int) = ((i : Nat) : Int) from Int.zero_add _]
      obtain ⟨oi1, oi2⟩ := PM.orb_ok oP i (q := (s.season, s.cells)) ok.season ok.cells
      have xne : (PM.orb s.pond i (s.season, s.cells)).2 ≠ [] := fun e => by
        have h4 := oi2.len
        have h5 := oP.n1
        rw [e, List.length_nil] at h4
        omega
      -- key = (season, tuple(cells))
      refine (r_one rfl (r_one rfl (ex2 qc _ ⟨rfl, .inl ⟨SqL.of hqc, fun t ht => ?_⟩⟩)))
      refine ⟨(by show 2 ≤ sizeLine; decide), fun b hb => ?_⟩
      have s2 : Same H' (upd (upd H' t (.tup (nl (PM.orb s.pond i (s.season, s.cells)).2))) b (.tup [.int (((PM.orb s.pond i (s.season, s.cells)).1 : Nat) : Int), .ref t])) := (Same.new ht).trans (Same.new hb)
      have htt : (upd (upd H' t (.tup (nl (PM.orb s.pond i (s.season, s.cells)).2))) b (.tup [.int (((PM.orb s.pond i (s.season, s.cells)).1 : Nat) : Int), .ref t])) t = some (.tup (nl (PM.orb s.pond i (s.season, s.cells)).2)) := by
        rw [upd_ne (ne_of_none (upd_same : (upd H' t (.tup (nl (PM.orb s.pond i (s.season, s.cells)).2))) t = _) hb)]
        exact upd_same
      have hkey : aTup rS (upd (upd H' t (.tup (nl (PM.orb s.pond i (s.season, s.cells)).2))) b (.tup [.int (((PM.orb s.pond i (s.season, s.cells)).1 : Nat) : Int), .ref t])) (PM.keyS (PM.orb s.pond i (s.season, s.cells))) (.ref b) :=
        ⟨b, _, rfl, upd_same, .cons rfl (.cons ⟨t, _, rfl, htt, a_ints _⟩ .nil)⟩
      generalize upd (upd H' t (.tup (nl (PM.orb s.pond i (s.season, s.cells)).2))) b (.tup [.int (((PM.orb s.pond i (s.season, s.cells)).1 : Nat) : Int), .ref t]) = H2 at s2 hkey
      have D2 : XDict rS hashS H2 aS xs := ⟨s2 _ _ D.1, fun x hx => mono_tup (mono_or mono_int) _ _ _ _ (fun c ys e => s2 _ _ e) (D.2 x hx)⟩
      have kb2 : But aP H H2 := kb.trans (But.of_same s2)
      -- if key in seen
      refine ⟨_, rfl, _, rfl, aS, b, xs, _, rfl, rfl, D2, hkey, _, rfl, ?_⟩
      refine ite2 (fun hc => ?_) (fun hc => ?_)
      · obtain ⟨v, hv⟩ : ∃ v, getX xs (PM.keyS (PM.orb s.pond i (s.season, s.cells))) = some v := by
          cases e : getX xs (PM.keyS (PM.orb s.pond i (s.season, s.cells))) with
          | none =>
            rw [e] at hc
            cases hc
          | some v => exact ⟨v, rfl⟩
        obtain ⟨x, hx, ex, ev⟩ := getX_mem hv
        obtain ⟨j, hj⟩ := List.mem_iff_getElem?.mp hx
        obtain ⟨e1, e2⟩ := hxs j x hj
        have hji : j < i := by
          have := (List.getElem?_eq_some_iff.mp hj).1
          omega
        have eo : PM.orb s.pond j (s.season, s.cells) = PM.orb s.pond i (s.season, s.cells) := PM.keyS_inj (e1.symm.trans ex)
        rw [← ev, e2] at hv
        -- self.tail = seen[key]; return
        have hq2 := kb2 _ _ hq nqP
        refine ⟨_, rfl, _, rfl, aS, b, xs, _, _, rfl, rfl, D2, hkey, hv, _, rfl, q, C2, dx, _, rfl, hq2, T2.cl, T2.tail, (by show 2 < 1000; decide), ?_⟩
        rw [pt_tail]
        refine gen_upd fun H3 e3 k3 => ?_
        refine k H3 rs (.int ((j : Nat) : Int)) ⟨e3, k3 _ _ (s2 _ _ hP') (fun z => nqP z.symm), fun m r hr' => ?_, .inr ⟨j, rfl, by omega, by omega, by rw [rl]; exact eo.symm, by rw [rl]; exact un⟩⟩ ?_
        · exact k3.list hq2 (s2 _ _ (hrs m r hr'))
        · intro c o e n1 n2
          exact k3 _ _ (kb2 _ _ e n2) n1
      · have hn : getX xs (PM.keyS (PM.orb s.pond i (s.season, s.cells))) = none := by
          cases e : getX xs (PM.keyS (PM.orb s.pond i (s.season, s.cells))) with
          | none => rfl
          | some v =>
            rw [e] at hc
            exact (hc rfl).elim
        have un' : PM.Unlike s.pond (s.season, s.cells) (i + 1) := by
          intro u v h4 h5
          by_cases e : v = i
          · subst e
            intro e2
            have hu' : u < xs.length := by omega
            have hg := List.getElem?_eq_getElem hu'
            obtain ⟨e3, _⟩ := hxs u _ hg
            have hm : (xs.find? fun x => decide (x.1 = PM.keyS (PM.orb s.pond v (s.season, s.cells)))) = none := Option.map_eq_none_iff.mp hn
            rw [List.find?_eq_none] at hm
            exact hm _ (List.mem_of_getElem? hg) (decide_eq_true (by rw [e3, e2]))
          · exact un u v h4 (by omega)
        -- seen[key] = k
        refine (r_one rfl (r_one rfl (r_one rfl (ex4 aS b xs _ ⟨rfl, rfl, D2, hkey, hn, small1000 (by omega), ?_⟩))))
        have nSP : aS ≠ aP := ne_of D2.1 (s2 _ _ hP') (by intro z; cases z)
        refine gen_upd fun H3 e3 k3 => ?_
        have fS : ∀ c o, H c = some o → c ≠ aS := fun c o e => ne_of_none e hS
        have kb3 : But aP H H3 := fun c o e n => k3 _ _ (kb2 _ _ e n) (fS c o e)
        have hq3 := kb3 _ _ hq nqP
        have hP3 := k3 _ _ (s2 _ _ hP') (fun z => nSP z.symm)
        have lk3 : ∀ c ys, H2 c = some (.lst ys) → H3 c = some (.lst ys) := fun c ys e => k3 _ _ e (ne_of e D2.1 (by intro z; cases z))
        have tk3 : Tups H2 H3 := fun c ys e => k3 _ _ e (ne_of e D2.1 (by intro z; cases z))
        have D3 : XDict rS hashS H3 aS (xs ++ [(PM.keyS (PM.orb s.pond i (s.season, s.cells)), b, .int ((i : Nat) : Int))]) := ⟨e3, fun x hx => by
          rcases List.mem_append.mp hx with hx | hx
          · exact mono_tup (mono_or mono_int) _ _ _ _ tk3 (D2.2 x hx)
          · have e : x = (PM.keyS (PM.orb s.pond i (s.season, s.cells)), b, .int ((i : Nat) : Int)) := by simpa using hx
            subst e
            exact mono_tup (mono_or mono_int) _ _ _ _ tk3 hkey⟩
        have hqc3 := lk3 _ _ (s2 _ _ hqc)
        -- self.passed.append(cells)
        refine (r_fld rfl hq3 T2.cl T2.passed lk_passed ⟨.inl ⟨rfl, _, SqL.of hP3⟩, r_one rfl (ex3 aP _ _ ⟨rfl, rfl, hP3, (by rw [List.length_map]; exact small1000 (by omega)), ?_⟩)⟩)
        refine gen_upd fun H4 e4 k4 => ?_
        have kb4 : But aP H H4 := kb3.trans k4
        have row4 : ∀ r x, x ≠ [] → H3 r = some (.lst (nl x)) → H4 r = some (.lst (nl x)) := fun r x hx e => k4 _ _ e (ne_row hP3 e hx)
        have hqc4 := row4 _ _ xne hqc3
        have S4 : StateAt C N H4 p aT aW s := S.keep0 ok (Keep0.of kb4 hP)
        have D4 : XDict rS hashS H4 aS (xs ++ [(PM.keyS (PM.orb s.pond i (s.season, s.cells)), b, .int ((i : Nat) : Int))]) := ⟨k4 _ _ D3.1 nSP, fun x hx => mono_tup (mono_or mono_int) _ _ _ _ (fun c ys e => k4 _ _ e (ne_of e hP3 (by intro z; cases z))) (D3.2 x hx)⟩
        obtain ⟨dd4, aA4, aC4, g1, g2, g3⟩ := id S4.ex
        -- cells = cells_after_turn(state, state.wants, season, cells)
        refine (r_one rfl (r_fld rfl g1 T.cl T.wants lk_wants (r_one rfl (r_one rfl ⟨N, p, aT, aW, aW, qc, s, s.pond.grazed, ex2 _ _ ⟨rfl, ⟨S4, S4.gr, oP⟩, oi1, oi2, hqc4, fun H5 q5 n5 => ?_⟩⟩))))
        have s5 := n5.same
        -- season = (season + 1) % state.p
        refine (r_one rfl (r_two rfl rfl (r_fld rfl (s5 _ _ g1) T.cl T.p lk_p (r_two rfl rfl ⟨(by have := oP.p1; show (0 : Int) < ((s.pond.tables.length : Nat) : Int); omega), ?_⟩))))
        have eorb := PM.orb_succ s.pond i (s.season, s.cells)
        refine ⟨some (.int ((i : Nat) : Int)), some (.ref b), q5, rs ++ [qc], xs ++ [(PM.keyS (PM.orb s.pond i (s.season, s.cells)), b, .int ((i : Nat) : Int))], ?_, kb4.trans (But.of_same s5), ?_, ?_, ?_, ⟨s5 _ _ D4.1, fun x hx => mono_tup (mono_or mono_int) _ _ _ _ (fun c ys e => s5 _ _ e) (D4.2 x hx)⟩, ?_, ?_, ?_, un'⟩
        · rw [eorb]
          rfl
        · rw [s5 _ _ e4, List.map_append]
          rfl
        · rw [List.length_append, rl]
          rfl
        · intro j r hj
          by_cases hlt : j < rs.length
          · rw [List.getElem?_append_left hlt] at hj
            obtain ⟨_, oj⟩ := PM.orb_ok oP j (q := (s.season, s.cells)) ok.season ok.cells
            have jne : (PM.orb s.pond j (s.season, s.cells)).2 ≠ [] := fun e => by
              have h4 := oj.len
              have h5 := oP.n1
              rw [e, List.length_nil] at h4
              omega
            exact s5 _ _ (row4 _ _ jne (lk3 _ _ (s2 _ _ (hrs j r hj))))
          · rw [List.getElem?_append_right (by omega)] at hj
            have hb' := (List.getElem?_eq_some_iff.mp hj).1
            have ej : j = i := by
              simp at hb'
              omega
            subst ej
            have e : r = qc := by
              have := List.mem_of_getElem? hj
              simpa using this
            rw [e]
            exact s5 _ _ hqc4
        · rw [List.length_append, xl]
          rfl
        · intro j x hj
          by_cases hlt : j < xs.length
          · rw [List.getElem?_append_left hlt] at hj
            exact hxs j x hj
          · rw [List.getElem?_append_right (by omega)] at hj
            have hb' := (List.getElem?_eq_some_iff.mp hj).1
            have ej : j = i := by
              simp at hb'
              omega
            subst ej
            have e : x = (PM.keyS (PM.orb s.pond j (s.season, s.cells)), b, .int ((j : Nat) : Int)) := by
              have := List.mem_of_getElem? hj
              simpa using this
            subst e
            exact ⟨rfl, rfl⟩
        · rw [eorb]
          exact n5.at_
    · rintro σ H' ⟨v6, v7, qc, rs, xs, rfl, kb, hP', rl, hrs, D, xl, hxs, hqc, un⟩
      rw [en] at rl un
      exact k H' rs .non ⟨kb _ _ hq nqP, hP', hrs, .inl ⟨rfl, rl, un⟩⟩ fun c o e n1 n2 => kb _ _ e n2
/-! ### Course(..) -/
def spCrI (C C2 : Addr) : Sp := fun vs H Q _ => ∃ (N : Nat) (p aT aW q dx : Addr) (s : Vbecae.State) (bound : Nat), vs = [.ref q, .ref p, .int ((bound : Nat) : Int)] ∧ StateAt C N H p aT aW s ∧ PM.SOk s ∧ bound ≤ 600 ∧ H q = some (.ins C2 dx []) ∧
  ∀ (H' : Hp) (aP : Addr) (rs : List Addr) (tv : V), CourseAt C2 H' q dx aP rs tv s.pond (s.season, s.cells) bound → But q H H' → Q .non H'
theorem scCrI : FnScope ["self", "state", "bound"] ["self", "state", "bound"] (defScope sCrI) := ⟨rfl, rfl, rfl, by decide +kernel, rfl, by decide +kernel, by decide +kernel⟩
theorem ok_crI {f C C2 fF : Addr} {fd dF : FuncData} (F : Fun K "__init__" "Course.__init__" sCrI f fd) (T2 : Txt2 K mg C2) (U : FnOk P w K mg base CX0 3 fF dF ["self", "state", "bound"] (spFol C C2)) (bU : Binds K dF ["self", "state", "bound"] []) (mU : Meth K C2 "follow" fF) :
    FnOk P w K mg base CX0 4 f fd ["self", "state", "bound"] (spCrI C C2) := by
  refine F.ok scCrI (fun vs H Q E h => ?_) (fun cdv A outer st H vs Q E hr h => ?_)
  · obtain ⟨N, p, aT, aW, q, dx, s, bound, rfl, _⟩ := h
    rfl
  · obtain ⟨N, p, aT, aW, q, dx, s, bound, rfl, S, ok, hb6, hq, k⟩ := h
    refine ⟨_, pss_cons (ps_fld (pv 0) (pe_lst pa_nil) rfl) (pss_cons (ps_fld (pv 0) pe_non rfl) (pss_one (ps_expr (pe_meth (pv 0) T2.cl mU U hr bU .nil pass0 (pa_cons (pv 1) (pa_cons (pv 2) pa_nil)))))), ?_⟩
    refine ⟨Nat.zero_le _, fun aP hP => ?_⟩
    have s0 : Same H (upd H aP (.lst [])) := Same.new hP
    have p0 : (upd H aP (.lst [])) aP = some (.lst []) := upd_same
    generalize upd H aP (.lst []) = H0 at s0 p0
    refine (r_one rfl (ex4 q C2 dx _ ⟨rfl, s0 _ _ hq, T2.cl, T2.passed, (by show 0 < 1000; decide), ?_⟩))
    refine gen_upd fun H1 e1 k1 => ?_
    refine (r_one rfl (ex4 q C2 dx _ ⟨rfl, e1, T2.cl, T2.tail, (by show 1 < 1000; decide), ?_⟩))
    refine gen_upd fun H2 e2 k2 => ?_
    have e2' : H2 q = some (.ins C2 dx (crF aP .non)) := e2
    have nPq : aP ≠ q := ne_of p0 (s0 _ _ hq) (by intro z; cases z)
    have k02 : But q H0 H2 := k1.trans k2
    have kb : But q H H2 := (But.of_same s0).trans k02
    have hne : ∀ b o, H b = some o → b ≠ aP := fun b o e => ne_of_none e hP
    obtain ⟨dd, aA, aC, h1, h2, h3⟩ := id S.ex
    have S2 : StateAt C N H2 p aT aW s := by
      by_cases z : p = q
      · rw [z, hq] at h1
        exact (by injection h1 with h1; injection h1 with _ _ h1; cases h1)
      · exact ⟨⟨dd, aA, aC, kb _ _ h1 z, h2.but kb hq, kb.list hq h3⟩, S.tb.but kb hq, S.gr.but kb hq, S.ne⟩
    refine (r_one rfl (ex3 q dx _ ⟨rfl, e2', rfl, r_one rfl (r_one rfl (ex9 N p aT aW q dx aP s bound ⟨rfl, S2, ok, hb6, e2', k02 _ _ p0 nPq, fun H3 rs tv co fr => ?_⟩))⟩))
    exact k H3 aP rs tv co fun b o e n => fr b o (kb b o e n) n (hne b o e)
/-! ### turns_of_round, cells_at -/
def spTor (C2 : Addr) : Sp := fun vs H Q _ => ∃ (q dx aP : Addr) (xs : List V) (i : Int), vs = [.ref q] ∧ H q = some (.ins C2 dx (crF aP (.int i))) ∧ H aP = some (.lst xs) ∧ Q (.int (((xs.length : Nat) : Int) - i)) H
theorem scTor : FnScope ["self"] ["self"] (defScope sTor) := ⟨rfl, rfl, rfl, by decide +kernel, rfl, by decide +kernel, by decide +kernel⟩
theorem ok_tor {f C2 : Addr} {fd : FuncData} (F : Fun K "turns_of_round" "Course.turns_of_round" sTor f fd) (T2 : Txt2 K mg C2) (B : Bl mg) : FnOk P w K mg base CX0 1 f fd ["self"] (spTor C2) := by
  refine F.ok scTor (fun vs H Q E h => ?_) (fun cdv A outer st H vs Q E hr h => ?_)
  · obtain ⟨q, dx, aP, xs, i, rfl, _⟩ := h
    rfl
  · obtain ⟨q, dx, aP, xs, i, rfl, hq, hP, k⟩ := h
    refine ⟨_, pss_one (ps_ret (pe_op op_sub (pe_callB call_len_seq (by rfl) B.len PySem.boot_len (pa_cons (pe_fld (pv 0) rfl) pa_nil)) (pe_fld (pv 0) rfl))), ?_⟩
    exact (r_fld rfl hq T2.cl T2.passed lk_passed (ex2 aP _ ⟨rfl, .inl (SqL.of hP), r_fld rfl hq T2.cl T2.tail lk_tail (r_two rfl rfl k)⟩))
def spCatC (C2 : Addr) : Sp := fun vs H Q _ => ∃ (q dx aP : Addr) (rs : List Addr) (tv : V) (a : Vbecae.Pond) (q0 : PM.At) (bound n : Nat), vs = [.ref q, .int ((n : Nat) : Int)] ∧ CourseAt C2 H q dx aP rs tv a q0 bound ∧ bound ≤ 600 ∧ (n ≤ bound ∨ tv ≠ .non) ∧
  ∀ r, H r = some (.lst (nl (PM.orb a n q0).2)) → Q (.ref r) H
theorem scCatC : FnScope ["self", "n"] ["self", "n"] (defScope sCat) := ⟨rfl, rfl, rfl, by decide +kernel, rfl, by decide +kernel, by decide +kernel⟩
theorem ok_catC {f C2 fT : Addr} {fd dT : FuncData} (F : Fun K "cells_at" "Course.cells_at" sCat f fd) (T2 : Txt2 K mg C2) (B : Bl mg) (U : FnOk P w K mg base CX0 1 fT dT ["self"] (spTor C2)) (bU : Binds K dT ["self"] []) (mU : Meth K C2 "turns_of_round" fT) :
    FnOk P w K mg base CX0 2 f fd ["self", "n"] (spCatC C2) := by
  refine F.ok scCatC (fun vs H Q E h => ?_) (fun cdv A outer st H vs Q E hr h => ?_)
  · obtain ⟨q, dx, aP, rs, tv, a, q0, bound, n, rfl, _⟩ := h
    rfl
  · obtain ⟨q, dx, aP, rs, tv, a, q0, bound, n, rfl, co, hb, hn, k⟩ := h
    refine ⟨_, pss_cons (ps_if (pt_cmpR op_lt (pv 1) (pe_callB call_len_seq (by rfl) B.len PySem.boot_len (pa_cons (pe_fld (pv 0) rfl) pa_nil)) (nomark _)) (pss_one (ps_ret (pe_ix ix_list (pe_fld (pv 0) rfl) (pv 1) (fun _ _ => rfl)))) pss_nil)
      (pss_one (ps_ret (pe_ix ix_list (pe_fld (pv 0) rfl) (pe_op op_add (pe_fld (pv 0) rfl) (pe_op op_mod (pe_op op_sub (pv 1) (pe_fld (pv 0) rfl)) (pe_meth0 (pv 0) T2.cl mU U hr bU .nil pass0))) (fun _ _ => rfl)))), ?_⟩
    refine (r_one rfl (r_fld rfl co.ins T2.cl T2.passed lk_passed (ex2 aP _ ⟨rfl, .inl (SqL.of co.lst), r_two rfl rfl (r_one rfl ?_)⟩)))
    refine ite2 (fun hc => ?_) (fun hc => ?_)
    · have hc := of_decide_eq_true hc
      rw [List.length_map] at hc
      have hlt : n < rs.length := by omega
      have hg := List.getElem?_eq_getElem hlt
      refine (r_fld rfl co.ins T2.cl T2.passed lk_passed (r_one rfl (r_ixL (SqL.of co.lst) (atI_nat (by rw [List.getElem?_map, hg]; rfl)) ?_)))
      exact k _ (co.at_ n _ hg)
    · have hc : ¬ ((n : Nat) : Int) < ((rs.length : Nat) : Int) := fun z => hc (decide_eq_true (by rw [List.length_map]; exact z))
      have hge : rs.length ≤ n := by omega
      rcases co.or with ⟨e1, e2, e3⟩ | ⟨i, rfl, hi, hl, eo, un⟩
      · rcases hn with hn | hn
        · omega
        · exact (hn e1).elim
      · refine (r_fld rfl co.ins T2.cl T2.passed lk_passed (r_fld rfl co.ins T2.cl T2.tail lk_tail (r_one rfl (r_fld rfl co.ins T2.cl T2.tail lk_tail (r_two rfl rfl (r_one rfl (ex3 q dx _ ⟨rfl, co.ins, rfl, ex5 q dx aP _ _ ⟨rfl, co.ins, co.lst, r_two rfl rfl ⟨(by rw [List.length_map]; omega), r_two rfl rfl ?_⟩⟩⟩)))))))

        have er : ((i : Nat) : Int) + (((n : Nat) : Int) - ((i : Nat) : Int)) % ((((rs.map V.ref).length : Nat) : Int) - ((i : Nat) : Int)) = ((i + (n - i) % (rs.length - i) : Nat) : Int) := by
          rw [List.length_map, Int.natCast_add, Int.natCast_emod, Int.ofNat_sub (by omega), Int.ofNat_sub (by omega)]
        have hlt : i + (n - i) % (rs.length - i) < rs.length := by
          have := Nat.mod_lt (n - i) (show rs.length - i > 0 by omega)
          omega
        have hg := List.getElem?_eq_getElem hlt
        refine (r_ixL (SqL.of co.lst) (by rw [er]; exact atI_nat (by rw [List.getElem?_map, hg]; rfl)) ?_)
        refine k _ ?_
        have h5 := co.at_ _ _ hg
        have e2 : PM.orb a (i + (n - i) % (rs.length - i)) q0 = PM.orb a n q0 := by
          have e := PM.orb_round (a := a) (q := q0) (t := i) (r := rs.length - i) (by rw [show i + (rs.length - i) = rs.length by omega]; exact eo) ((n - i) / (rs.length - i)) ((n - i) % (rs.length - i))
          rw [← e]
          congr 1
          have := Nat.mod_add_div (n - i) (rs.length - i)
          rw [Nat.mul_comm] at this
          omega
        rw [e2] at h5
        exact h5
end
end PD
end
section
set_option Elab.async false
set_option linter.all false
set_option maxRecDepth 100000
set_option maxHeartbeats 2000000
namespace PD
open PySem PySem.Spec PyProof.Rows L2
open Vbecae (at_ share)
open PM (movedL wg)
abbrev sCFar : Stmt := top 32
abbrev sCRound : Stmt := top 33
abbrev sYAC : Stmt := top 34
abbrev sCGreat : Stmt := top 35
abbrev sCLeast : Stmt := top 36
abbrev sCOne : Stmt := top 37
/-- a class of the text that may be made -/
structure Course2 (P : Program) (w : World) (K : PySem.W.Frag) (mg : Str → Option Value) (base : Heap) (C : Addr) where
  C2 : Addr
  T2 : Txt2 K mg C2
  fI : Addr
  dI : FuncData
  M : Mk K C2 fI
  I : FnOk P w K mg base CX0 4 fI dI ["self", "state", "bound"] (spCrI C C2)
  bI : Binds K dI ["self", "state", "bound"] []
  fT : Addr
  dT : FuncData
  tor : FnOk P w K mg base CX0 1 fT dT ["self"] (spTor C2)
  bT : Binds K dT ["self"] []
  mT : Meth K C2 "turns_of_round" fT
  fC : Addr
  dC : FuncData
  cat : FnOk P w K mg base CX0 2 fC dC ["self", "n"] (spCatC C2)
  bC : Binds K dC ["self", "n"] []
  mC : Meth K C2 "cells_at" fC
/-- the two numbers of the text -/
structure Nums (mg : Str → Option Value) : Prop where
  long : ∃ t, mg "LONGEST" = some (.int 600 t)
  far : ∃ t, mg "FARTHEST" = some (.int 1000000000000000000 t)
theorem But.sameNew {H H1 : Hp} {x dx C : Addr} (nx : H x = none) (nd : H dx = none) (k : But x (L2.upd (L2.upd H dx (.own x)) x (.ins C dx [])) H1) : Same H H1 := Same.made nx nd k
theorem made_same {H : Hp} {x dx C : Addr} (nx : H x = none) (nd : H dx = none) : Same H (upd (upd H dx (.own x)) x (.ins C dx [])) := (Same.new nd).upd nx
section
variable {P : Program} {w : World} {K : PySem.W.Frag} {mg : Str → Option Value} {base : Heap}
/-! ### far -/
theorem scCFar : FnScope ["state", "numbers", "row", "n", "course"] ["state", "numbers", "row"] (defScope sCFar) := ⟨rfl, rfl, rfl, by decide +kernel, rfl, by decide +kernel, by decide +kernel⟩
theorem ok_cfar {f C : Addr} {fd : FuncData} (F : Fun K "call_far" "call_far" sCFar f fd) (B : Bl mg) (Nu : Nums mg) (U : Course2 P w K mg base C) : FnOk P w K mg base CX0 6 f fd ["state", "numbers", "row"] (spCall C 9 1 false) := by
  obtain ⟨t1, mL⟩ := Nu.long
  obtain ⟨t2, mF⟩ := Nu.far
  refine F.ok scCFar (fun vs H Q E h => ?_) (fun cdv A' outer st H vs Q E hr h => ?_)
  · obtain ⟨N, p, aT, aW, aN, aR, s, ns, row, rfl, _⟩ := h
    rfl
  · obtain ⟨N, p, aT, aW, aN, aR, s, ns, row, rfl, S, ok, hN, hR, hlen, hrow, nRT, nRW, nN, k⟩ := h
    obtain ⟨n, rfl⟩ := len1 hlen
    have hr2 : Room 2 _ := hr.mono (by decide)
    refine ⟨_, pss_cons (ps_set (i := 3) scCFar.nd rfl (Or.inl rfl) (pe_ix ix_list (pv 1) pe_int (fun _ _ => rfl)))
      (pss_cons (ps_if (pt_not (pt_chain op_le op_le pe_int (pv 3) (pe_glob (v := .int 1000000000000000000) rfl mF ⟨_, rfl⟩))) (pss_one (ps_ret (pe_lst (pa_cons (pe_un un_neg pe_int) pa_nil)))) pss_nil)
      (pss_cons (ps_set (i := 4) scCFar.nd rfl (Or.inl rfl) (pe_make U.M U.I hr rfl U.T2.mgC U.bI .nil pass0 (pa_cons (pv 0) (pa_cons (pe_callB (call_min2 rfl) (by rfl) B.min boot_min (pa_cons (pv 3) (pa_cons (pe_glob (v := .int 600) rfl mL ⟨_, rfl⟩) pa_nil))) pa_nil))))
      (pss_cons (ps_if (PW.pt (pw_and (pt_cmpR op_gt (pv 3) (pe_glob (v := .int 600) rfl mL ⟨_, rfl⟩) (nomark _)) (pw_and1 (pt_cmpR op_isN (pe_fld (pv 4) rfl) pe_non (nomark _))))) (pss_one (ps_ret (pe_lst (pa_cons (pe_un un_neg pe_int) pa_nil)))) pss_nil)
      (pss_one (ps_ret (pe_op op_cat (pe_lst (pa_cons pe_int pa_nil)) (pe_meth (pv 4) U.T2.cl U.mC U.cat hr2 U.bC .nil pass0 (pa_cons (pv 3) pa_nil)))))))), ?_⟩
    have k0 : Goes C N H p aT aW (Vbecae.act s (.far n)) Q := k
    refine (r_one rfl (r_ixL (SqL.of hN) (at_of (j := 0) rfl rfl) ?_))
    refine (r_one rfl (r_two rfl rfl (r_one rfl (chain_le ?_))))
    refine ite2 (fun hc => ?_) (fun hc => ?_)
    · have hc : Vbecae.isBetween n 0 1000000000000000000 = false := by simpa using hc
      refine (r_one rfl ⟨(by show 1 ≤ sizeLine; decide), fun q hq => ?_⟩)
      exact k0.one S (show Vbecae.act s (.far n) = (s, [-7]) by simp only [Vbecae.act, if_pos hc]) hq
    have ne1 : ¬ Vbecae.isBetween n 0 1000000000000000000 = false := fun q => hc (by rw [q]; rfl)
    have hb := PM.between_iff.mp (by simpa using ne1 : Vbecae.isBetween n 0 1000000000000000000 = true)
    obtain ⟨n', rfl⟩ := Int.eq_ofNat_of_zero_le hb.1
    have oP := ok.pond
    have n36 := oP.n36
    have eb : (if (600 : Int) < ((n' : Nat) : Int) then (600 : Int) else ((n' : Nat) : Int)) = ((min n' 600 : Nat) : Int) := by
      split <;> omega
    -- course = Course(state, min(n, LONGEST))
    refine (r_one rfl (r_one rfl (ex2 _ _ ⟨rfl, ?_⟩)))
    rw [eb]
    intro x dx nx nd nex
    refine ⟨N, p, aT, aW, x, dx, s, min n' 600, rfl, S.same (made_same nx nd), ok, Nat.min_le_right _ _, upd_same, fun H1 aP rs tv co kb => ⟨rfl, ?_⟩⟩
    have s1 : Same H H1 := But.sameNew nx nd kb
    -- if n > LONGEST and course.tail is None
    have last : (n' ≤ min n' 600 ∨ tv ≠ .non) → Vbecae.far s.pond s.season n' s.cells = some (Vbecae.turns s.pond n' s.season s.cells) →
        ∀ l : Addr, H1 l = none → ∀ r, H1 r = some (.lst (nl (PM.orb s.pond n' (s.season, s.cells)).2)) → ∀ q, (upd H1 l (.lst [.int 0])) q = none → Q (.ref q) (upd (upd H1 l (.lst [.int 0])) q (.lst (.int 0 :: nl (PM.orb s.pond n' (s.season, s.cells)).2))) := fun _ ef l hl r hr' q hq => by
      have s2 : Same H (upd H1 l (.lst [.int 0])) := s1.trans (Same.new hl)
      refine k0.same S (ans := 0 :: Vbecae.ints (Vbecae.turns s.pond n' s.season s.cells)) ?_ (s2.trans (Same.new hq)) (s2.free hq) ?_
      · show (s, if Vbecae.isBetween ((n' : Nat) : Int) 0 1000000000000000000 = false then [-7] else match Vbecae.far s.pond s.season n' s.cells with
          | none => [-8]
          | some x => 0 :: Vbecae.ints x) = _
        rw [if_neg ne1, ef]
      · rw [upd_same, PM.orb_cells]
        rfl
    have go : (n' ≤ min n' 600 ∨ tv ≠ .non) → Vbecae.far s.pond s.season n' s.cells = some (Vbecae.turns s.pond n' s.season s.cells) →
        (tOp rCat (tLst (tCons (tC (V.int 0)) tNil)) (tMeth U.C2 "cells_at" (spCatC U.C2) [] E0 (tVar 4) (tCons (tVar 3) tNil))) [some (.ref p), some (.ref aN), some (.ref aR), some (.int ((n' : Nat) : Int)), some (.ref x)] H1 Q := fun hn ef => by
      refine ⟨(by show 1 ≤ sizeLine; decide), fun l hl => ?_⟩
      have s2 : Same H1 (upd H1 l (.lst [.int 0])) := Same.new hl
      refine (r_one rfl (ex3 x dx _ ⟨rfl, s2 _ _ co.ins, rfl, r_one rfl ⟨x, dx, aP, rs, tv, s.pond, (s.season, s.cells), min n' 600, n', rfl, ⟨s2 _ _ co.ins, s2 _ _ co.lst, fun k r h => s2 _ _ (co.at_ k r h), co.or⟩, Nat.min_le_right _ _, hn, fun r hr' => ?_⟩⟩))
      obtain ⟨_, oc⟩ := PM.orb_ok oP n' (q := (s.season, s.cells)) ok.season ok.cells
      refine (ex4 l r _ _ ⟨rfl, rfl, upd_same, hr', (by rw [nl_length, oc.len]; exact Nat.le_of_lt (small1000 (by show 1 + _ ≤ 1000; omega))), fun q hq => ?_⟩)
      by_cases z : r = l
      · rw [z, upd_same] at hr'
        have h0 := Option.some.inj hr'
        injection h0 with h0
        have hl1 := congrArg List.length h0
        have s3 : Same H (upd H1 l (.lst [.int 0])) := s1.trans s2
        refine k0.same S (ans := 0 :: Vbecae.ints (Vbecae.turns s.pond n' s.season s.cells)) ?_ (s3.trans (Same.new hq)) (s3.free hq) ?_
        · show (s, if Vbecae.isBetween ((n' : Nat) : Int) 0 1000000000000000000 = false then [-7] else match Vbecae.far s.pond s.season n' s.cells with
            | none => [-8]
            | some x => 0 :: Vbecae.ints x) = _
          rw [if_neg ne1, ef]
        · rw [upd_same, PM.orb_cells]
          rfl
      · rw [upd_ne z] at hr'
        exact last hn ef l hl r hr' q hq
    refine (r_one rfl (r_two rfl rfl (r_one rfl ?_)))
    refine ite2 (fun hc => ?_) (fun hc => ?_)
    · have hc : 600 < n' := by
        have := of_decide_eq_true hc
        omega
      refine (r_fld rfl co.ins U.T2.cl U.T2.tail lk_tail ⟨rfl, r_one rfl ?_⟩)
      refine ite2 (fun hc2 => ?_) (fun hc2 => ?_)
      · have hc2 := of_decide_eq_true hc2
        refine (r_one rfl ⟨(by show 1 ≤ sizeLine; decide), fun q hq => ?_⟩)
        have en : Vbecae.far s.pond s.season n' s.cells = none := by
          rcases co.or with ⟨e1, e2, e3⟩ | ⟨i, e1, _⟩
          · rw [show min n' 600 = 600 by omega] at e3
            exact PM.far_none hc (PM.comes_none e3)
          · rw [e1] at hc2
            cases hc2
        refine k0.same S (ans := [-8]) ?_ (s1.trans (Same.new hq)) (s1.free hq) upd_same
        show (s, if Vbecae.isBetween ((n' : Nat) : Int) 0 1000000000000000000 = false then [-7] else match Vbecae.far s.pond s.season n' s.cells with
          | none => [-8]
          | some x => 0 :: Vbecae.ints x) = _
        rw [if_neg ne1, en]
      · have hc2 : tv ≠ .non := fun z => hc2 (decide_eq_true z)
        refine go (.inr hc2) ?_
        rcases co.or with ⟨e1, e2, e3⟩ | ⟨i, e1, e2, e3, e4, e5⟩
        · exact (hc2 e1).elim
        · exact PM.far_some (PM.comes_some e2 (by omega) e4 e5)
    · have hc : n' ≤ 600 := by
        have : ¬ (600 : Int) < ((n' : Nat) : Int) := fun z => hc (decide_eq_true z)
        omega
      exact go (.inl (by omega)) (PM.far_small hc)
/-! ### round -/
theorem scCRound : FnScope ["state", "numbers", "row", "course"] ["state", "numbers", "row"] (defScope sCRound) := ⟨rfl, rfl, rfl, by decide +kernel, rfl, by decide +kernel, by decide +kernel⟩
theorem ok_cround {f C : Addr} {fd : FuncData} (F : Fun K "call_round" "call_round" sCRound f fd) (Nu : Nums mg) (U : Course2 P w K mg base C) : FnOk P w K mg base CX0 6 f fd ["state", "numbers", "row"] (spCall C 10 0 false) := by
  obtain ⟨t1, mL⟩ := Nu.long
  refine F.ok scCRound (fun vs H Q E h => ?_) (fun cdv A' outer st H vs Q E hr h => ?_)
  · obtain ⟨N, p, aT, aW, aN, aR, s, ns, row, rfl, _⟩ := h
    rfl
  · obtain ⟨N, p, aT, aW, aN, aR, s, ns, row, rfl, S, ok, hN, hR, hlen, hrow, nRT, nRW, nN, k⟩ := h
    obtain rfl := len0 hlen
    have hr1 : Room 1 _ := hr.mono (by decide)
    refine ⟨_, pss_cons (ps_set (i := 3) scCRound.nd rfl (Or.inl rfl) (pe_make U.M U.I hr rfl U.T2.mgC U.bI .nil pass0 (pa_cons (pv 0) (pa_cons (pe_glob (v := .int 600) rfl mL ⟨_, rfl⟩) pa_nil))))
      (pss_cons (ps_if (pt_cmpR op_isN (pe_fld (pv 3) rfl) pe_non (nomark _)) (pss_one (ps_ret (pe_lst (pa_cons (pe_un un_neg pe_int) pa_nil)))) pss_nil)
      (pss_one (ps_ret (pe_lst (pa_cons (pe_fld (pv 3) rfl) (pa_cons (pe_meth0 (pv 3) U.T2.cl U.mT U.tor hr1 U.bT .nil pass0) pa_nil)))))), ?_⟩
    have k0 : Goes C N H p aT aW (Vbecae.act s .round) Q := k
    refine (r_one rfl ?_)
    intro x dx nx nd nex
    refine (ex8 N p aT aW x dx s 600 ⟨rfl, S.same (made_same nx nd), ok, Nat.le_refl _, upd_same, fun H1 aP rs tv co kb => ⟨rfl, ?_⟩⟩)
    have s1 : Same H H1 := But.sameNew nx nd kb
    refine (r_fld rfl co.ins U.T2.cl U.T2.tail lk_tail ⟨rfl, r_one rfl ?_⟩)
    refine ite2 (fun hc2 => ?_) (fun hc2 => ?_)
    · have hc2 := of_decide_eq_true hc2
      refine (r_one rfl ⟨(by show 1 ≤ sizeLine; decide), fun q hq => ?_⟩)
      have en : Vbecae.comesRound s.pond s.season s.cells = none := by
        rcases co.or with ⟨e1, e2, e3⟩ | ⟨i, e1, _⟩
        · exact PM.comes_none e3
        · rw [e1] at hc2
          cases hc2
      refine k0.same S (ans := [-8]) ?_ (s1.trans (Same.new hq)) (s1.free hq) upd_same
      show (s, match Vbecae.comesRound s.pond s.season s.cells with
        | none => [-8]
        | some r => [(r.1 : Int), (r.2 : Int)]) = _
      rw [en]
    · have hc2 : tv ≠ .non := fun z => hc2 (decide_eq_true z)
      rcases co.or with ⟨e1, e2, e3⟩ | ⟨i, rfl, e2, e3, e4, e5⟩
      · exact (hc2 e1).elim
      · have en := PM.comes_some e2 e3 e4 e5
        refine (r_fld rfl co.ins U.T2.cl U.T2.tail lk_tail (r_one rfl (ex3 x dx _ ⟨rfl, co.ins, rfl, ex5 x dx aP _ _ ⟨rfl, co.ins, co.lst, (by show 2 ≤ sizeLine; decide), fun q hq => ?_⟩⟩)))
        refine k0.same S (ans := [((i : Nat) : Int), ((rs.length - i : Nat) : Int)]) ?_ (s1.trans (Same.new hq)) (s1.free hq) ?_
        · show (s, match Vbecae.comesRound s.pond s.season s.cells with
            | none => [-8]
            | some r => [(r.1 : Int), (r.2 : Int)]) = _
          rw [en]
        · rw [upd_same, List.length_map, Int.ofNat_sub (by omega)]
          rfl
/-! ### years -/
theorem Goes.samex {N : Nat} {C p aT aW q : Addr} {H H2 H' : Hp} {s : Vbecae.State} {out : Vbecae.State × List Int} {ans : List Int} {Q : VK} (k : Goes C N H p aT aW out Q) (S2 : StateAt C (N + 2) H2 p aT aW s) (e : out = (s, ans)) (sx : SameX H H2) (sm : Same H2 H') (hq : H2 q = none)
    (h : H' q = some (.lst (ans.map V.int))) : Q (.ref q) H' := by
  subst e
  exact k H' aT aW q (S2.same sm) (sx.free q hq) h (fun x o hx np nt nw ne => ⟨sm _ _ (sx.to x o hx ne), nt, nw⟩) (ne_new S2.atT hq) (ne_new S2.atW hq)
def spYAC (C : Addr) : Sp := fun vs H Q _ => ∃ (N : Nat) (p aT aW : Addr) (s : Vbecae.State) (u : Nat), vs = [.ref p, .int ((u : Nat) : Int)] ∧ StateAt C N H p aT aW s ∧ PM.SOk s ∧ (u = s.pond.most ∨ u = 0) ∧ N ≤ 2000 ∧
  ∀ (H1 H' : Hp) (q : Addr), StateAt C (N + 1) H1 p aT aW s → SameX H H1 → Same H1 H' → H1 q = none → H' q = some (.lst (((((PM.End s.pond u).1 : Nat) : Int) :: Vbecae.ints (PM.End s.pond u).2).map V.int)) → Q (.ref q) H'
theorem scYAC : FnScope ["state", "units", "end"] ["state", "units"] (defScope sYAC) := ⟨rfl, rfl, rfl, by decide +kernel, rfl, by decide +kernel, by decide +kernel⟩
theorem ok_yac {f C : Addr} {fd : FuncData} (F : Fun K "years_and_cells" "years_and_cells" sYAC f fd) (T : Txt K mg C) (U : Cal P w K mg base "settled" 5 ["state", "wants", "units"] (spSettled C)) : FnOk P w K mg base CX0 6 f fd ["state", "units"] (spYAC C) := by
  refine F.ok scYAC (fun vs H Q E h => ?_) (fun cdv A' outer st H vs Q E hr h => ?_)
  · obtain ⟨N, p, aT, aW, s, u, rfl, _⟩ := h
    rfl
  · obtain ⟨N, p, aT, aW, s, u, rfl, S, ok, hu, hN, k⟩ := h
    refine ⟨_, pss_cons (ps_set (i := 2) scYAC.nd rfl (Or.inl rfl) (pe_call U.ok hr rfl U.m U.kp U.b .nil pass0 (pa_cons (pv 0) (pa_cons (pe_fld (pv 0) rfl) (pa_cons (pv 1) pa_nil)))))
      (pss_one (ps_ret (pe_op op_cat (pe_lst (pa_cons (pe_ix ix_tup (pv 2) pe_int (fun _ _ => rfl)) pa_nil)) (pe_ix ix_tup (pv 2) pe_int (fun _ _ => rfl))))), ?_⟩
    obtain ⟨dx, aA, aC, h1, h2, h3⟩ := id S.ex
    have oP := ok.pond
    have n36 := oP.n36
    have ule : u ≤ s.pond.most := by rcases hu with e | e <;> omega
    refine (r_one rfl (r_fld rfl h1 T.cl T.wants lk_wants (r_one rfl ⟨N, p, aT, aW, aW, s, s.pond.grazed, u, rfl, ⟨S, S.gr, oP⟩, ok, hu, hN, fun H1 t c W1 sx ht hc => ?_⟩)))
    have ecl := (PM.end_ok oP ule).len
    refine (r_one rfl (r_ixT (SqT.of ht) (at_of (j := 0) rfl rfl) ⟨(by show 1 ≤ sizeLine; decide), fun l hl => ?_⟩))
    have s2 : Same H1 (upd H1 l (.lst [.int (((PM.End s.pond u).1 : Nat) : Int)])) := Same.new hl
    refine (r_one rfl (r_ixT (SqT.of (s2 _ _ ht)) (at_of (j := 1) rfl rfl) (ex4 l c _ _ ⟨rfl, rfl, upd_same, s2 _ _ hc, (by rw [nl_length, show (PM.End (wg s.pond s.pond.grazed) u).2.length = s.pond.w * s.pond.h from ecl]; exact Nat.le_of_lt (small1000 (by show 1 + _ ≤ 1000; omega))), fun q hq => ?_⟩)))
    exact k H1 _ q W1.st sx (s2.trans (Same.new hq)) (s2.free hq) upd_same
theorem scCGreat : FnScope ["state", "numbers", "row"] ["state", "numbers", "row"] (defScope sCGreat) := ⟨rfl, rfl, rfl, by decide +kernel, rfl, by decide +kernel, by decide +kernel⟩
theorem ok_cgreat {f C : Addr} {fd : FuncData} (F : Fun K "call_greatest" "call_greatest" sCGreat f fd) (T : Txt K mg C) (U : Cal P w K mg base "years_and_cells" 6 ["state", "units"] (spYAC C)) : FnOk P w K mg base CX0 7 f fd ["state", "numbers", "row"] (spCall C 11 0 false) := by
  refine F.ok scCGreat (fun vs H Q E h => ?_) (fun cdv A' outer st H vs Q E hr h => ?_)
  · obtain ⟨N, p, aT, aW, aN, aR, s, ns, row, rfl, _⟩ := h
    rfl
  · obtain ⟨N, p, aT, aW, aN, aR, s, ns, row, rfl, S, ok, hN, hR, hlen, hrow, nRT, nRW, nN, k⟩ := h
    obtain rfl := len0 hlen
    refine ⟨_, pss_one (ps_ret (pe_call U.ok hr rfl U.m U.kp U.b .nil pass0 (pa_cons (pv 0) (pa_cons (pe_fld (pv 0) rfl) pa_nil)))), ?_⟩
    obtain ⟨dx, aA, aC, h1, h2, h3⟩ := id S.ex
    refine (r_one rfl (r_fld rfl h1 T.cl T.most lk_most ⟨N, p, aT, aW, s, s.pond.most, rfl, S, ok, .inl rfl, by omega, fun H1 H' q S1 sx sm hq h => ?_⟩))
    exact Goes.samex k (S1.mono (Nat.le_succ _)) (show Vbecae.step s [[11]] = (s, (((Vbecae.greatest s.pond).1 : Nat) : Int) :: Vbecae.ints (Vbecae.greatest s.pond).2) from rfl) sx sm hq h
theorem scCLeast : FnScope ["state", "numbers", "row"] ["state", "numbers", "row"] (defScope sCLeast) := ⟨rfl, rfl, rfl, by decide +kernel, rfl, by decide +kernel, by decide +kernel⟩
theorem ok_cleast {f C : Addr} {fd : FuncData} (F : Fun K "call_least" "call_least" sCLeast f fd) (U : Cal P w K mg base "years_and_cells" 6 ["state", "units"] (spYAC C)) : FnOk P w K mg base CX0 7 f fd ["state", "numbers", "row"] (spCall C 12 0 false) := by
  refine F.ok scCLeast (fun vs H Q E h => ?_) (fun cdv A' outer st H vs Q E hr h => ?_)
  · obtain ⟨N, p, aT, aW, aN, aR, s, ns, row, rfl, _⟩ := h
    rfl
  · obtain ⟨N, p, aT, aW, aN, aR, s, ns, row, rfl, S, ok, hN, hR, hlen, hrow, nRT, nRW, nN, k⟩ := h
    obtain rfl := len0 hlen
    refine ⟨_, pss_one (ps_ret (pe_call U.ok hr rfl U.m U.kp U.b .nil pass0 (pa_cons (pv 0) (pa_cons pe_int pa_nil)))), ?_⟩
    refine (r_one rfl (ex6 N p aT aW s 0 ⟨rfl, S, ok, .inr rfl, by omega, fun H1 H' q S1 sx sm hq h => ?_⟩))
    exact Goes.samex k (S1.mono (Nat.le_succ _)) (show Vbecae.step s [[12]] = (s, (((Vbecae.least s.pond).1 : Nat) : Int) :: Vbecae.ints (Vbecae.least s.pond).2) from rfl) sx sm hq h
theorem scCOne : FnScope ["state", "numbers", "row", "greatest", "least"] ["state", "numbers", "row"] (defScope sCOne) := ⟨rfl, rfl, rfl, by decide +kernel, rfl, by decide +kernel, by decide +kernel⟩
theorem ok_cone {f C : Addr} {fd : FuncData} (F : Fun K "call_one" "call_one" sCOne f fd) (T : Txt K mg C) (U : Cal P w K mg base "settled" 5 ["state", "wants", "units"] (spSettled C)) : FnOk P w K mg base CX0 6 f fd ["state", "numbers", "row"] (spCall C 13 0 false) := by
  refine F.ok scCOne (fun vs H Q E h => ?_) (fun cdv A' outer st H vs Q E hr h => ?_)
  · obtain ⟨N, p, aT, aW, aN, aR, s, ns, row, rfl, _⟩ := h
    rfl
  · obtain ⟨N, p, aT, aW, aN, aR, s, ns, row, rfl, S, ok, hN, hR, hlen, hrow, nRT, nRW, nN, k⟩ := h
    obtain rfl := len0 hlen
    refine ⟨_, pss_cons (ps_set (i := 3) scCOne.nd rfl (Or.inl rfl) (pe_call U.ok hr rfl U.m U.kp U.b .nil pass0 (pa_cons (pv 0) (pa_cons (pe_fld (pv 0) rfl) (pa_cons (pe_fld (pv 0) rfl) pa_nil)))))
      (pss_cons (ps_set (i := 4) scCOne.nd rfl (Or.inl rfl) (pe_call U.ok hr rfl U.m U.kp U.b .nil pass0 (pa_cons (pv 0) (pa_cons (pe_fld (pv 0) rfl) (pa_cons pe_int pa_nil)))))
      (pss_one (ps_ret (pe_lst (pa_cons (pe_ifExp (pt_cmpR (op_eqD hr.units) (pe_ix ix_tup (pv 3) pe_int (fun _ _ => rfl)) (pe_ix ix_tup (pv 4) pe_int (fun _ _ => rfl)) (nomark _)) pe_int pe_int) pa_nil))))), ?_⟩
    obtain ⟨dx, aA, aC, h1, h2, h3⟩ := id S.ex
    have oP := ok.pond
    refine (r_one rfl (r_fld rfl h1 T.cl T.wants lk_wants (r_fld rfl h1 T.cl T.most lk_most ⟨N, p, aT, aW, aW, s, s.pond.grazed, s.pond.most, rfl, ⟨S, S.gr, oP⟩, ok, .inl rfl, by omega, fun H1 t c W1 sx ht hc => ?_⟩)))
    obtain ⟨dx1, aA1, aC1, g1, g2, g3⟩ := id W1.st.ex
    refine (r_one rfl (r_fld rfl g1 T.cl T.wants lk_wants ⟨N + 1, p, aT, aW, aW, s, s.pond.grazed, 0, rfl, W1, ok, .inr rfl, by omega, fun H2 t2 c2 W2 sx2 ht2 hc2 => ?_⟩))
    have ht' := sx2.to _ _ ht (fun _ z => nomatch z)
    have hc' := sx2.lst hc
    refine (r_one rfl (r_ixT (SqT.of ht') (at_of (j := 1) rfl rfl) (r_one rfl (r_ixT (SqT.of ht2) (at_of (j := 1) rfl rfl) ⟨pdl _, pdl _, dp_nl hc', dp_nl hc2, pdl_shaped _, pdl_shaped _, r_one rfl ?_⟩))))
    rw [eqv_nl]
    have sxx := sx.trans sx2
    have fin : ∀ z : Int, z = (if (Vbecae.greatest s.pond).2 = (Vbecae.least s.pond).2 then 1 else 0) → 1 ≤ sizeLine ∧ ∀ q, H2 q = none → Q (.ref q) (upd H2 q (.lst [.int z])) := fun z hz => ⟨by decide, fun q hq => by
      refine Goes.samex k W2.st (ans := [z]) ?_ sxx (Same.new hq) hq upd_same
      show (s, [if (Vbecae.greatest s.pond).2 = (Vbecae.least s.pond).2 then 1 else 0]) = _
      rw [hz]⟩
    refine ite2 (fun hc => ?_) (fun hc => ?_)
    · have hc : (Vbecae.greatest s.pond).2 = (Vbecae.least s.pond).2 := of_decide_eq_true hc
      exact fin 1 (by rw [if_pos hc])
    · have hc : ¬ (Vbecae.greatest s.pond).2 = (Vbecae.least s.pond).2 := fun z => hc (decide_eq_true z)
      exact fin 0 (by rw [if_neg hc])
end
end PD
end
section
set_option Elab.async false
set_option linter.all false
set_option maxRecDepth 100000
set_option maxHeartbeats 2000000
namespace PD
open PySem PySem.Spec PyProof.Rows L2
open Vbecae (at_ share)
open PM (movedL wg)
abbrev sCBelow : Stmt := top 38
abbrev sCMove : Stmt := top 39
abbrev sCYield : Stmt := top 40
theorem range_find {n : Nat} {f : Nat → Bool} (h : ∀ j, j < n → f j = false) : (List.range n).find? f = none := by
  rw [List.find?_eq_none]
  intro j hj
  rw [h j (by simpa using hj)]
  exact Bool.false_ne_true
theorem range_find_at {n i : Nat} {f : Nat → Bool} (hi : i < n) (h : ∀ j, j < i → f j = false) (hf : f i = true) : (List.range n).find? f = some i := by
  have e : List.range n = List.range i ++ (i :: (List.range (n - i - 1)).map (fun j => i + 1 + j)) := by
    apply List.ext_getElem?
    intro j
    by_cases h1 : j < i
    · rw [List.getElem?_append_left (by simpa using h1)]
      simp [h1, show j < n by omega]
    · rw [List.getElem?_append_right (by simpa using h1)]
      by_cases h2 : j = i
      · subst h2
        simp [hi]
      · obtain ⟨m, rfl⟩ : ∃ m, j = i + 1 + m := ⟨j - i - 1, by omega⟩
        rw [List.length_range, show i + 1 + m - i = m + 1 by omega, List.getElem?_cons_succ, List.getElem?_map]
        by_cases h3 : i + 1 + m < n
        · simp [h3, show m < n - i - 1 by omega]
        · simp [h3, show ¬ m < n - i - 1 by omega]
  rw [e, List.find?_append, range_find h, List.find?_cons, hf]
  rfl
section
variable {P : Program} {w : World} {K : PySem.W.Frag} {mg : Str → Option Value} {base : Heap}
/-! ### below -/
theorem scCBelow : FnScope ["state", "numbers", "row", "k", "v"] ["state", "numbers", "row"] (defScope sCBelow) := ⟨rfl, rfl, rfl, by decide +kernel, rfl, by decide +kernel, by decide +kernel⟩
theorem ok_cbelow {f C : Addr} {fd : FuncData} (F : Fun K "call_below" "call_below" sCBelow f fd) (T : Txt K mg C) (B : Bl mg) (U : Cal P w K mg base "fits_cells" 2 ["state", "row", "greatest"] (spFits C K)) : FnOk P w K mg base CX0 3 f fd ["state", "numbers", "row"] (spCall C 14 0 true) := by
  refine F.ok scCBelow (fun vs H Q E h => ?_) (fun cdv A' outer st H vs Q E hr h => ?_)
  · obtain ⟨N, p, aT, aW, aN, aR, s, ns, row, rfl, _⟩ := h
    rfl
  · obtain ⟨N, p, aT, aW, aN, aR, s, ns, row, rfl, S, ok, hN, hR, hlen, hrow, nRT, nRW, nN, k⟩ := h
    obtain rfl := len0 hlen
    obtain ⟨dx, aA, aC, h1, h2, h3⟩ := id S.ex
    refine ⟨_, pss_cons (ps_if (pt_not (pt_val (pe_call U.ok hr rfl U.m U.kp U.b .nil pass0 (pa_cons (pv 0) (pa_cons (pv 2) (pa_cons (pe_fld (pv 0) rfl) pa_nil)))))) (pss_one (ps_ret (pe_lst (pa_cons (pe_un un_neg pe_int) pa_nil)))) pss_nil)
      (pss_cons (ps_for PassesOwn.never rfl (pi_enum rfl B.enum (pa_cons (pe_fld (pv 0) rfl) pa_nil)) (pg_tup rfl (pgs_cons (pg_name (i := 3) scCBelow.nd rfl (Or.inl rfl)) (pgs_cons (pg_name (i := 4) scCBelow.nd rfl (Or.inl rfl)) pgs_nil)))
        (pss_one (ps_if (pt_cmpR op_gt (pv 4) (pe_ix ix_list (pv 2) (pv 3) (fun _ _ => rfl)) (nomark _)) (pss_one (ps_ret (pe_lst (pa_cons pe_int (pa_cons (pv 3) pa_nil))))) pss_nil)))
      (pss_one (ps_ret (pe_lst (pa_cons pe_int pa_nil))))), ?_⟩
    have k0 : Goes C N H p aT aW (Vbecae.act s (.below row)) Q := k
    refine (r_one rfl (r_one rfl (r_fld rfl h1 T.cl T.most lk_most (ex8 N p aT aW aR s row _ ⟨rfl, S, ok.pond.w6, SqL.of hR, fun b1 hb1 => ⟨b1, rfl, ?_⟩⟩))))
    refine ite2 (fun hc => ?_) (fun hc => ?_)
    · have hc : ¬ fitsB s row ((s.pond.most : Nat) : Int) := fun z => by
        rw [hb1.mpr z] at hc
        cases hc
      have eL := fits_none hc
      refine (r_one rfl ⟨(by show 1 ≤ sizeLine; decide), fun q hq => ?_⟩)
      exact k0.one S (show Vbecae.act s (.below row) = (s, [-6]) by simp only [Vbecae.act, eL]) hq
    have hfit : fitsB s row ((s.pond.most : Nat) : Int) := hb1.mp (by cases b1 with | true => rfl | false => exact (hc rfl).elim)
    have eL := fits_list.mp hfit
    have eR : row.map V.int = nl (row.map Int.toNat) := nat_list hfit.2
    have rlen : (row.map Int.toNat).length = s.pond.w * s.pond.h := by rw [List.length_map]; exact hfit.1
    have clen := ok.cells.len
    rw [eR] at hR
    -- for k, v in enumerate(state.cells)
    refine (r_fld rfl h1 T.cl T.cells lk_cells (ex2 aC _ ⟨rfl, SqL.of h3, for_enum (K := K) (a := aC) (xs := nl s.cells) (fun i σ H' => ∃ v3 v4 : Option V, σ = [some (.ref p), some (.ref aN), some (.ref aR), v3, v4] ∧ Same H H' ∧ ∀ j, j < i → ¬ at_ (row.map Int.toNat) j < at_ s.cells j) (ex2 none none ⟨rfl, fun _ _ e => e, fun j hj => by omega⟩) (fun i σ H' _ ⟨_, _, _, s1, _⟩ => SqL.of (s1 _ _ h3)) ?_ ?_⟩))

    · rintro i y σ H' T' hi ⟨v3, v4, rfl, s1, hall⟩ hT
      obtain ⟨n, hn, rfl⟩ := nl_get hi
      have hix : i < s.cells.length := (List.getElem?_eq_some_iff.mp hn).1
      have s2 : Same H' (upd H' T' (.tup [.int ((i : Nat) : Int), .int ((n : Nat) : Int)])) := Same.new hT
      refine (ex2 T' _ ⟨rfl, SqT.of upd_same, rfl, ex2 _ _ ⟨rfl, r_two rfl rfl ?_⟩⟩)
      refine (r_one rfl (r_one rfl (r_one rfl (r_ixL (SqL.of (s2 _ _ (s1 _ _ hR))) (at_nl (by rw [rlen]; omega)) (r_two rfl rfl (r_one rfl ?_))))))
      have s3 := s1.trans s2
      generalize upd H' T' (.tup [.int ((i : Nat) : Int), .int ((n : Nat) : Int)]) = H2 at s3 ⊢
      have en : at_ s.cells i = n := PM.at_some hn
      refine ite2 (fun hc2 => ?_) (fun hc2 => ?_)
      · have hc2 := of_decide_eq_true hc2
        refine (r_one rfl ⟨(by show 2 ≤ sizeLine; decide), fun q hq => ?_⟩)
        refine k0.same S (ans := [0, ((i : Nat) : Int)]) ?_ (s3.trans (Same.new hq)) (s3.free hq) upd_same
        simp only [Vbecae.act, eL]
        rw [range_find_at (i := i) (by show i < s.pond.w * s.pond.h; omega) (fun j hj => decide_eq_false (hall j hj)) (decide_eq_true (by omega))]
      · have hc2 : ¬ (((at_ (row.map Int.toNat) i : Nat) : Int) < ((n : Nat) : Int)) := fun z => hc2 (decide_eq_true z)
        refine (ex2 _ _ ⟨rfl, s3, fun j hj => ?_⟩)
        by_cases e : j = i
        · subst e
          omega
        · exact hall j (by omega)
    · rintro σ H' ⟨v3, v4, rfl, s1, hall⟩
      refine ⟨(by show 1 ≤ sizeLine; decide), fun q hq => ?_⟩
      refine k0.same S (ans := [1]) ?_ (s1.trans (Same.new hq)) (s1.free hq) upd_same
      simp only [Vbecae.act, eL]
      rw [range_find (fun j hj => decide_eq_false (hall j (by rw [nl_length, clen]; exact hj)))]
/-! ### move -/
theorem scCMove : FnScope ["state", "numbers", "row", "dx", "dy"] ["state", "numbers", "row"] (defScope sCMove) := ⟨rfl, rfl, rfl, by decide +kernel, rfl, by decide +kernel, by decide +kernel⟩
theorem ok_cmove {f C fM : Addr} {fd dM : FuncData} (F : Fun K "call_move" "call_move" sCMove f fd) (T : Txt K mg C) (W : Cal P w K mg base "all_within" 1 ["numbers", "least", "greatest"] (spWithin K))
    (M : FnOk P w K mg base CX0 2 fM dM ["self", "dx", "dy"] (spMove C)) (bM : Binds K dM ["self", "dx", "dy"] []) (mM : Meth K C "move" fM) : FnOk P w K mg base CX0 3 f fd ["state", "numbers", "row"] (spCall C 15 2 false) := by
  refine F.ok scCMove (fun vs H Q E h => ?_) (fun cdv A' outer st H vs Q E hr h => ?_)
  · obtain ⟨N, p, aT, aW, aN, aR, s, ns, row, rfl, _⟩ := h
    rfl
  · obtain ⟨N, p, aT, aW, aN, aR, s, ns, row, rfl, S, ok, hN, hR, hlen, hrow, nRT, nRW, nN, k⟩ := h
    obtain ⟨a, b, rfl⟩ := len2 hlen
    obtain ⟨dd, aA, aC, h1, h2, h3⟩ := id S.ex
    have hr1 : Room 1 _ := hr.mono (by decide)
    refine ⟨_, pss_cons (ps_set (i := 3) scCMove.nd rfl (Or.inl rfl) (pe_ix ix_list (pv 1) pe_int (fun _ _ => rfl))) (pss_cons (ps_set (i := 4) scCMove.nd rfl (Or.inl rfl) (pe_ix ix_list (pv 1) pe_int (fun _ _ => rfl)))
      (pss_cons (ps_if (pt_not (pt_val (pe_call W.ok hr1 rfl W.m W.kp W.b .nil pass0 (pa_cons (pe_lst (pa_cons (pv 3) (pa_cons (pv 4) pa_nil))) (pa_cons pe_int (pa_cons pe_int pa_nil)))))) (pss_one (ps_ret (pe_lst (pa_cons (pe_un un_neg pe_int) pa_nil)))) pss_nil)
      (pss_cons (ps_expr (pe_meth (pv 0) T.cl mM M hr bM .nil pass0 (pa_cons (pv 3) (pa_cons (pv 4) pa_nil))))
      (pss_one (ps_ret (pe_lst (pa_cons pe_int pa_nil))))))), ?_⟩
    have k0 : Goes C N H p aT aW (Vbecae.act s (.move a b)) Q := k
    refine (r_one rfl (r_ixL (SqL.of hN) (at_of (j := 0) rfl rfl) ?_))
    refine (r_one rfl (r_ixL (SqL.of hN) (at_of (j := 1) rfl rfl) ?_))
    -- if not all_within([dx, dy], 0, 7)
    refine (r_one rfl (r_one rfl ⟨(by show 2 ≤ sizeLine; decide), fun t ht => ?_⟩))
    refine ⟨t, [a, b], ex2 0 7 ⟨rfl, SqL.of upd_same, fun c1 hc1 => ⟨c1, rfl, ?_⟩⟩⟩
    have hc1' : c1 = true ↔ (0 ≤ a ∧ a ≤ 7) ∧ (0 ≤ b ∧ b ≤ 7) := hc1.trans ⟨fun q => ⟨q a (by simp), q b (by simp)⟩, fun q v hv => by
      simp at hv
      rcases hv with rfl | rfl
      · exact q.1
      · exact q.2⟩
    have s1 : Same H (upd H t (.lst [.int a, .int b])) := Same.new ht
    generalize upd H t (.lst [.int a, .int b]) = H1 at s1
    have e1 : (Vbecae.isBetween a 0 7 = false ∨ Vbecae.isBetween b 0 7 = false) ↔ ¬ ((0 ≤ a ∧ a ≤ 7) ∧ (0 ≤ b ∧ b ≤ 7)) := by
      rw [PM.between_not, PM.between_not]
      omega
    refine ite2 (fun hc => ?_) (fun hc => ?_)
    · have hc : ¬ ((0 ≤ a ∧ a ≤ 7) ∧ (0 ≤ b ∧ b ≤ 7)) := fun q => by
        rw [hc1'.mpr q] at hc
        cases hc
      refine (r_one rfl ⟨(by show 1 ≤ sizeLine; decide), fun q hq => ?_⟩)
      exact k0.same S (show Vbecae.act s (.move a b) = (s, [-7]) by unfold Vbecae.act; simp only [if_pos (e1.mpr hc)]) (s1.upd (s1.free hq)) (s1.free hq) upd_same
    have hc2 : (0 ≤ a ∧ a ≤ 7) ∧ (0 ≤ b ∧ b ≤ 7) := hc1'.mp (by cases c1 with | true => rfl | false => exact (hc rfl).elim)
    have ne1 : ¬ (Vbecae.isBetween a 0 7 = false ∨ Vbecae.isBetween b 0 7 = false) := fun q => e1.mp q hc2
    obtain ⟨a', rfl⟩ := Int.eq_ofNat_of_zero_le hc2.1.1
    obtain ⟨b', rfl⟩ := Int.eq_ofNat_of_zero_le hc2.2.1
    -- state.move(dx, dy)
    refine (r_one rfl (ex3 p dd _ ⟨rfl, s1 _ _ h1, rfl, r_one rfl (r_one rfl (ex7 N p aT aW s a' b' ⟨rfl, S.same s1, ok, fun H2 aW' S2 fW kb => ?_⟩))⟩))
    refine ⟨(by show 1 ≤ sizeLine; decide), fun q hq => ?_⟩
    have kb' : But p H H2 := (But.of_same s1).trans kb
    have e : Vbecae.act s (.move ((a' : Nat) : Int) ((b' : Nat) : Int)) = (movedS s a' b', [0]) := by
      unfold Vbecae.act
      simp only [if_neg ne1]
      rfl
    rw [e] at k0
    have hq' : H q = none := kb'.free hq fun o ho e => by
      obtain ⟨dx', _, _, h1', _⟩ := S2.ex
      rw [e, h1'] at hq
      cases hq
    have fW' := s1.free fW
    exact k0 _ aT aW' q (S2.same (Same.new hq)).two hq' upd_same (fun x o hx np nt _ _ => ⟨by rw [upd_ne (ne_of_none (kb' x o hx np) hq)]; exact kb' x o hx np, nt, ne_of_none hx fW'⟩) (ne_new S2.atT hq) (ne_new S2.atW hq)
/-! ### yield -/
theorem rep_ref (n : Nat) (a : Addr) : (List.replicate n [V.ref a]).flatten = (List.replicate n a).map V.ref := by
  induction n with
  | zero => rfl
  | succ n ih =>
    rw [List.replicate_succ, List.replicate_succ, List.flatten_cons, ih]
    rfl
theorem map_const {α β : Type} (b : β) : ∀ l : List α, l.map (fun _ => b) = List.replicate l.length b
  | [] => rfl
  | _ :: l => by
    rw [List.map_cons, map_const b l]
    rfl
theorem scCYield : FnScope ["state", "numbers", "row", "wants", "cells"] ["state", "numbers", "row"] (defScope sCYield) := ⟨rfl, rfl, rfl, by decide +kernel, rfl, by decide +kernel, by decide +kernel⟩
theorem ok_cyield {f C : Addr} {fd : FuncData} (F : Fun K "call_yield_of" "call_yield_of" sCYield f fd) (T : Txt K mg C) (B : Bl mg) (U : Cal P w K mg base "fits_cells" 2 ["state", "row", "greatest"] (spFits C K))
    (E5 : Cal P w K mg base "settled" 5 ["state", "wants", "units"] (spSettled C)) (G : Cal P w K mg base "grazed_in_year" 2 ["state", "wants", "cells"] (spGIY C)) : FnOk P w K mg base CX0 6 f fd ["state", "numbers", "row"] (spCall C 16 0 true) := by
  refine F.ok scCYield (fun vs H Q E h => ?_) (fun cdv A' outer st H vs Q E hr h => ?_)
  · obtain ⟨N, p, aT, aW, aN, aR, s, ns, row, rfl, _⟩ := h
    rfl
  · obtain ⟨N, p, aT, aW, aN, aR, s, ns, row, rfl, S, ok, hN, hR, hlen, hrow, nRT, nRW, nN, k⟩ := h
    obtain rfl := len0 hlen
    obtain ⟨dx, aA, aC, h1, h2, h3⟩ := id S.ex
    have hr2 : Room 2 _ := hr.mono (by decide)
    refine ⟨_, pss_cons (ps_if (pt_not (pt_val (pe_call U.ok hr2 rfl U.m U.kp U.b .nil pass0 (pa_cons (pv 0) (pa_cons (pv 2) (pa_cons pe_int pa_nil)))))) (pss_one (ps_ret (pe_lst (pa_cons (pe_un un_neg pe_int) pa_nil)))) pss_nil)
      (pss_cons (ps_set (i := 3) scCYield.nd rfl (Or.inl rfl) (pe_op op_rep (pe_lst (pa_cons (pv 2) pa_nil)) (pe_fld (pv 0) rfl)))
      (pss_cons (ps_set (i := 4) scCYield.nd rfl (Or.inl rfl) (pe_ix ix_tup (pe_call E5.ok hr rfl E5.m E5.kp E5.b .nil pass0 (pa_cons (pv 0) (pa_cons (pv 3) (pa_cons (pe_fld (pv 0) rfl) pa_nil)))) pe_int (fun _ _ => rfl)))
      (pss_one (ps_ret (pe_lst (pa_cons (pe_call G.ok hr2 rfl G.m G.kp G.b .nil pass0 (pa_cons (pv 0) (pa_cons (pv 3) (pa_cons (pv 4) pa_nil)))) (pa_cons (pe_callB (cr_sum rfl) (by rfl) B.sum boot_sum (pa_cons (pv 4) pa_nil)) pa_nil))))))), ?_⟩
    have k0 : Goes C N H p aT aW (Vbecae.act s (.yield row)) Q := k
    refine (r_one rfl (r_one rfl ⟨N, p, aT, aW, aR, s, row, ((100 : Nat) : Int), rfl, S, ok.pond.w6, SqL.of hR, fun b1 hb1 => ⟨b1, rfl, ?_⟩⟩))
    refine ite2 (fun hc => ?_) (fun hc => ?_)
    · have hc : ¬ fitsB s row ((100 : Nat) : Int) := fun z => by
        rw [hb1.mpr z] at hc
        cases hc
      have eL := fits_none hc
      refine (r_one rfl ⟨(by show 1 ≤ sizeLine; decide), fun q hq => ?_⟩)
      exact k0.one S (show Vbecae.act s (.yield row) = (s, [-6]) by simp only [Vbecae.act, eL]) hq
    have hfit : fitsB s row ((100 : Nat) : Int) := hb1.mp (by cases b1 with | true => rfl | false => exact (hc rfl).elim)
    have eL := fits_list.mp hfit
    have eR : row.map V.int = nl (row.map Int.toNat) := nat_list hfit.2
    rw [eR] at hR
    have oP := ok.pond
    have gok : PM.GOk (s.pond.w * s.pond.h) (row.map Int.toNat) := ⟨by rw [List.length_map]; exact hfit.1, fun v hv => by
      obtain ⟨z, hz, rfl⟩ := List.mem_map.mp hv
      have := hfit.2 z hz
      omega⟩
    have oG := PM.grazing_ok oP gok
    have eg : List.replicate s.pond.tables.length (row.map Int.toNat) = s.pond.grazed.map fun _ => row.map Int.toNat := by
      rw [map_const, oP.gl]
    have p8 := oP.p8
    -- wants = [row] * state.p
    refine (r_one rfl ⟨(by show 1 ≤ sizeLine; decide), fun l hl => ?_⟩)
    have s0 : Same H (upd H l (.lst [.ref aR])) := Same.new hl
    refine (r_fld rfl (s0 _ _ h1) T.cl T.p lk_p (ex3 l _ _ ⟨rfl, rfl, upd_same, by omega, by omega, (by show 1 * (((s.pond.tables.length : Nat) : Int)).toNat ≤ sizeLine; exact Nat.le_of_lt (small1000 (by rw [Int.toNat_natCast]; omega))), fun aV hV => ?_⟩))
    rw [show (((s.pond.tables.length : Nat) : Int)).toNat = s.pond.tables.length from rfl, rep_ref]
    have s1 : Same H (upd (upd H l (.lst [.ref aR])) aV (.lst ((List.replicate s.pond.tables.length aR).map V.ref))) := s0.trans (Same.new hV)
    have v1 : (upd (upd H l (.lst [.ref aR])) aV (.lst ((List.replicate s.pond.tables.length aR).map V.ref))) aV = some (.lst ((List.replicate s.pond.tables.length aR).map V.ref)) := upd_same
    generalize upd (upd H l (.lst [.ref aR])) aV (.lst ((List.replicate s.pond.tables.length aR).map V.ref)) = H1 at s1 v1 ⊢
    have R1 : RowsAt H1 aV (s.pond.grazed.map fun _ => row.map Int.toNat) := by
      rw [← eg]
      refine ⟨_, v1, by simp, fun i r t hr ht => ?_⟩
      have e1 : r = aR := List.eq_of_mem_replicate (List.mem_of_getElem? hr)
      have e2 : t = row.map Int.toNat := List.eq_of_mem_replicate (List.mem_of_getElem? ht)
      rw [e1, e2]
      exact s1 _ _ hR
    -- cells = settled(state, wants, state.most)[1]
    refine (r_one rfl (r_one rfl (r_fld rfl (s1 _ _ h1) T.cl T.most lk_most ⟨N, p, aT, aW, aV, s, s.pond.grazed.map (fun _ => row.map Int.toNat), s.pond.most, rfl, ⟨S.same s1, R1, oG⟩, ok, .inl rfl, by omega, fun H2 t c W2 sx ht hc2 => ?_⟩)))
    refine (r_ixT (SqT.of ht) (at_of (j := 1) rfl rfl) ?_)
    have eok : PM.COk (wg s.pond (s.pond.grazed.map fun _ => row.map Int.toNat)) (PM.End (wg s.pond (s.pond.grazed.map fun _ => row.map Int.toNat)) s.pond.most).2 := PM.end_ok oG (Nat.le_refl _)
    -- return [grazed_in_year(state, wants, cells), sum(cells)]
    refine (r_one rfl (r_one rfl (r_one rfl ⟨N + 1, ex8 p aT aW aV c s _ _ ⟨rfl, W2, eok, hc2, fun H3 s3 => ?_⟩⟩)))
    refine (r_one rfl ⟨c, Vbecae.ints (PM.End (wg s.pond (s.pond.grazed.map fun _ => row.map Int.toNat)) s.pond.most).2, rfl, SqL.of (s3 _ _ hc2), (by show 2 ≤ sizeLine; decide), fun q hq => ?_⟩)
    have sxx : SameX H H3 := ((SameX.of s1).trans sx).trans (SameX.of s3)
    refine Goes.samex k0 ((W2.st.same s3).mono (Nat.le_succ _)) (ans := [(((Vbecae.bookedN (Vbecae.seasons (Vbecae.grazing s.pond (row.map Int.toNat))) (Vbecae.fresh (Vbecae.grazing s.pond (row.map Int.toNat)) (Vbecae.greatest (Vbecae.grazing s.pond (row.map Int.toNat))).2)).eaten : Nat) : Int), (((Vbecae.greatest (Vbecae.grazing s.pond (row.map Int.toNat))).2.sum : Nat) : Int)]) ?_ sxx (Same.new hq) hq ?_
    · simp only [Vbecae.act, eL]
    · rw [upd_same, nl_sum]
      rfl
end
end PD
end
section
set_option Elab.async false
set_option linter.all false
set_option maxRecDepth 100000
set_option maxHeartbeats 4000000
namespace PD
open PySem PySem.Spec PyProof.Rows L2
open Vbecae (at_ share)
open PM (movedL wg)
abbrev sAns : Stmt := top 42
/-! ### a dict of the text, its keys ints -/
def tKGet (es : Array DictEntry) (ty : TE) : TE := fun σ H Q => ty σ H fun y H1 => ∃ (c : Int) (a : Addr), y = .int c ∧ findBy Value.isInt es c = some (.ref a) ∧ Q (.ref a) H1
theorem pe_kget {X : Cx} {x : Str} {aD : Addr} {o : Obj} {es : Array DictEntry} {ep : Nat} {i : Expr} {ty : TE} {p pos : Pos} (hg : Gl X x) (hm : X.mg x = some (.ref aD)) (lk : X.K.lookup aD = some o) (ex : o.ExactDict) (dt : o.data = .dict es ep) (ko : KeysOf (intKind X.prog X.w) es) (hi : PE X i ty) (hs : NoSl i)
    (hd : (x == ("__debug__" : Str)) = false := by decide) : PE X (.Subscript (.Name x p) i pos) (tKGet es ty) := by
  intro pins s σ H Q I h
  have hn := pe_glob (v := V.ref aD) (pos := p) hg hm rfl hd
  refine subD_of PySem.F.slot_dict_getitem.lookup hs (thn (hn pins s σ H (fun v H1 => v = .ref aD ∧ H1 = H) I ⟨rfl, rfl⟩) fun u s1 ⟨x1, H1, I1, rx, e1, e2⟩ => ?_)
  subst e1 e2
  refine thn (hi pins s1 σ H1 _ I1 h) fun iv s2 ⟨y, H2, I2, ry, c, a, ey, hf, q2⟩ => ?_
  subst ey
  obtain rfl : u = Value.ref aD := rx
  obtain ⟨t, rfl⟩ := ry
  have hM : s2.heap.MapOf (intKind X.prog X.w) aD (fun k => findBy Value.isInt es k) := ⟨o, es, ep, I2.kIn _ _ lk, ex, dt, ko, fun _ => rfl⟩
  refine ⟨hM.typeIs, wpAny_getItem_of (k := c) (knd := intKind X.prog X.w) (by show Value.isInt c (.int c t) = true; simp [Value.isInt]) hM hf ⟨.ref a, H2, I2.tok _, rfl, q2⟩⟩
/-! ### what the object leans on -/
def Ord : HO → Prop
  | .lst _ => True
  | .tup _ => True
  | .ins _ _ _ => True
  | .ext _ => True
  | _ => False
theorem StateAt.keepO {C : Addr} {N : Nat} {H H' : Hp} {p aT aW : Addr} {s : Vbecae.State} (S : StateAt C N H p aT aW s) (k : ∀ b o, H b = some o → Ord o → H' b = some o) : StateAt C N H' p aT aW s := by
  obtain ⟨dx, aA, aC, h1, ⟨⟨ts, t1, t2, t3⟩, h2⟩, h3⟩ := S.ex
  obtain ⟨rs, r1, r2, r3⟩ := S.tb
  obtain ⟨us, u1, u2, u3⟩ := S.gr
  refine ⟨⟨dx, aA, aC, k _ _ h1 trivial, ⟨⟨ts, k _ _ t1 trivial, t2, fun i t ht => k _ _ (t3 i t ht) trivial⟩, h2.keep fun b o e r => k b o e ?_⟩, k _ _ h3 trivial⟩, ⟨rs, k _ _ r1 trivial, r2, fun i r t hr ht => k _ _ (r3 i r t hr ht) trivial⟩, ⟨us, k _ _ u1 trivial, u2, fun i r t hr ht => k _ _ (u3 i r t hr ht) trivial⟩, S.ne⟩
  rcases r with ⟨_, e⟩ | ⟨_, e⟩ | ⟨z, _, e⟩ <;> (rw [e]; trivial)
/-- the state, g hidden -/
def Hid (C : Addr) (N : Nat) (H : Hp) (g p aT aW : Addr) (s : Vbecae.State) : Prop := StateAt C N (upd H g (.own 0)) p aT aW s
theorem Hid.same {C : Addr} {N : Nat} {H H' : Hp} {g p aT aW : Addr} {s : Vbecae.State} (S : Hid C N H g p aT aW s) (k : Same H H') : Hid C N H' g p aT aW s := StateAt.keepO S fun b o e r => by
  by_cases z : b = g
  · rw [z, upd_same] at e
    rw [← Option.some.inj e] at r
    exact r.elim
  · rw [upd_ne z] at e ⊢
    exact k _ _ e
theorem Hid.at {C : Addr} {N : Nat} {H : Hp} {g p aT aW : Addr} {s : Vbecae.State} {u : HO} (S : Hid C N H g p aT aW s) : StateAt C N (upd H g u) p aT aW s := StateAt.keepO S fun b o e r => by
  by_cases z : b = g
  · rw [z, upd_same] at e
    rw [← Option.some.inj e] at r
    exact r.elim
  · rw [upd_ne z] at e ⊢
    exact e
theorem Hid.of {C : Addr} {N : Nat} {H H' : Hp} {g p aT aW : Addr} {s : Vbecae.State} {u : HO} (S : StateAt C N H p aT aW s) (hg : H g = some u) (hu : ¬ Ord u) (k : ∀ b, b ≠ g → H' b = H b) : Hid C N H' g p aT aW s := StateAt.keepO S fun b o e r => by
  by_cases z : b = g
  · rw [z, hg] at e
    rw [← Option.some.inj e] at r
    exact (hu r).elim
  · rw [upd_ne z, k b z]
    exact e
theorem Hid.new {C : Addr} {N : Nat} {H H' : Hp} {g p aT aW : Addr} {s : Vbecae.State} (S : StateAt C N H p aT aW s) (hg : H g = none) (k : ∀ b, b ≠ g → H' b = H b) : Hid C N H' g p aT aW s := StateAt.keepO S fun b o e r => by
  have z : b ≠ g := ne_of_none e hg
  rw [upd_ne z, k b z]
  exact e
theorem Hid.ne {C : Addr} {N : Nat} {H : Hp} {g p aT aW : Addr} {s : Vbecae.State} (S : Hid C N H g p aT aW s) : (g ≠ p ∧ g ≠ aT ∧ g ≠ aW) ∧ (∃ D dx fs, H p = some (.ins D dx fs)) ∧ (∃ xs, H aT = some (.lst xs)) ∧ ∃ xs, H aW = some (.lst xs) := by
  obtain ⟨dx, aA, aC, h1, _, _⟩ := S.ex
  obtain ⟨rs, r1, _⟩ := S.tb
  obtain ⟨us, u1, _⟩ := S.gr
  have n1 : p ≠ g := ne_of h1 (upd_same : (upd H g (.own 0)) g = _) (by intro z; cases z)
  have n2 : aT ≠ g := ne_of r1 (upd_same : (upd H g (.own 0)) g = _) (by intro z; cases z)
  have n3 : aW ≠ g := ne_of u1 (upd_same : (upd H g (.own 0)) g = _) (by intro z; cases z)
  rw [upd_ne n1] at h1
  rw [upd_ne n2] at r1
  rw [upd_ne n3] at u1
  exact ⟨⟨fun z => n1 z.symm, fun z => n2 z.symm, fun z => n3 z.symm⟩, ⟨_, _, _, h1⟩, ⟨_, r1⟩, ⟨_, u1⟩⟩
/-! ### places of the list of calls -/
theorem get_mid (A : List Int) (x : Int) (B : List Int) : ((A ++ x :: B).map V.int)[A.length]? = some (.int x) := by
  rw [List.getElem?_map, List.getElem?_append_right (Nat.le_refl _), Nat.sub_self]
  rfl
theorem cut_mid {A M B : List Int} {lo hi : Int} (h1 : lo = ((A.length : Nat) : Int)) (h2 : hi = ((A.length + M.length : Nat) : Int)) : cutV ((A ++ (M ++ B)).map V.int) (some lo) (some hi) = M.map V.int := by
  subst h1 h2
  unfold cutV
  rw [HT.sIx_nat, HT.sIx_nat, List.length_map, List.length_append, List.length_append, Nat.min_eq_left (by omega), Nat.min_eq_left (by omega), Nat.add_sub_cancel_left, ← List.map_drop, ← List.map_take, List.drop_left, List.take_left]
/-- the calls of the text -/
structure CallsOk (P : Program) (w : World) (K : PySem.W.Frag) (mg : Str → Option Value) (base : Heap) (C : Addr) : Prop where
  ex : ∃ (aD : Addr) (o : Obj) (es : Array DictEntry) (ep : Nat), mg "CALLS" = some (.ref aD) ∧ K.lookup aD = some o ∧ o.ExactDict ∧ o.data = .dict es ep ∧ KeysOf (intKind P w) es ∧
    ∀ (c : Int) (n k : Nat), PyVbecae.shape c = some (n, k) → k ≤ 1 ∧ ∃ (t f : Addr) (fd : FuncData), findBy Value.isInt es c = some (.ref t) ∧ (∀ H, SqT K H t [.int ((n : Nat) : Int), .bl (decide (k = 1)), .ref f]) ∧
      FnOk P w K mg base CX0 7 f fd ["state", "numbers", "row"] (spCall C c n (decide (k = 1))) ∧ PySem.W.keepIn K (.ref f) = true ∧ Binds K fd ["state", "numbers", "row"] []
section
variable {P : Program} {w : World} {K : PySem.W.Frag} {mg : Str → Option Value} {base : Heap}
/-! ### answers -/
def spAns (K : PySem.W.Frag) : Sp := fun vs H Q _ => ∃ (a : Addr) (ns : List Int), vs = [.ref a] ∧ SqL K H a (ns.map V.int) ∧ ns.length ≤ 16000 ∧ PyVbecae.answers_asked ns = true ∧ (∀ b o, H b = some o → ¬ Ord o) ∧
  ∀ (H' : Hp) (p : Addr), H' p = some (.lst ((PyVbecae.answers ns).map V.int)) → Q (.ref p) H'
theorem scAns : FnScope ["calls", "state", "given", "at", "shape", "behind", "numbers", "row", "start", "act", "answer"] ["calls"] (defScope sAns) := ⟨rfl, rfl, rfl, by decide +kernel, rfl, by decide +kernel, by decide +kernel⟩
theorem ok_ans {f C fI : Addr} {fd dI : FuncData} (F : Fun K "answers" "answers" sAns f fd) (T : Txt K mg C) (B : Bl mg) (M : Mk K C fI) (I : FnOk P w K mg base CX0 3 fI dI ["self"] (spInit C)) (bI : Binds K dI ["self"] []) (CO : CallsOk P w K mg base C) :
    FnOk P w K mg base CX0 8 f fd ["calls"] (spAns K) := by
  obtain ⟨aD, oD, es, ep, mD, lkD, exD, dtD, koD, ent⟩ := CO.ex
  refine F.ok scAns (fun vs H Q E h => ?_) (fun cdv A outer st H vs Q E hr h => ?_)
  · obtain ⟨a, ns, rfl, _⟩ := h
    rfl
  · obtain ⟨a, ns, rfl, hS, hlen, hask, hO, k⟩ := h
    have hr4 : Room (3 + 1) _ := hr.mono (by decide)
    refine ⟨_, pss_cons (ps_set (i := 1) scAns.nd rfl (Or.inl rfl) (pe_make0 M I hr4 rfl T.mgC bI .nil pass0))
      (pss_cons (ps_set (i := 2) scAns.nd rfl (Or.inl rfl) (pe_lst pa_nil))
      (pss_cons (ps_set (i := 3) scAns.nd rfl (Or.inl rfl) pe_int)
      (pss_cons (ps_while PassesOwn.never (pt_cmpR op_lt (pv 3) (pe_callB call_len_seq (by rfl) B.len PySem.boot_len (pa_cons (pv 0) pa_nil)) (nomark _))
        (pss_cons (ps_set (i := 4) scAns.nd rfl (Or.inl rfl) (pe_kget rfl mD lkD exD dtD koD (pe_ix ix_list (pv 0) (pv 3) (fun _ _ => rfl)) (fun _ _ => rfl)))
        (pss_cons (ps_set (i := 5) scAns.nd rfl (Or.inl rfl) (pe_op op_add (pe_op op_add (pv 3) pe_int) (pe_ix ix_tup (pv 4) pe_int (fun _ _ => rfl))))
        (pss_cons (ps_set (i := 6) scAns.nd rfl (Or.inl rfl) (pe_slice sl_list (pv 0) (po_some (pe_op op_add (pv 3) pe_int)) (po_some (pv 5))))
        (pss_cons (ps_set (i := 7) scAns.nd rfl (Or.inl rfl) (pe_lst pa_nil))
        (pss_cons (ps_if (pt_val (pe_ix ix_tup (pv 4) pe_int (fun _ _ => rfl)))
          (pss_cons (ps_set (i := 8) scAns.nd rfl (Or.inl rfl) (pe_op op_add (pv 5) pe_int))
          (pss_cons (ps_set (i := 5) scAns.nd rfl (Or.inl rfl) (pe_op op_add (pv 8) (pe_ix ix_list (pv 0) (pv 5) (fun _ _ => rfl))))
          (pss_one (ps_set (i := 7) scAns.nd rfl (Or.inl rfl) (pe_slice sl_list (pv 0) (po_some (pv 8)) (po_some (pv 5))))))) pss_nil)
        (pss_cons (ps_set (i := 9) scAns.nd rfl (Or.inl rfl) (pe_ix ix_tup (pv 4) pe_int (fun _ _ => rfl)))
        (pss_cons (ps_set (i := 10) scAns.nd rfl (Or.inl rfl) (pe_lock (pe_callV (pv 9) hr (pa_cons (pv 1) (pa_cons (pv 6) (pa_cons (pv 7) pa_nil))))))
        (pss_cons (ps_expr (pe_bm PySem.F.plainAttrs_list PySem.F.slot_list_append PySem.F.type_list_append mt_append (pv 2) (pa_cons (pe_callB call_len_seq (by rfl) B.len PySem.boot_len (pa_cons (pv 10) pa_nil)) pa_nil)))
        (pss_cons (ps_expr (pe_bm PySem.F.plainAttrs_list PySem.F.slot_list_extend PySem.F.type_list_extend mt_extend (pv 2) (pa_cons (pv 10) pa_nil)))
        (pss_one (ps_set (i := 3) scAns.nd rfl (Or.inl rfl) (pv 5)))))))))))))
      (pss_one (ps_ret (pv 2)))))), ?_⟩
    obtain ⟨cs, ens, hok, hcs, eans⟩ := PM.parse hask
    -- state = State()
    intro x dx nx nd nex
    refine (ex2 x dx ⟨rfl, upd_same, fun H1 aT0 aW0 S1 fT fW kb => ⟨rfl, ?_⟩⟩)
    have s1 : Same H H1 := But.sameNew nx nd kb
    -- given = []; at = 0
    refine ⟨Nat.zero_le _, fun g hg => ?_⟩
    -- while at < len(calls)
    refine ⟨fun m σ H' => ∃ (done rest : List (List (List Int))) (v4 v5 v6 v7 v8 v9 v10 : Option V) (aT aW : Addr), cs = done ++ rest ∧ m = rest.length ∧ σ = [some (.ref a), some (.ref x), some (.ref g), some (.int (((PyFlat.put done).length : Nat) : Int)), v4, v5, v6, v7, v8, v9, v10] ∧ Same H H' ∧ Hid C (2 * done.length) H' g x aT aW (PM.behind Vbecae.start done) ∧ H' g = some (.lst ((PyFlat.told (PyFlat.played Vbecae.step Vbecae.start done)).map V.int)), ⟨_, [], ex10 cs none none none none none none none aT0 aW0 ⟨rfl, rfl, rfl, s1.trans (Same.new hg), Hid.new S1 hg (fun b hb => upd_ne hb), upd_same⟩⟩, ?_⟩



    rintro m σ H' ⟨done, rest, v4, v5, v6, v7, v8, v9, v10, aT, aW, ecs, rfl, rfl, sH, S, hG⟩
    have hS' : SqL K H' a (ns.map V.int) := sH.seq hS
    refine (r_one rfl (r_one rfl (ex2 a _ ⟨rfl, .inl hS', r_two rfl rfl (r_one rfl ?_)⟩)))
    have eput : ns = PyFlat.put done ++ PyFlat.put rest := by rw [ens, ecs, PM.put_append]
    refine ite2 (fun hc => ?_) (fun hc => ?_)
    · have hc := of_decide_eq_true hc
      rw [List.length_map] at hc
      obtain ⟨c, rest', rfl⟩ : ∃ c rest', rest = c :: rest' := by
        cases rest with
        | nil =>
          rw [show PyFlat.put ([] : List (List (List Int))) = [] from rfl, List.append_nil] at eput
          rw [eput] at hc
          omega
        | cons c r => exact ⟨c, r, rfl⟩
      obtain ⟨code, nums, xs, ec, hsh⟩ := hok c (by rw [ecs]; simp)
      obtain ⟨hk1, t, ff, fdd, hfind, hT, FF, kF, bF⟩ := ent code nums.length xs.length hsh
      have hdl : (done ++ c :: rest').length ≤ 400 := by rw [← ecs]; exact hcs
      rw [List.length_append, List.length_cons] at hdl
      have sok : PM.SOk (PM.behind Vbecae.start done) := PM.behind_ok done PM.start_ok
      have hgl := PM.told_len done PM.start_ok
      have hal := PM.step_len sok c
      have estep : PM.behind Vbecae.start (done ++ [c]) = (Vbecae.step (PM.behind Vbecae.start done) c).1 := PM.behind_snoc c done Vbecae.start
      have etold : PyFlat.told (PyFlat.played Vbecae.step Vbecae.start (done ++ [c])) = PyFlat.told (PyFlat.played Vbecae.step Vbecae.start done) ++ (((Vbecae.step (PM.behind Vbecae.start done) c).2.length : Int) :: (Vbecae.step (PM.behind Vbecae.start done) c).2) := by
        rw [PM.played_snoc, PM.told_snoc]
      have hsl : ∀ n : Nat, n ≤ 1000000 → n ≤ sizeLine := fun n hn => Nat.le_trans hn (by decide)
      -- the body
      refine ⟨fun σ' G => ∃ (v4 v5 v6 v7 v8 v9 v10 : Option V) (aT' aW' : Addr), σ' = [some (.ref a), some (.ref x), some (.ref g), some (.int (((PyFlat.put (done ++ [c])).length : Nat) : Int)), v4, v5, v6, v7, v8, v9, v10] ∧ Same H G ∧ Hid C (2 * (done ++ [c]).length) G g x aT' aW' (PM.behind Vbecae.start (done ++ [c])) ∧
        G g = some (.lst ((PyFlat.told (PyFlat.played Vbecae.step Vbecae.start (done ++ [c]))).map V.int)), ?_, ?_⟩
      · rintro σ' G ⟨w4, w5, w6, w7, w8, w9, w10, aT', aW', e1, e2, e3, e4⟩
        exact ⟨rest'.length, by rw [List.length_cons]; omega, done ++ [c], rest', w4, w5, w6, w7, w8, w9, w10, aT', aW', by rw [ecs, List.append_assoc]; rfl, rfl, e1, e2, e3, e4⟩
      obtain ⟨⟨ngp, ngT, ngW⟩, ⟨Dx, dx2, fs2, hp'⟩, ⟨xsT, hT'⟩, ⟨xsW, hW'⟩⟩ := S.ne
      -- behind the call
      have after : ∀ (G HL H3 : Hp) (aT' aW' q : Addr) (od : Obj) (v : List V), v = (PyFlat.told (PyFlat.played Vbecae.step Vbecae.start done)).map V.int → Same H G → HL = upd G g (.frz od (.lst v)) → Same H' G →
          StateAt C (2 * done.length + 2) H3 x aT' aW' (Vbecae.step (PM.behind Vbecae.start done) c).1 → Fr HL x aT aW H3 aT' aW' →
          H3 g = some (.frz od (.lst v)) ∧ Same H (upd H3 g (.lst v)) ∧ ∀ G2 : Hp, (∀ b, b ≠ g → G2 b = H3 b) → Hid C (2 * (done ++ [c]).length) G2 g x aT' aW' (PM.behind Vbecae.start (done ++ [c])) := by
        intro G HL H3 aT' aW' q od v ev sG eHL sG' S3 fr
        subst eHL
        have h3g := (fr g _ upd_same ngp ngT ngW (fun _ z => nomatch z)).1
        refine ⟨h3g, fun b o e => ?_, fun G2 hG2 => ?_⟩
        · have nO := hO b o e
          have eb : G b = some o := sG _ _ e
          have n1 : b ≠ g := fun z => by
            rw [z, sG' _ _ hG] at eb
            rw [← Option.some.inj eb] at nO
            exact nO trivial
          have n2 : b ≠ x := fun z => by
            rw [z, sG' _ _ hp'] at eb
            rw [← Option.some.inj eb] at nO
            exact nO trivial
          have n3 : b ≠ aT := fun z => by
            rw [z, sG' _ _ hT'] at eb
            rw [← Option.some.inj eb] at nO
            exact nO trivial
          have n4 : b ≠ aW := fun z => by
            rw [z, sG' _ _ hW'] at eb
            rw [← Option.some.inj eb] at nO
            exact nO trivial
          have h5 := (fr b o ((upd_ne n1).trans eb) n2 n3 n4 (fun φ z => by
            rw [z] at nO
            exact nO trivial)).1
          rw [upd_ne n1]
          exact h5
        · rw [estep, List.length_append]
          exact Hid.of S3 h3g (fun z => z) hG2
      cases xs with
      | nil =>
        have e0 : ns = PyFlat.put done ++ (code :: (nums ++ PyFlat.put rest')) := by
          rw [eput, ec]
          show PyFlat.put done ++ (((code :: nums) ++ []) ++ PyFlat.put rest') = _
          rw [List.append_nil]
          rfl
        have e1 : ns = (PyFlat.put done ++ [code]) ++ (nums ++ PyFlat.put rest') := by rw [e0, List.append_assoc]; rfl
        have ein : atI (ns.map V.int) (((PyFlat.put done).length : Nat) : Int) = some (.int code) := by rw [e0]; exact atI_nat (get_mid _ _ _)
        have ecut : cutV (ns.map V.int) (some ((((PyFlat.put done).length : Nat) : Int) + 1)) (some ((((PyFlat.put done).length : Nat) : Int) + 1 + ((nums.length : Nat) : Int))) = nums.map V.int := by
          rw [e1]
          exact cut_mid (by rw [List.length_append]; rfl) (by rw [List.length_append]; rfl)
        have efin : (((PyFlat.put done).length : Nat) : Int) + 1 + ((nums.length : Nat) : Int) = (((PyFlat.put (done ++ [c])).length : Nat) : Int) := by
          rw [PM.put_append, ec]
          show _ = (((PyFlat.put done ++ (((code :: nums) ++ []) ++ [])).length : Nat) : Int)
          rw [List.append_nil, List.append_nil, List.length_append, List.length_cons]
          omega
        refine (r_one rfl (r_one rfl (r_ixL hS' ein (ex2 code t ⟨rfl, hfind, ?_⟩))))
        refine (r_one rfl (r_two rfl rfl (r_one rfl (r_ixT (hT _) (at_of (j := 0) rfl rfl) (r_two rfl rfl ?_)))))
        refine (r_one rfl (r_one rfl (r_two rfl rfl (r_one rfl (r_one rfl (r_one rfl (ex2 a _ ⟨rfl, hS', fun aN hN => ?_⟩)))))))
        rw [ecut]
        have sN : Same H' (upd H' aN (.lst (nums.map V.int))) := Same.new hN
        have dN : (upd H' aN (.lst (nums.map V.int))) aN = some (.lst (nums.map V.int)) := upd_same
        generalize upd H' aN (.lst (nums.map V.int)) = HN at sN dN
        refine ⟨Nat.zero_le _, fun aR hR => ?_⟩
        have sR : Same H' (upd HN aR (.lst [])) := sN.trans (Same.new hR)
        have nNR : aN ≠ aR := ne_of_none dN hR
        have dN2 : (upd HN aR (.lst [])) aN = some (.lst (nums.map V.int)) := (upd_ne nNR).trans dN
        have dR : (upd HN aR (.lst [])) aR = some (.lst (([] : List Int).map V.int)) := upd_same
        have nRT : aR ≠ aT := fun z => by
          rw [z, sN _ _ hT'] at hR
          cases hR
        have nRW : aR ≠ aW := fun z => by
          rw [z, sN _ _ hW'] at hR
          cases hR
        generalize upd HN aR (.lst []) = HR at sR dN2 dR
        refine (r_one rfl (r_ixT (hT _) (at_of (j := 1) rfl rfl) (r_one rfl ?_)))
        refine ite2 (fun hb => absurd (show decide (([] : List (List Int)).length = 1) = true from hb) (by decide)) (fun _ => ?_)
        have sHR : Same H HR := sH.trans sR
        have hGR := sR _ _ hG
        have ngN : aN ≠ g := fun z => by
          rw [z, hG] at hN
          cases hN
        have ngR : aR ≠ g := fun z => by
          rw [z] at hR
          rw [sN _ _ hG] at hR
          cases hR
        -- act = shape[2]
        refine (r_one rfl (r_ixT (hT _) (at_of (j := 2) rfl rfl) ?_))
        -- answer = act(state, numbers, row)
        refine ⟨g, _, hGR, trivial, fun od => ?_⟩
        have SL : StateAt C (2 * done.length) (upd HR g (.frz od (.lst ((PyFlat.told (PyFlat.played Vbecae.step Vbecae.start done)).map V.int)))) x aT aW (PM.behind Vbecae.start done) := (S.same sR).at
        refine ⟨_, rfl, ff, fdd, ["state", "numbers", "row"], spCall C code nums.length (decide (([] : List (List Int)).length = 1)), rfl, FF, kF, bF, _, rfl, _, rfl, _, rfl, 2 * done.length, x, aT, aW, aN, aR, PM.behind Vbecae.start done, nums, ([] : List Int), rfl, SL, sok, (upd_ne ngN).trans dN2, (upd_ne ngR).trans dR, rfl, Nat.zero_le _, nRT, nRW, by omega, ?_⟩
        intro H3 aT' aW' q S3 hq ha fr n1 n2
        have ecall : callOf code (decide (([] : List (List Int)).length = 1)) nums ([] : List Int) = c := by rw [ec]; rfl
        rw [ecall] at S3 ha
        obtain ⟨h3g, sH3, hid⟩ := after HR _ H3 aT' aW' q od _ rfl sHR rfl sR S3 fr
        have nqg : q ≠ g := fun z => by
          rw [z, upd_same] at hq
          cases hq
        refine ⟨h3g, ?_⟩
        have h4q : (upd H3 g (.lst ((PyFlat.told (PyFlat.played Vbecae.step Vbecae.start done)).map V.int))) q = some (.lst ((Vbecae.step (PM.behind Vbecae.start done) c).2.map V.int)) := (upd_ne nqg).trans ha
        have hbig : ((PyFlat.told (PyFlat.played Vbecae.step Vbecae.start done)).map V.int).length + 1001 ≤ 1000000 := by
          rw [List.length_map]
          have : 1001 * done.length ≤ 1001 * 400 := Nat.mul_le_mul_left _ (by omega)
          omega
        -- given.append(len(answer))
        refine (r_one rfl ⟨.inl ⟨rfl, _, SqL.of upd_same⟩, r_one rfl (ex2 q _ ⟨rfl, .inl (SqL.of h4q), ex3 g _ _ ⟨rfl, rfl, upd_same, Nat.lt_of_lt_of_le (Nat.lt_succ_self _) (hsl _ (by omega)), ?_⟩⟩)⟩)
        -- given.extend(answer)
        refine (r_one rfl ⟨.inl ⟨rfl, _, SqL.of upd_same⟩, r_one rfl (ex4 g q _ _ ⟨rfl, rfl, upd_same, (upd_ne nqg).trans h4q, hsl _ (by rw [List.length_append, List.length_map, List.length_map (f := V.int) (as := (Vbecae.step (PM.behind Vbecae.start done) c).2)]; rw [List.length_map] at hbig; show _ + 1 + _ ≤ _; omega), ?_⟩)⟩)
        -- at = behind
        refine (r_one rfl ?_)
        refine ⟨some (.ref t), some (.int ((((PyFlat.put done).length : Nat) : Int) + 1 + ((nums.length : Nat) : Int))), some (.ref aN), some (.ref aR), v8, some (.ref ff), some (.ref q), aT', aW', ?_, ?_, hid _ (fun b hb => by rw [upd_ne hb, upd_ne hb, upd_ne hb]), ?_⟩
        · rw [← efin]
          rfl
        · intro b o e
          have h7 := sH3 b o e
          have nbg : b ≠ g := fun z => by
            rw [z, upd_same] at h7
            have nO := hO b o e
            rw [← Option.some.inj h7] at nO
            exact nO trivial
          rw [upd_ne nbg, upd_ne nbg]
          exact h7
        · rw [upd_same, etold, List.map_append, List.map_cons, List.append_assoc, List.length_map]
          rfl
      | cons x0 xs' =>
        obtain rfl : xs' = [] := by
          cases xs' with
          | nil => rfl
          | cons y ys =>
            rw [List.length_cons, List.length_cons] at hk1
            omega
        have e0 : ns = PyFlat.put done ++ (code :: (nums ++ ((x0.length : Int) :: (x0 ++ PyFlat.put rest')))) := by
          rw [eput, ec]
          show PyFlat.put done ++ (((code :: nums) ++ (((x0.length : Int) :: x0) ++ [])) ++ PyFlat.put rest') = _
          rw [List.append_nil, List.append_assoc]
          rfl
        have e1 : ns = (PyFlat.put done ++ [code]) ++ (nums ++ ((x0.length : Int) :: (x0 ++ PyFlat.put rest'))) := by rw [e0, List.append_assoc]; rfl
        have e2 : ns = (PyFlat.put done ++ [code] ++ nums) ++ ((x0.length : Int) :: (x0 ++ PyFlat.put rest')) := by rw [e1, List.append_assoc (PyFlat.put done ++ [code])]
        have e3 : ns = (PyFlat.put done ++ [code] ++ nums ++ [(x0.length : Int)]) ++ (x0 ++ PyFlat.put rest') := by rw [e2, List.append_assoc (PyFlat.put done ++ [code] ++ nums) [(x0.length : Int)]]; rfl
        have ein : atI (ns.map V.int) (((PyFlat.put done).length : Nat) : Int) = some (.int code) := by rw [e0]; exact atI_nat (get_mid _ _ _)
        have ecut : cutV (ns.map V.int) (some ((((PyFlat.put done).length : Nat) : Int) + 1)) (some ((((PyFlat.put done).length : Nat) : Int) + 1 + ((nums.length : Nat) : Int))) = nums.map V.int := by
          rw [e1]
          exact cut_mid (by rw [List.length_append]; rfl) (by rw [List.length_append]; rfl)
        have elen : atI (ns.map V.int) ((((PyFlat.put done).length : Nat) : Int) + 1 + ((nums.length : Nat) : Int)) = some (.int (x0.length : Int)) := by
          have hm := get_mid (PyFlat.put done ++ [code] ++ nums) (x0.length : Int) (x0 ++ PyFlat.put rest')
          rw [← e2] at hm
          refine at_of (j := (PyFlat.put done ++ [code] ++ nums).length) ?_ hm
          rw [List.length_append, List.length_append]
          rfl
        have ecut2 : cutV (ns.map V.int) (some ((((PyFlat.put done).length : Nat) : Int) + 1 + ((nums.length : Nat) : Int) + 1)) (some ((((PyFlat.put done).length : Nat) : Int) + 1 + ((nums.length : Nat) : Int) + 1 + (x0.length : Int))) = x0.map V.int := by
          rw [e3]
          exact cut_mid (by rw [List.length_append, List.length_append, List.length_append]; rfl) (by rw [List.length_append, List.length_append, List.length_append]; rfl)
        have efin : (((PyFlat.put done).length : Nat) : Int) + 1 + ((nums.length : Nat) : Int) + 1 + (x0.length : Int) = (((PyFlat.put (done ++ [c])).length : Nat) : Int) := by
          rw [PM.put_append, ec]
          show _ = (((PyFlat.put done ++ (((code :: nums) ++ (((x0.length : Int) :: x0) ++ [])) ++ [])).length : Nat) : Int)
          rw [List.append_nil, List.append_nil, List.length_append, List.length_append, List.length_cons, List.length_cons]
          omega
        refine (r_one rfl (r_one rfl (r_ixL hS' ein (ex2 code t ⟨rfl, hfind, ?_⟩))))
        refine (r_one rfl (r_two rfl rfl (r_one rfl (r_ixT (hT _) (at_of (j := 0) rfl rfl) (r_two rfl rfl ?_)))))
        refine (r_one rfl (r_one rfl (r_two rfl rfl (r_one rfl (r_one rfl (r_one rfl (ex2 a _ ⟨rfl, hS', fun aN hN => ?_⟩)))))))
        rw [ecut]
        have sN : Same H' (upd H' aN (.lst (nums.map V.int))) := Same.new hN
        have dN : (upd H' aN (.lst (nums.map V.int))) aN = some (.lst (nums.map V.int)) := upd_same
        generalize upd H' aN (.lst (nums.map V.int)) = HN at sN dN
        refine ⟨Nat.zero_le _, fun aE hE => ?_⟩
        have sE : Same H' (upd HN aE (.lst [])) := sN.trans (Same.new hE)
        have dE : (upd HN aE (.lst [])) aN = some (.lst (nums.map V.int)) := (upd_ne (ne_of_none dN hE)).trans dN
        generalize upd HN aE (.lst []) = HE at sE dE
        refine (r_one rfl (r_ixT (hT _) (at_of (j := 1) rfl rfl) (r_one rfl ?_)))
        refine ite2 (fun _ => ?_) (fun hb => absurd (show decide ([x0].length = 1) = true from rfl) hb)
        -- start, behind, row
        refine (r_one rfl (r_two rfl rfl ?_))
        refine (r_one rfl (r_one rfl (r_one rfl (r_ixL (sE.seq hS') elen (r_two rfl rfl ?_)))))
        refine (r_one rfl (r_one rfl (r_one rfl (r_one rfl (r_one rfl (ex2 a _ ⟨rfl, sE.seq hS', fun aR hR => ?_⟩))))))
        rw [ecut2]
        have sR : Same H' (upd HE aR (.lst (x0.map V.int))) := sE.trans (Same.new hR)
        have nNR : aN ≠ aR := ne_of_none dE hR
        have dN2 : (upd HE aR (.lst (x0.map V.int))) aN = some (.lst (nums.map V.int)) := (upd_ne nNR).trans dE
        have dR : (upd HE aR (.lst (x0.map V.int))) aR = some (.lst (x0.map V.int)) := upd_same
        have nRT : aR ≠ aT := fun z => by
          rw [z, sE _ _ hT'] at hR
          cases hR
        have nRW : aR ≠ aW := fun z => by
          rw [z, sE _ _ hW'] at hR
          cases hR
        generalize upd HE aR (.lst (x0.map V.int)) = HR at sR dN2 dR
        have hx0 : x0.length ≤ 16000 := by
          have hl3 := congrArg List.length e3
          rw [List.length_append, List.length_append (as := x0)] at hl3
          omega
        have sHR : Same H HR := sH.trans sR
        have hGR := sR _ _ hG
        have ngN : aN ≠ g := fun z => by
          rw [z, hG] at hN
          cases hN
        have ngR : aR ≠ g := fun z => by
          rw [z] at hR
          rw [sE _ _ hG] at hR
          cases hR
        -- act = shape[2]
        refine (r_one rfl (r_ixT (hT _) (at_of (j := 2) rfl rfl) ?_))
        -- answer = act(state, numbers, row)
        refine ⟨g, _, hGR, trivial, fun od => ?_⟩
        have SL : StateAt C (2 * done.length) (upd HR g (.frz od (.lst ((PyFlat.told (PyFlat.played Vbecae.step Vbecae.start done)).map V.int)))) x aT aW (PM.behind Vbecae.start done) := (S.same sR).at
        refine ⟨_, rfl, ff, fdd, ["state", "numbers", "row"], spCall C code nums.length (decide ([x0].length = 1)), rfl, FF, kF, bF, _, rfl, _, rfl, _, rfl, 2 * done.length, x, aT, aW, aN, aR, PM.behind Vbecae.start done, nums, x0, rfl, SL, sok, (upd_ne ngN).trans dN2, (upd_ne ngR).trans dR, rfl, (by omega), nRT, nRW, by omega, ?_⟩
        intro H3 aT' aW' q S3 hq ha fr n1 n2
        have ecall : callOf code (decide ([x0].length = 1)) nums x0 = c := by rw [ec]; rfl
        rw [ecall] at S3 ha
        obtain ⟨h3g, sH3, hid⟩ := after HR _ H3 aT' aW' q od _ rfl sHR rfl sR S3 fr
        have nqg : q ≠ g := fun z => by
          rw [z, upd_same] at hq
          cases hq
        refine ⟨h3g, ?_⟩
        have h4q : (upd H3 g (.lst ((PyFlat.told (PyFlat.played Vbecae.step Vbecae.start done)).map V.int))) q = some (.lst ((Vbecae.step (PM.behind Vbecae.start done) c).2.map V.int)) := (upd_ne nqg).trans ha
        have hbig : ((PyFlat.told (PyFlat.played Vbecae.step Vbecae.start done)).map V.int).length + 1001 ≤ 1000000 := by
          rw [List.length_map]
          have : 1001 * done.length ≤ 1001 * 400 := Nat.mul_le_mul_left _ (by omega)
          omega
        -- given.append(len(answer))
        refine (r_one rfl ⟨.inl ⟨rfl, _, SqL.of upd_same⟩, r_one rfl (ex2 q _ ⟨rfl, .inl (SqL.of h4q), ex3 g _ _ ⟨rfl, rfl, upd_same, Nat.lt_of_lt_of_le (Nat.lt_succ_self _) (hsl _ (by omega)), ?_⟩⟩)⟩)
        -- given.extend(answer)
        refine (r_one rfl ⟨.inl ⟨rfl, _, SqL.of upd_same⟩, r_one rfl (ex4 g q _ _ ⟨rfl, rfl, upd_same, (upd_ne nqg).trans h4q, hsl _ (by rw [List.length_append, List.length_map, List.length_map (f := V.int) (as := (Vbecae.step (PM.behind Vbecae.start done) c).2)]; rw [List.length_map] at hbig; show _ + 1 + _ ≤ _; omega), ?_⟩)⟩)
        -- at = behind
        refine (r_one rfl ?_)
        refine ⟨some (.ref t), some (.int ((((PyFlat.put done).length : Nat) : Int) + 1 + ((nums.length : Nat) : Int) + 1 + (x0.length : Int))), some (.ref aN), some (.ref aR), some (.int ((((PyFlat.put done).length : Nat) : Int) + 1 + ((nums.length : Nat) : Int) + 1)), some (.ref ff), some (.ref q), aT', aW', ?_, ?_, hid _ (fun b hb => by rw [upd_ne hb, upd_ne hb, upd_ne hb]), ?_⟩
        · rw [← efin]
          rfl
        · intro b o e
          have h7 := sH3 b o e
          have nbg : b ≠ g := fun z => by
            rw [z, upd_same] at h7
            have nO := hO b o e
            rw [← Option.some.inj h7] at nO
            exact nO trivial
          rw [upd_ne nbg, upd_ne nbg]
          exact h7
        · rw [upd_same, etold, List.map_append, List.map_cons, List.append_assoc, List.length_map]
          rfl
    · have hc : ¬ (((PyFlat.put done).length : Nat) : Int) < ((ns.length : Nat) : Int) := fun z => hc (decide_eq_true (by rw [List.length_map]; exact z))
      have er : rest = [] := by
        cases rest with
        | nil => rfl
        | cons c r =>
          obtain ⟨code, nums, xs, ec, hsh⟩ := hok c (by rw [ecs]; simp)
          have e2 : PyFlat.put (c :: r) = PyFlat.put1 c ++ PyFlat.put r := rfl
          rw [eput, List.length_append, e2, List.length_append, ec] at hc
          have e3 : PyFlat.put1 ((code :: nums) :: xs) = (code :: nums) ++ PyFlat.putRows xs := rfl
          rw [e3, List.length_append, List.length_cons] at hc
          omega
      subst er
      rw [List.append_nil] at ecs
      subst ecs
      refine (r_one rfl ?_)
      refine k H' g ?_
      rw [hG, eans]
      rfl
end
end PD
end
section
set_option Elab.async false
set_option linter.all false
set_option maxRecDepth 100000
set_option maxHeartbeats 4000000
namespace PD
open PySem PySem.Spec PyProof.Rows L2
/-- a def of the text, as it stands behind the top -/
structure Def (K : PySem.W.Frag) (mg : Str → Option Value) (x : Str) (st : Stmt) (ps : List Str) : Prop where
  ex : ∃ (f : Addr) (fd : FuncData), Fun K x x st f fd ∧ mg x = some (.ref f) ∧ Binds K fd ps []
theorem def_mk {K : PySem.W.Frag} {h : Heap} {mg : Str → Option Value} (X : K.In h) (G : h.Ns mainGlobals mg) (x : Str) (st : Stmt) (ps : List Str) {f : Addr} {oc : Value} {od an : Option Addr} {osl : Array (Option Value)} {kV doc pm cdv ct : Value}
    (b : ∀ (kV doc pm : Value) (an : Option Addr) (cdv ct : Value) (us : List Value), us.length = ps.length → bindArgs (PySem.W.fnOf x x (defArgs st) (defBody st) (defScope st) .none kV doc pm an cdv ct) ⟨us, []⟩ = pure (ps.zip us))
    (a : PySem.W.nsIn K mainGlobals x = some (some (.ref f))) (l : K.lookup f = some ⟨oc, od, .func (PySem.W.fnOf x x (defArgs st) (defBody st) (defScope st) .none kV doc pm an cdv ct), osl⟩)
    (c : PySem.W.codeIn K cdv x = true) (k : PySem.W.keepIn K (.ref f) = true) : Def K mg x st ps := ⟨_, _, fun_mk l c k, PySem.W.mg_of X G a, (fun_mk l c k).binds b⟩
structure Met (K : PySem.W.Frag) (C : Addr) (x qual : Str) (st : Stmt) (ps : List Str) : Prop where
  ex : ∃ (f : Addr) (fd : FuncData), Fun K x qual st f fd ∧ Meth K C x f ∧ Binds K fd ps []
theorem met_mk {K : PySem.W.Frag} {C : Addr} (x qual : Str) (st : Stmt) (ps : List Str) {f : Addr} {oc : Value} {od an : Option Addr} {osl : Array (Option Value)} {kV doc pm cdv ct : Value}
    (b : ∀ (kV doc pm : Value) (an : Option Addr) (cdv ct : Value) (us : List Value), us.length = ps.length → bindArgs (PySem.W.fnOf x qual (defArgs st) (defBody st) (defScope st) .none kV doc pm an cdv ct) ⟨us, []⟩ = pure (ps.zip us))
    (a : PySem.W.findIn K (.ref C) x = some (some (.ref f))) (i : PySem.W.isFn K (.ref f) = true) (l : K.lookup f = some ⟨oc, od, .func (PySem.W.fnOf x qual (defArgs st) (defBody st) (defScope st) .none kV doc pm an cdv ct), osl⟩)
    (c : PySem.W.codeIn K cdv qual = true) (k : PySem.W.keepIn K (.ref f) = true) : Met K C x qual st ps := ⟨_, _, fun_mk l c k, ⟨a, i, k⟩, (fun_mk l c k).binds b⟩
theorem no_mk {K : PySem.W.Frag} {h : Heap} {mg : Str → Option Value} (X : K.In h) (G : h.Ns mainGlobals mg) (x : Str) (a : PySem.W.nsIn K mainGlobals x = some none) : mg x = none := PySem.W.mg_none_of X G a
theorem ans_binds {K : PySem.W.Frag} {f : Addr} {fd : FuncData} (F : Fun K "answers" "answers" sAns f fd) : ∀ (s : Shared) (us : List Value), us.length = (["calls"] : List Str).length → BindsTo s fd ⟨us, []⟩ ((["calls"] : List Str).zip us) := by
  obtain ⟨oc, od, kV, doc, pm, an, cdv, ct, osl, rfl, lk, hcd⟩ := F.ex
  exact fun s us hu => match us, hu with | [_], _ => .of_eq rfl
theorem int_mk {K : PySem.W.Frag} {h : Heap} {mg : Str → Option Value} (X : K.In h) (G : h.Ns mainGlobals mg) (x : Str) (i : Int) {t : Tok} (a : PySem.W.nsIn K mainGlobals x = some (some (.int i t))) : ∃ t, mg x = some (.int i t) := ⟨t, PySem.W.mg_of X G a⟩

theorem state_mk {K : PySem.W.Frag} {h : Heap} {mg : Str → Option Value} (X : K.In h) (G : h.Ns mainGlobals mg) {C : Addr} (aC : PySem.W.nsIn K mainGlobals "State" = some (some (.ref C)))
    (pg : PySem.W.plainGet K C Str.empty = true) (hd : PySem.W.hasDictIn K C = true) (po : PySem.W.plainOver K C = true) (sa : PySem.W.findIn K (.ref C) "__setattr__" = some (some (.builtin "object.__setattr__"))) (mk : PySem.W.makesIn K C = true) (kc : PySem.W.keepIn K (.ref C) = true)
    (n0 : PySem.W.findIn K (.ref C) "known" = some none) (n1 : PySem.W.findIn K (.ref C) "w" = some none) (n2 : PySem.W.findIn K (.ref C) "h" = some none) (n3 : PySem.W.findIn K (.ref C) "most" = some none) (n4 : PySem.W.findIn K (.ref C) "p" = some none) (n5 : PySem.W.findIn K (.ref C) "around" = some none) (n6 : PySem.W.findIn K (.ref C) "tables" = some none) (n7 : PySem.W.findIn K (.ref C) "wants" = some none) (n8 : PySem.W.findIn K (.ref C) "cells" = some none) (n9 : PySem.W.findIn K (.ref C) "season" = some none) (n10 : PySem.W.findIn K (.ref C) "first" = some none) (n11 : PySem.W.findIn K (.ref C) "grown" = some none) (n12 : PySem.W.findIn K (.ref C) "died" = some none) (n13 : PySem.W.findIn K (.ref C) "grazed" = some none)
    (m0 : Met K C "__init__" "State.__init__" sInit ["self"]) (m1 : Met K C "new_pond" "State.new_pond" sNew ["self", "w", "h", "most", "p"]) (m2 : Met K C "begin_anew" "State.begin_anew" sAnew ["self"]) (m3 : Met K C "move" "State.move" sMove ["self", "dx", "dy"]) (m4 : Met K C "turn" "State.turn" sTurn ["self"]) :
    ∃ C, Txt K mg C ∧ PySem.W.makesIn K C = true ∧ PySem.W.keepIn K (.ref C) = true ∧ Met K C "__init__" "State.__init__" sInit ["self"] ∧ Met K C "new_pond" "State.new_pond" sNew ["self", "w", "h", "most", "p"] ∧ Met K C "begin_anew" "State.begin_anew" sAnew ["self"] ∧ Met K C "move" "State.move" sMove ["self", "dx", "dy"] ∧ Met K C "turn" "State.turn" sTurn ["self"] :=
  ⟨C, ⟨⟨pg, hd, po, sa⟩, n0, n1, n2, n3, n4, n5, n6, n7, n8, n9, n10, n11, n12, n13, PySem.W.mg_of X G aC⟩, mk, kc, m0, m1, m2, m3, m4⟩

theorem course_mk {K : PySem.W.Frag} {h : Heap} {mg : Str → Option Value} (X : K.In h) (G : h.Ns mainGlobals mg) {C : Addr} (aC : PySem.W.nsIn K mainGlobals "Course" = some (some (.ref C)))
    (pg : PySem.W.plainGet K C Str.empty = true) (hd : PySem.W.hasDictIn K C = true) (po : PySem.W.plainOver K C = true) (sa : PySem.W.findIn K (.ref C) "__setattr__" = some (some (.builtin "object.__setattr__"))) (mk : PySem.W.makesIn K C = true) (kc : PySem.W.keepIn K (.ref C) = true)
    (n0 : PySem.W.findIn K (.ref C) "passed" = some none) (n1 : PySem.W.findIn K (.ref C) "tail" = some none)
    (m0 : Met K C "__init__" "Course.__init__" sCrI ["self", "state", "bound"]) (m1 : Met K C "follow" "Course.follow" sFol ["self", "state", "bound"]) (m2 : Met K C "turns_of_round" "Course.turns_of_round" sTor ["self"]) (m3 : Met K C "cells_at" "Course.cells_at" sCat ["self", "n"]) :
    ∃ C, Txt2 K mg C ∧ PySem.W.makesIn K C = true ∧ PySem.W.keepIn K (.ref C) = true ∧ Met K C "__init__" "Course.__init__" sCrI ["self", "state", "bound"] ∧ Met K C "follow" "Course.follow" sFol ["self", "state", "bound"] ∧ Met K C "turns_of_round" "Course.turns_of_round" sTor ["self"] ∧ Met K C "cells_at" "Course.cells_at" sCat ["self", "n"] :=
  ⟨C, ⟨⟨pg, hd, po, sa⟩, n0, n1, PySem.W.mg_of X G aC⟩, mk, kc, m0, m1, m2, m3⟩

/-- the table of the calls -/
structure Table (K : PySem.W.Frag) (mg : Str → Option Value) : Prop where
  ex : ∃ (aD : Addr) (o : Obj) (es : Array DictEntry) (ep : Nat), mg "CALLS" = some (.ref aD) ∧ K.lookup aD = some o ∧ o.ExactDict ∧ o.data = .dict es ep ∧ (∀ (P : Program) (w : World), KeysOf (intKind P w) es) ∧
    (∃ t f : Addr, findBy Value.isInt es 0 = some (.ref t) ∧ (∀ H, SqT K H t [.int ((4 : Nat) : Int), .bl (decide ((0 : Nat) = 1)), .ref f]) ∧ mg "call_pond" = some (.ref f)) ∧
    (∃ t f : Addr, findBy Value.isInt es 1 = some (.ref t) ∧ (∀ H, SqT K H t [.int ((1 : Nat) : Int), .bl (decide ((1 : Nat) = 1)), .ref f]) ∧ mg "call_table" = some (.ref f)) ∧
    (∃ t f : Addr, findBy Value.isInt es 2 = some (.ref t) ∧ (∀ H, SqT K H t [.int ((1 : Nat) : Int), .bl (decide ((1 : Nat) = 1)), .ref f]) ∧ mg "call_graze" = some (.ref f)) ∧
    (∃ t f : Addr, findBy Value.isInt es 3 = some (.ref t) ∧ (∀ H, SqT K H t [.int ((0 : Nat) : Int), .bl (decide ((1 : Nat) = 1)), .ref f]) ∧ mg "call_set" = some (.ref f)) ∧
    (∃ t f : Addr, findBy Value.isInt es 4 = some (.ref t) ∧ (∀ H, SqT K H t [.int ((0 : Nat) : Int), .bl (decide ((0 : Nat) = 1)), .ref f]) ∧ mg "call_told" = some (.ref f)) ∧
    (∃ t f : Addr, findBy Value.isInt es 5 = some (.ref t) ∧ (∀ H, SqT K H t [.int ((2 : Nat) : Int), .bl (decide ((0 : Nat) = 1)), .ref f]) ∧ mg "call_get" = some (.ref f)) ∧
    (∃ t f : Addr, findBy Value.isInt es 6 = some (.ref t) ∧ (∀ H, SqT K H t [.int ((0 : Nat) : Int), .bl (decide ((0 : Nat) = 1)), .ref f]) ∧ mg "call_cells" = some (.ref f)) ∧
    (∃ t f : Addr, findBy Value.isInt es 7 = some (.ref t) ∧ (∀ H, SqT K H t [.int ((1 : Nat) : Int), .bl (decide ((0 : Nat) = 1)), .ref f]) ∧ mg "call_turns" = some (.ref f)) ∧
    (∃ t f : Addr, findBy Value.isInt es 8 = some (.ref t) ∧ (∀ H, SqT K H t [.int ((0 : Nat) : Int), .bl (decide ((0 : Nat) = 1)), .ref f]) ∧ mg "call_book" = some (.ref f)) ∧
    (∃ t f : Addr, findBy Value.isInt es 9 = some (.ref t) ∧ (∀ H, SqT K H t [.int ((1 : Nat) : Int), .bl (decide ((0 : Nat) = 1)), .ref f]) ∧ mg "call_far" = some (.ref f)) ∧
    (∃ t f : Addr, findBy Value.isInt es 10 = some (.ref t) ∧ (∀ H, SqT K H t [.int ((0 : Nat) : Int), .bl (decide ((0 : Nat) = 1)), .ref f]) ∧ mg "call_round" = some (.ref f)) ∧
    (∃ t f : Addr, findBy Value.isInt es 11 = some (.ref t) ∧ (∀ H, SqT K H t [.int ((0 : Nat) : Int), .bl (decide ((0 : Nat) = 1)), .ref f]) ∧ mg "call_greatest" = some (.ref f)) ∧
    (∃ t f : Addr, findBy Value.isInt es 12 = some (.ref t) ∧ (∀ H, SqT K H t [.int ((0 : Nat) : Int), .bl (decide ((0 : Nat) = 1)), .ref f]) ∧ mg "call_least" = some (.ref f)) ∧
    (∃ t f : Addr, findBy Value.isInt es 13 = some (.ref t) ∧ (∀ H, SqT K H t [.int ((0 : Nat) : Int), .bl (decide ((0 : Nat) = 1)), .ref f]) ∧ mg "call_one" = some (.ref f)) ∧
    (∃ t f : Addr, findBy Value.isInt es 14 = some (.ref t) ∧ (∀ H, SqT K H t [.int ((0 : Nat) : Int), .bl (decide ((1 : Nat) = 1)), .ref f]) ∧ mg "call_below" = some (.ref f)) ∧
    (∃ t f : Addr, findBy Value.isInt es 15 = some (.ref t) ∧ (∀ H, SqT K H t [.int ((2 : Nat) : Int), .bl (decide ((0 : Nat) = 1)), .ref f]) ∧ mg "call_move" = some (.ref f)) ∧
    (∃ t f : Addr, findBy Value.isInt es 16 = some (.ref t) ∧ (∀ H, SqT K H t [.int ((0 : Nat) : Int), .bl (decide ((1 : Nat) = 1)), .ref f]) ∧ mg "call_yield_of" = some (.ref f))

theorem table_mk {K : PySem.W.Frag} {h : Heap} {mg : Str → Option Value} (X : K.In h) (G : h.Ns mainGlobals mg) {aD : Addr} {ep : Nat} {u0 f0 u1 f1 u2 f2 u3 f3 u4 f4 u5 f5 u6 f6 u7 f7 u8 f8 u9 f9 u10 f10 u11 f11 u12 f12 u13 f13 u14 f14 u15 f15 u16 f16 : Addr} {k0 t0 k1 t1 k2 t2 k3 t3 k4 t4 k5 t5 k6 t6 k7 t7 k8 t8 k9 t9 k10 t10 k11 t11 k12 t12 k13 t13 k14 t14 k15 t15 k16 t16 : Tok} {d0 d1 d2 d3 d4 d5 d6 d7 d8 d9 d10 d11 d12 d13 d14 d15 d16 : Option Addr} {z0 z1 z2 z3 z4 z5 z6 z7 z8 z9 z10 z11 z12 z13 z14 z15 z16 : Nat} {s0 s1 s2 s3 s4 s5 s6 s7 s8 s9 s10 s11 s12 s13 s14 s15 s16 : Array (Option Value)}
    (a : PySem.W.nsIn K mainGlobals "CALLS" = some (some (.ref aD)))
    (l : K.lookup aD = some ⟨.type "dict", none, .dict #[⟨0, .int 0 k0, .ref u0⟩, ⟨1, .int 1 k1, .ref u1⟩, ⟨2, .int 2 k2, .ref u2⟩, ⟨3, .int 3 k3, .ref u3⟩, ⟨4, .int 4 k4, .ref u4⟩, ⟨5, .int 5 k5, .ref u5⟩, ⟨6, .int 6 k6, .ref u6⟩, ⟨7, .int 7 k7, .ref u7⟩, ⟨8, .int 8 k8, .ref u8⟩, ⟨9, .int 9 k9, .ref u9⟩, ⟨10, .int 10 k10, .ref u10⟩, ⟨11, .int 11 k11, .ref u11⟩, ⟨12, .int 12 k12, .ref u12⟩, ⟨13, .int 13 k13, .ref u13⟩, ⟨14, .int 14 k14, .ref u14⟩, ⟨15, .int 15 k15, .ref u15⟩, ⟨16, .int 16 k16, .ref u16⟩] ep, #[]⟩)
    (l0 : K.lookup u0 = some ⟨.type "tuple", d0, .seq #[.int 4 t0, .bool false, .ref f0] z0, s0⟩) (a0 : PySem.W.nsIn K mainGlobals "call_pond" = some (some (.ref f0)))
    (l1 : K.lookup u1 = some ⟨.type "tuple", d1, .seq #[.int 1 t1, .bool true, .ref f1] z1, s1⟩) (a1 : PySem.W.nsIn K mainGlobals "call_table" = some (some (.ref f1)))
    (l2 : K.lookup u2 = some ⟨.type "tuple", d2, .seq #[.int 1 t2, .bool true, .ref f2] z2, s2⟩) (a2 : PySem.W.nsIn K mainGlobals "call_graze" = some (some (.ref f2)))
    (l3 : K.lookup u3 = some ⟨.type "tuple", d3, .seq #[.int 0 t3, .bool true, .ref f3] z3, s3⟩) (a3 : PySem.W.nsIn K mainGlobals "call_set" = some (some (.ref f3)))
    (l4 : K.lookup u4 = some ⟨.type "tuple", d4, .seq #[.int 0 t4, .bool false, .ref f4] z4, s4⟩) (a4 : PySem.W.nsIn K mainGlobals "call_told" = some (some (.ref f4)))
    (l5 : K.lookup u5 = some ⟨.type "tuple", d5, .seq #[.int 2 t5, .bool false, .ref f5] z5, s5⟩) (a5 : PySem.W.nsIn K mainGlobals "call_get" = some (some (.ref f5)))
    (l6 : K.lookup u6 = some ⟨.type "tuple", d6, .seq #[.int 0 t6, .bool false, .ref f6] z6, s6⟩) (a6 : PySem.W.nsIn K mainGlobals "call_cells" = some (some (.ref f6)))
    (l7 : K.lookup u7 = some ⟨.type "tuple", d7, .seq #[.int 1 t7, .bool false, .ref f7] z7, s7⟩) (a7 : PySem.W.nsIn K mainGlobals "call_turns" = some (some (.ref f7)))
    (l8 : K.lookup u8 = some ⟨.type "tuple", d8, .seq #[.int 0 t8, .bool false, .ref f8] z8, s8⟩) (a8 : PySem.W.nsIn K mainGlobals "call_book" = some (some (.ref f8)))
    (l9 : K.lookup u9 = some ⟨.type "tuple", d9, .seq #[.int 1 t9, .bool false, .ref f9] z9, s9⟩) (a9 : PySem.W.nsIn K mainGlobals "call_far" = some (some (.ref f9)))
    (l10 : K.lookup u10 = some ⟨.type "tuple", d10, .seq #[.int 0 t10, .bool false, .ref f10] z10, s10⟩) (a10 : PySem.W.nsIn K mainGlobals "call_round" = some (some (.ref f10)))
    (l11 : K.lookup u11 = some ⟨.type "tuple", d11, .seq #[.int 0 t11, .bool false, .ref f11] z11, s11⟩) (a11 : PySem.W.nsIn K mainGlobals "call_greatest" = some (some (.ref f11)))
    (l12 : K.lookup u12 = some ⟨.type "tuple", d12, .seq #[.int 0 t12, .bool false, .ref f12] z12, s12⟩) (a12 : PySem.W.nsIn K mainGlobals "call_least" = some (some (.ref f12)))
    (l13 : K.lookup u13 = some ⟨.type "tuple", d13, .seq #[.int 0 t13, .bool false, .ref f13] z13, s13⟩) (a13 : PySem.W.nsIn K mainGlobals "call_one" = some (some (.ref f13)))
    (l14 : K.lookup u14 = some ⟨.type "tuple", d14, .seq #[.int 0 t14, .bool true, .ref f14] z14, s14⟩) (a14 : PySem.W.nsIn K mainGlobals "call_below" = some (some (.ref f14)))
    (l15 : K.lookup u15 = some ⟨.type "tuple", d15, .seq #[.int 2 t15, .bool false, .ref f15] z15, s15⟩) (a15 : PySem.W.nsIn K mainGlobals "call_move" = some (some (.ref f15)))
    (l16 : K.lookup u16 = some ⟨.type "tuple", d16, .seq #[.int 0 t16, .bool true, .ref f16] z16, s16⟩) (a16 : PySem.W.nsIn K mainGlobals "call_yield_of" = some (some (.ref f16)))
    : Table K mg := by
  have tup : ∀ {u f : Addr} {n : Int} {b : Bool} {t : Tok} {d : Option Addr} {z : Nat} {s : Array (Option Value)}, K.lookup u = some ⟨.type "tuple", d, .seq #[.int n t, .bool b, .ref f] z, s⟩ → ∀ H, SqT K H u [.int n, .bl b, .ref f] := fun e H =>
    .inr ⟨_, _, _, e, rfl, rfl, (by show 3 ≤ sizeLine; decide), .cons ⟨_, rfl⟩ (.cons rfl (.cons rfl .nil))⟩
  refine ⟨aD, _, _, _, PySem.W.mg_of X G a, l, ⟨rfl, rfl, rfl⟩, rfl, fun P w e he => ?_, ⟨u0, f0, ?_, tup l0, PySem.W.mg_of X G a0⟩, ⟨u1, f1, ?_, tup l1, PySem.W.mg_of X G a1⟩, ⟨u2, f2, ?_, tup l2, PySem.W.mg_of X G a2⟩, ⟨u3, f3, ?_, tup l3, PySem.W.mg_of X G a3⟩, ⟨u4, f4, ?_, tup l4, PySem.W.mg_of X G a4⟩, ⟨u5, f5, ?_, tup l5, PySem.W.mg_of X G a5⟩, ⟨u6, f6, ?_, tup l6, PySem.W.mg_of X G a6⟩, ⟨u7, f7, ?_, tup l7, PySem.W.mg_of X G a7⟩, ⟨u8, f8, ?_, tup l8, PySem.W.mg_of X G a8⟩, ⟨u9, f9, ?_, tup l9, PySem.W.mg_of X G a9⟩, ⟨u10, f10, ?_, tup l10, PySem.W.mg_of X G a10⟩, ⟨u11, f11, ?_, tup l11, PySem.W.mg_of X G a11⟩, ⟨u12, f12, ?_, tup l12, PySem.W.mg_of X G a12⟩, ⟨u13, f13, ?_, tup l13, PySem.W.mg_of X G a13⟩, ⟨u14, f14, ?_, tup l14, PySem.W.mg_of X G a14⟩, ⟨u15, f15, ?_, tup l15, PySem.W.mg_of X G a15⟩, ⟨u16, f16, ?_, tup l16, PySem.W.mg_of X G a16⟩⟩
  · simp only [List.mem_toArray, List.mem_cons, List.not_mem_nil, or_false] at he
    rcases he with rfl | rfl | rfl | rfl | rfl | rfl | rfl | rfl | rfl | rfl | rfl | rfl | rfl | rfl | rfl | rfl | rfl
    · exact ⟨0, by simp [intKind, Value.isInt], by show (0 : Int) = hashInt 0; decide⟩
    · exact ⟨1, by simp [intKind, Value.isInt], by show (1 : Int) = hashInt 1; decide⟩
    · exact ⟨2, by simp [intKind, Value.isInt], by show (2 : Int) = hashInt 2; decide⟩
    · exact ⟨3, by simp [intKind, Value.isInt], by show (3 : Int) = hashInt 3; decide⟩
    · exact ⟨4, by simp [intKind, Value.isInt], by show (4 : Int) = hashInt 4; decide⟩
    · exact ⟨5, by simp [intKind, Value.isInt], by show (5 : Int) = hashInt 5; decide⟩
    · exact ⟨6, by simp [intKind, Value.isInt], by show (6 : Int) = hashInt 6; decide⟩
    · exact ⟨7, by simp [intKind, Value.isInt], by show (7 : Int) = hashInt 7; decide⟩
    · exact ⟨8, by simp [intKind, Value.isInt], by show (8 : Int) = hashInt 8; decide⟩
    · exact ⟨9, by simp [intKind, Value.isInt], by show (9 : Int) = hashInt 9; decide⟩
    · exact ⟨10, by simp [intKind, Value.isInt], by show (10 : Int) = hashInt 10; decide⟩
    · exact ⟨11, by simp [intKind, Value.isInt], by show (11 : Int) = hashInt 11; decide⟩
    · exact ⟨12, by simp [intKind, Value.isInt], by show (12 : Int) = hashInt 12; decide⟩
    · exact ⟨13, by simp [intKind, Value.isInt], by show (13 : Int) = hashInt 13; decide⟩
    · exact ⟨14, by simp [intKind, Value.isInt], by show (14 : Int) = hashInt 14; decide⟩
    · exact ⟨15, by simp [intKind, Value.isInt], by show (15 : Int) = hashInt 15; decide⟩
    · exact ⟨16, by simp [intKind, Value.isInt], by show (16 : Int) = hashInt 16; decide⟩
  · simp [findBy, Value.isInt]
  · simp [findBy, Value.isInt]
  · simp [findBy, Value.isInt]
  · simp [findBy, Value.isInt]
  · simp [findBy, Value.isInt]
  · simp [findBy, Value.isInt]
  · simp [findBy, Value.isInt]
  · simp [findBy, Value.isInt]
  · simp [findBy, Value.isInt]
  · simp [findBy, Value.isInt]
  · simp [findBy, Value.isInt]
  · simp [findBy, Value.isInt]
  · simp [findBy, Value.isInt]
  · simp [findBy, Value.isInt]
  · simp [findBy, Value.isInt]
  · simp [findBy, Value.isInt]
  · simp [findBy, Value.isInt]

def Ent (P : Program) (w : World) (K : PySem.W.Frag) (mg : Str → Option Value) (base : Heap) (C : Addr) (es : Array DictEntry) (q : Int × Nat × Nat) : Prop := q.2.2 ≤ 1 ∧ ∃ (t f : Addr) (fd : FuncData), findBy Value.isInt es q.1 = some (.ref t) ∧ (∀ H, SqT K H t [.int ((q.2.1 : Nat) : Int), .bl (decide (q.2.2 = 1)), .ref f]) ∧
  FnOk P w K mg base CX0 7 f fd ["state", "numbers", "row"] (spCall C q.1 q.2.1 (decide (q.2.2 = 1))) ∧ PySem.W.keepIn K (.ref f) = true ∧ Binds K fd ["state", "numbers", "row"] []
theorem ent_of {P : Program} {w : World} {K : PySem.W.Frag} {mg : Str → Option Value} {base : Heap} {C : Addr} {es : Array DictEntry} {c : Int} {n k : Nat} {x : Str} {g : Addr} {fd : FuncData}
    (E : ∃ t f : Addr, findBy Value.isInt es c = some (.ref t) ∧ (∀ H, SqT K H t [.int ((n : Nat) : Int), .bl (decide (k = 1)), .ref f]) ∧ mg x = some (.ref f)) (m : mg x = some (.ref g))
    (ok : FnOk P w K mg base CX0 7 g fd ["state", "numbers", "row"] (spCall C c n (decide (k = 1)))) (kp : PySem.W.keepIn K (.ref g) = true) (b : Binds K fd ["state", "numbers", "row"] []) (hk : k ≤ 1) : Ent P w K mg base C es (c, n, k) := by
  obtain ⟨t, f, q1, q2, q3⟩ := E
  have ef : f = g := by
    rw [m] at q3
    cases q3
    rfl
  subst ef
  exact ⟨hk, t, f, fd, q1, q2, ok, kp, b⟩
theorem fm {α : Type} {P : α → Prop} {a : α} {l : List α} (h : P a) (t : ∀ q ∈ l, P q) : ∀ q ∈ a :: l, P q := fun q hq => by
  rcases List.mem_cons.mp hq with rfl | e
  · exact h
  · exact t q e

theorem all_ok {P : Program} {w : World} {K : PySem.W.Frag} {mg : Str → Option Value} (B : Bl mg) (Nu : Nums mg)
    (D0 : Def K mg "neighbours" sNeigh ["w", "h"])
    (D1 : Def K mg "moved" sMoved ["row", "w", "dx", "dy"])
    (D2 : Def K mg "grow" sGrow ["cells", "table"])
    (D3 : Def K mg "graze" sGraze ["cells", "wants"])
    (D4 : Def K mg "spread" sSpread ["cells", "around"])
    (D5 : Def K mg "gained" sGained ["before", "after"])
    (D6 : Def K mg "cells_after_turn" sCAT ["state", "wants", "season", "cells"])
    (D7 : Def K mg "cells_after_year" sCAY ["state", "wants", "cells"])
    (D8 : Def K mg "grazed_in_year" sGIY ["state", "wants", "cells"])
    (D9 : Def K mg "settle" sSettle ["state", "wants", "units"])
    (D10 : Def K mg "frozen" sFrozen ["rows"])
    (D11 : Def K mg "settled" sSettled ["state", "wants", "units"])
    (D12 : Def K mg "all_within" sWithin ["numbers", "least", "greatest"])
    (D13 : Def K mg "never_falls" sFalls ["numbers"])
    (D14 : Def K mg "is_season" sIsS ["state", "s"])
    (D15 : Def K mg "fits_cells" sFits ["state", "row", "greatest"])
    (D16 : Def K mg "call_pond" sCPond ["state", "numbers", "row"])
    (D17 : Def K mg "call_table" sCTable ["state", "numbers", "row"])
    (D18 : Def K mg "call_graze" sCGraze ["state", "numbers", "row"])
    (D19 : Def K mg "call_set" sCSet ["state", "numbers", "row"])
    (D20 : Def K mg "call_told" sCTold ["state", "numbers", "row"])
    (D21 : Def K mg "call_get" sCGet ["state", "numbers", "row"])
    (D22 : Def K mg "call_cells" sCCells ["state", "numbers", "row"])
    (D23 : Def K mg "call_turns" sCTurns ["state", "numbers", "row"])
    (D24 : Def K mg "call_book" sCBook ["state", "numbers", "row"])
    (D25 : Def K mg "call_far" sCFar ["state", "numbers", "row"])
    (D26 : Def K mg "call_round" sCRound ["state", "numbers", "row"])
    (D27 : Def K mg "call_greatest" sCGreat ["state", "numbers", "row"])
    (D28 : Def K mg "call_least" sCLeast ["state", "numbers", "row"])
    (D29 : Def K mg "call_one" sCOne ["state", "numbers", "row"])
    (D30 : Def K mg "call_below" sCBelow ["state", "numbers", "row"])
    (D31 : Def K mg "call_move" sCMove ["state", "numbers", "row"])
    (D32 : Def K mg "call_yield_of" sCYield ["state", "numbers", "row"])
    (D33 : Def K mg "years_and_cells" sYAC ["state", "units"])
    (DA : Def K mg "answers" sAns ["calls"])
    (SM : ∃ C, Txt K mg C ∧ PySem.W.makesIn K C = true ∧ PySem.W.keepIn K (.ref C) = true ∧ Met K C "__init__" "State.__init__" sInit ["self"] ∧ Met K C "new_pond" "State.new_pond" sNew ["self", "w", "h", "most", "p"] ∧ Met K C "begin_anew" "State.begin_anew" sAnew ["self"] ∧ Met K C "move" "State.move" sMove ["self", "dx", "dy"] ∧ Met K C "turn" "State.turn" sTurn ["self"])
    (CM : ∃ C, Txt2 K mg C ∧ PySem.W.makesIn K C = true ∧ PySem.W.keepIn K (.ref C) = true ∧ Met K C "__init__" "Course.__init__" sCrI ["self", "state", "bound"] ∧ Met K C "follow" "Course.follow" sFol ["self", "state", "bound"] ∧ Met K C "turns_of_round" "Course.turns_of_round" sTor ["self"] ∧ Met K C "cells_at" "Course.cells_at" sCat ["self", "n"])
    (TB : Table K mg) {fa : Addr} (hfa : mg "answers" = some (.ref fa)) : ∃ fd : FuncData, (∀ (s : Shared) (us : List Value), us.length = (["calls"] : List Str).length → BindsTo s fd ⟨us, []⟩ ((["calls"] : List Str).zip us)) ∧ ∀ base : Heap, K.In base → base.Ns mainGlobals mg → FnOk P w K mg base CX0 8 fa fd ["calls"] (spAns K) := by
  obtain ⟨f_neighbours, d_neighbours, F_neighbours, m_neighbours, b_neighbours⟩ := D0.ex
  obtain ⟨f_moved, d_moved, F_moved, m_moved, b_moved⟩ := D1.ex
  obtain ⟨f_grow, d_grow, F_grow, m_grow, b_grow⟩ := D2.ex
  obtain ⟨f_graze, d_graze, F_graze, m_graze, b_graze⟩ := D3.ex
  obtain ⟨f_spread, d_spread, F_spread, m_spread, b_spread⟩ := D4.ex
  obtain ⟨f_gained, d_gained, F_gained, m_gained, b_gained⟩ := D5.ex
  obtain ⟨f_cells_after_turn, d_cells_after_turn, F_cells_after_turn, m_cells_after_turn, b_cells_after_turn⟩ := D6.ex
  obtain ⟨f_cells_after_year, d_cells_after_year, F_cells_after_year, m_cells_after_year, b_cells_after_year⟩ := D7.ex
  obtain ⟨f_grazed_in_year, d_grazed_in_year, F_grazed_in_year, m_grazed_in_year, b_grazed_in_year⟩ := D8.ex
  obtain ⟨f_settle, d_settle, F_settle, m_settle, b_settle⟩ := D9.ex
  obtain ⟨f_frozen, d_frozen, F_frozen, m_frozen, b_frozen⟩ := D10.ex
  obtain ⟨f_settled, d_settled, F_settled, m_settled, b_settled⟩ := D11.ex
  obtain ⟨f_all_within, d_all_within, F_all_within, m_all_within, b_all_within⟩ := D12.ex
  obtain ⟨f_never_falls, d_never_falls, F_never_falls, m_never_falls, b_never_falls⟩ := D13.ex
  obtain ⟨f_is_season, d_is_season, F_is_season, m_is_season, b_is_season⟩ := D14.ex
  obtain ⟨f_fits_cells, d_fits_cells, F_fits_cells, m_fits_cells, b_fits_cells⟩ := D15.ex
  obtain ⟨f_call_pond, d_call_pond, F_call_pond, m_call_pond, b_call_pond⟩ := D16.ex
  obtain ⟨f_call_table, d_call_table, F_call_table, m_call_table, b_call_table⟩ := D17.ex
  obtain ⟨f_call_graze, d_call_graze, F_call_graze, m_call_graze, b_call_graze⟩ := D18.ex
  obtain ⟨f_call_set, d_call_set, F_call_set, m_call_set, b_call_set⟩ := D19.ex
  obtain ⟨f_call_told, d_call_told, F_call_told, m_call_told, b_call_told⟩ := D20.ex
  obtain ⟨f_call_get, d_call_get, F_call_get, m_call_get, b_call_get⟩ := D21.ex
  obtain ⟨f_call_cells, d_call_cells, F_call_cells, m_call_cells, b_call_cells⟩ := D22.ex
  obtain ⟨f_call_turns, d_call_turns, F_call_turns, m_call_turns, b_call_turns⟩ := D23.ex
  obtain ⟨f_call_book, d_call_book, F_call_book, m_call_book, b_call_book⟩ := D24.ex
  obtain ⟨f_call_far, d_call_far, F_call_far, m_call_far, b_call_far⟩ := D25.ex
  obtain ⟨f_call_round, d_call_round, F_call_round, m_call_round, b_call_round⟩ := D26.ex
  obtain ⟨f_call_greatest, d_call_greatest, F_call_greatest, m_call_greatest, b_call_greatest⟩ := D27.ex
  obtain ⟨f_call_least, d_call_least, F_call_least, m_call_least, b_call_least⟩ := D28.ex
  obtain ⟨f_call_one, d_call_one, F_call_one, m_call_one, b_call_one⟩ := D29.ex
  obtain ⟨f_call_below, d_call_below, F_call_below, m_call_below, b_call_below⟩ := D30.ex
  obtain ⟨f_call_move, d_call_move, F_call_move, m_call_move, b_call_move⟩ := D31.ex
  obtain ⟨f_call_yield_of, d_call_yield_of, F_call_yield_of, m_call_yield_of, b_call_yield_of⟩ := D32.ex
  obtain ⟨f_years_and_cells, d_years_and_cells, F_years_and_cells, m_years_and_cells, b_years_and_cells⟩ := D33.ex
  obtain ⟨f_answers, d_answers, F_answers, m_answers, b_answers⟩ := DA.ex
  have efa : f_answers = fa := by
    rw [m_answers] at hfa
    cases hfa
    rfl
  subst efa
  refine ⟨d_answers, ans_binds F_answers, fun base _ _ => ?_⟩
  obtain ⟨C, T, mkC, kpC, MI, MN, MA, MV, MT⟩ := SM
  obtain ⟨C2, T2, mkC2, kpC2, CI, CF, CT, CC⟩ := CM
  obtain ⟨fMI, dMI, FMI, mMI, bMI⟩ := MI.ex
  obtain ⟨fMN, dMN, FMN, mMN, bMN⟩ := MN.ex
  obtain ⟨fMA, dMA, FMA, mMA, bMA⟩ := MA.ex
  obtain ⟨fMV, dMV, FMV, mMV, bMV⟩ := MV.ex
  obtain ⟨fMT, dMT, FMT, mMT, bMT⟩ := MT.ex
  obtain ⟨fCI, dCI, FCI, mCI, bCI⟩ := CI.ex
  obtain ⟨fCF, dCF, FCF, mCF, bCF⟩ := CF.ex
  obtain ⟨fCT, dCT, FCT, mCT, bCT⟩ := CT.ex
  obtain ⟨fCC, dCC, FCC, mCC, bCC⟩ := CC.ex
  have ok_neighbours_ := (ok_neigh F_neighbours B : FnOk P w K mg base CX0 1 f_neighbours d_neighbours _ spNeigh)
  let U_neighbours : Cal P w K mg base "neighbours" 1 ["w", "h"] spNeigh := ⟨f_neighbours, d_neighbours, ok_neighbours_, m_neighbours, F_neighbours.kp, b_neighbours⟩
  have ok_moved_ := (ok_moved F_moved B : FnOk P w K mg base CX0 1 f_moved d_moved _ (spMoved K))
  let U_moved : Cal P w K mg base "moved" 1 ["row", "w", "dx", "dy"] (spMoved K) := ⟨f_moved, d_moved, ok_moved_, m_moved, F_moved.kp, b_moved⟩
  have ok_grow_ := (ok_grow F_grow : FnOk P w K mg base CX0 1 f_grow d_grow _ (spGrow K))
  let U_grow : Cal P w K mg base "grow" 1 ["cells", "table"] (spGrow K) := ⟨f_grow, d_grow, ok_grow_, m_grow, F_grow.kp, b_grow⟩
  have ok_graze_ := (ok_graze F_graze B : FnOk P w K mg base CX0 1 f_graze d_graze _ (spGraze K))
  let U_graze : Cal P w K mg base "graze" 1 ["cells", "wants"] (spGraze K) := ⟨f_graze, d_graze, ok_graze_, m_graze, F_graze.kp, b_graze⟩
  have ok_spread_ := (ok_spread F_spread B : FnOk P w K mg base CX0 1 f_spread d_spread _ (spSpread K))
  let U_spread : Cal P w K mg base "spread" 1 ["cells", "around"] (spSpread K) := ⟨f_spread, d_spread, ok_spread_, m_spread, F_spread.kp, b_spread⟩
  have ok_gained_ := (ok_gained F_gained B : FnOk P w K mg base CX0 1 f_gained d_gained _ (spGained K))
  let U_gained : Cal P w K mg base "gained" 1 ["before", "after"] (spGained K) := ⟨f_gained, d_gained, ok_gained_, m_gained, F_gained.kp, b_gained⟩
  let TF : TurnFns P w K mg base := ⟨f_grow, d_grow, ok_grow_, m_grow, F_grow.kp, b_grow, f_graze, d_graze, ok_graze_, m_graze, F_graze.kp, b_graze, f_gained, d_gained, ok_gained_, m_gained, F_gained.kp, b_gained, f_spread, d_spread, ok_spread_, m_spread, F_spread.kp, b_spread⟩
  have ok_cells_after_turn_ := (ok_cat F_cells_after_turn T TF : FnOk P w K mg base CX0 2 f_cells_after_turn d_cells_after_turn _ (spCAT C))
  let U_cells_after_turn : Cal P w K mg base "cells_after_turn" 2 ["state", "wants", "season", "cells"] (spCAT C) := ⟨f_cells_after_turn, d_cells_after_turn, ok_cells_after_turn_, m_cells_after_turn, F_cells_after_turn.kp, b_cells_after_turn⟩
  have ok_cells_after_year_ := (ok_cay F_cells_after_year T B U_cells_after_turn : FnOk P w K mg base CX0 3 f_cells_after_year d_cells_after_year _ (spCAY C))
  let U_cells_after_year : Cal P w K mg base "cells_after_year" 3 ["state", "wants", "cells"] (spCAY C) := ⟨f_cells_after_year, d_cells_after_year, ok_cells_after_year_, m_cells_after_year, F_cells_after_year.kp, b_cells_after_year⟩
  have ok_grazed_in_year_ := (ok_giy F_grazed_in_year T B TF : FnOk P w K mg base CX0 2 f_grazed_in_year d_grazed_in_year _ (spGIY C))
  let U_grazed_in_year : Cal P w K mg base "grazed_in_year" 2 ["state", "wants", "cells"] (spGIY C) := ⟨f_grazed_in_year, d_grazed_in_year, ok_grazed_in_year_, m_grazed_in_year, F_grazed_in_year.kp, b_grazed_in_year⟩
  have ok_settle_ := (ok_settle F_settle T U_cells_after_year : FnOk P w K mg base CX0 4 f_settle d_settle _ (spSettle C))
  let U_settle : Cal P w K mg base "settle" 4 ["state", "wants", "units"] (spSettle C) := ⟨f_settle, d_settle, ok_settle_, m_settle, F_settle.kp, b_settle⟩
  have ok_frozen_ := (ok_frozen F_frozen B : FnOk P w K mg base CX0 1 f_frozen d_frozen _ (spFrozen K))
  let U_frozen : Cal P w K mg base "frozen" 1 ["rows"] (spFrozen K) := ⟨f_frozen, d_frozen, ok_frozen_, m_frozen, F_frozen.kp, b_frozen⟩
  have ok_settled_ := (ok_settled F_settled T U_frozen U_settle : FnOk P w K mg base CX0 5 f_settled d_settled _ (spSettled C))
  let U_settled : Cal P w K mg base "settled" 5 ["state", "wants", "units"] (spSettled C) := ⟨f_settled, d_settled, ok_settled_, m_settled, F_settled.kp, b_settled⟩
  have ok_all_within_ := (ok_within F_all_within : FnOk P w K mg base CX0 1 f_all_within d_all_within _ (spWithin K))
  let U_all_within : Cal P w K mg base "all_within" 1 ["numbers", "least", "greatest"] (spWithin K) := ⟨f_all_within, d_all_within, ok_all_within_, m_all_within, F_all_within.kp, b_all_within⟩
  have ok_never_falls_ := (ok_falls F_never_falls B : FnOk P w K mg base CX0 1 f_never_falls d_never_falls _ (spFalls K))
  let U_never_falls : Cal P w K mg base "never_falls" 1 ["numbers"] (spFalls K) := ⟨f_never_falls, d_never_falls, ok_never_falls_, m_never_falls, F_never_falls.kp, b_never_falls⟩
  have ok_is_season_ := (ok_isS F_is_season T : FnOk P w K mg base CX0 1 f_is_season d_is_season _ (spIsS C))
  let U_is_season : Cal P w K mg base "is_season" 1 ["state", "s"] (spIsS C) := ⟨f_is_season, d_is_season, ok_is_season_, m_is_season, F_is_season.kp, b_is_season⟩
  have ok_fits_cells_ := (ok_fits F_fits_cells T B ok_all_within_ m_all_within F_all_within.kp b_all_within : FnOk P w K mg base CX0 2 f_fits_cells d_fits_cells _ (spFits C K))
  let U_fits_cells : Cal P w K mg base "fits_cells" 2 ["state", "row", "greatest"] (spFits C K) := ⟨f_fits_cells, d_fits_cells, ok_fits_cells_, m_fits_cells, F_fits_cells.kp, b_fits_cells⟩
  have ok_years_and_cells_ := (ok_yac F_years_and_cells T U_settled : FnOk P w K mg base CX0 6 f_years_and_cells d_years_and_cells _ (spYAC C))
  let U_years_and_cells : Cal P w K mg base "years_and_cells" 6 ["state", "units"] (spYAC C) := ⟨f_years_and_cells, d_years_and_cells, ok_years_and_cells_, m_years_and_cells, F_years_and_cells.kp, b_years_and_cells⟩
  have okAnew : FnOk P w K mg base CX0 1 fMA dMA _ (spAnew C) := ok_anew FMA T B
  have okTurn : FnOk P w K mg base CX0 2 fMT dMT _ (spTurn C) := ok_turn FMT T B TF
  have okNew : FnOk P w K mg base CX0 2 fMN dMN _ (spNew C) := ok_new FMN T B ok_neighbours_ m_neighbours F_neighbours.kp b_neighbours okAnew bMA mMA
  have okInit : FnOk P w K mg base CX0 3 fMI dMI _ (spInit C) := ok_init FMI T okNew bMN mMN
  have okMove : FnOk P w K mg base CX0 2 fMV dMV _ (spMove C) := ok_move FMV T ok_moved_ m_moved F_moved.kp b_moved
  have okFol : FnOk P w K mg base CX0 3 fCF dCF _ (spFol C C2) := ok_fol FCF T T2 B U_cells_after_turn
  have okCrI : FnOk P w K mg base CX0 4 fCI dCI _ (spCrI C C2) := ok_crI FCI T2 okFol bCF mCF
  have okTor : FnOk P w K mg base CX0 1 fCT dCT _ (spTor C2) := ok_tor FCT T2 B
  have okCat : FnOk P w K mg base CX0 2 fCC dCC _ (spCatC C2) := ok_catC FCC T2 B okTor bCT mCT
  let C2U : Course2 P w K mg base C := ⟨C2, T2, fCI, dCI, ⟨mkC2, mCI.at_, mCI.fn, kpC2⟩, okCrI, bCI, fCT, dCT, okTor, bCT, mCT, fCC, dCC, okCat, bCC, mCC⟩
  have okc0 : FnOk P w K mg base CX0 7 f_call_pond d_call_pond ["state", "numbers", "row"] (spCall C 0 4 (decide ((0 : Nat) = 1))) := (ok_cpond F_call_pond T B ok_all_within_ m_all_within F_all_within.kp b_all_within okNew bMN mMN : FnOk P w K mg base CX0 3 f_call_pond d_call_pond _ _).mono (by decide)
  have okc1 : FnOk P w K mg base CX0 7 f_call_table d_call_table ["state", "numbers", "row"] (spCall C 1 1 (decide ((1 : Nat) = 1))) := (ok_ctable F_call_table T B ok_is_season_ m_is_season F_is_season.kp b_is_season ok_all_within_ m_all_within F_all_within.kp b_all_within ok_never_falls_ m_never_falls F_never_falls.kp b_never_falls okAnew bMA mMA : FnOk P w K mg base CX0 2 f_call_table d_call_table _ _).mono (by decide)
  have okc2 : FnOk P w K mg base CX0 7 f_call_graze d_call_graze ["state", "numbers", "row"] (spCall C 2 1 (decide ((1 : Nat) = 1))) := (ok_cgraze F_call_graze T ok_is_season_ m_is_season F_is_season.kp b_is_season ok_fits_cells_ m_fits_cells F_fits_cells.kp b_fits_cells okAnew bMA mMA : FnOk P w K mg base CX0 3 f_call_graze d_call_graze _ _).mono (by decide)
  have okc3 : FnOk P w K mg base CX0 7 f_call_set d_call_set ["state", "numbers", "row"] (spCall C 3 0 (decide ((1 : Nat) = 1))) := (ok_cset F_call_set T B ok_fits_cells_ m_fits_cells F_fits_cells.kp b_fits_cells okAnew bMA mMA : FnOk P w K mg base CX0 3 f_call_set d_call_set _ _).mono (by decide)
  have okc4 : FnOk P w K mg base CX0 7 f_call_told d_call_told ["state", "numbers", "row"] (spCall C 4 0 (decide ((0 : Nat) = 1))) := (ok_ctold F_call_told T : FnOk P w K mg base CX0 1 f_call_told d_call_told _ _).mono (by decide)
  have okc5 : FnOk P w K mg base CX0 7 f_call_get d_call_get ["state", "numbers", "row"] (spCall C 5 2 (decide ((0 : Nat) = 1))) := (ok_cget F_call_get T : FnOk P w K mg base CX0 1 f_call_get d_call_get _ _).mono (by decide)
  have okc6 : FnOk P w K mg base CX0 7 f_call_cells d_call_cells ["state", "numbers", "row"] (spCall C 6 0 (decide ((0 : Nat) = 1))) := (ok_ccells F_call_cells T : FnOk P w K mg base CX0 1 f_call_cells d_call_cells _ _).mono (by decide)
  have okc7 : FnOk P w K mg base CX0 7 f_call_turns d_call_turns ["state", "numbers", "row"] (spCall C 7 1 (decide ((0 : Nat) = 1))) := (ok_cturns F_call_turns T B okTurn bMT mMT : FnOk P w K mg base CX0 3 f_call_turns d_call_turns _ _).mono (by decide)
  have okc8 : FnOk P w K mg base CX0 7 f_call_book d_call_book ["state", "numbers", "row"] (spCall C 8 0 (decide ((0 : Nat) = 1))) := (ok_cbook F_call_book T B : FnOk P w K mg base CX0 1 f_call_book d_call_book _ _).mono (by decide)
  have okc9 : FnOk P w K mg base CX0 7 f_call_far d_call_far ["state", "numbers", "row"] (spCall C 9 1 (decide ((0 : Nat) = 1))) := (ok_cfar F_call_far B Nu C2U : FnOk P w K mg base CX0 6 f_call_far d_call_far _ _).mono (by decide)
  have okc10 : FnOk P w K mg base CX0 7 f_call_round d_call_round ["state", "numbers", "row"] (spCall C 10 0 (decide ((0 : Nat) = 1))) := (ok_cround F_call_round Nu C2U : FnOk P w K mg base CX0 6 f_call_round d_call_round _ _).mono (by decide)
  have okc11 : FnOk P w K mg base CX0 7 f_call_greatest d_call_greatest ["state", "numbers", "row"] (spCall C 11 0 (decide ((0 : Nat) = 1))) := (ok_cgreat F_call_greatest T U_years_and_cells : FnOk P w K mg base CX0 7 f_call_greatest d_call_greatest _ _).mono (by decide)
  have okc12 : FnOk P w K mg base CX0 7 f_call_least d_call_least ["state", "numbers", "row"] (spCall C 12 0 (decide ((0 : Nat) = 1))) := (ok_cleast F_call_least U_years_and_cells : FnOk P w K mg base CX0 7 f_call_least d_call_least _ _).mono (by decide)
  have okc13 : FnOk P w K mg base CX0 7 f_call_one d_call_one ["state", "numbers", "row"] (spCall C 13 0 (decide ((0 : Nat) = 1))) := (ok_cone F_call_one T U_settled : FnOk P w K mg base CX0 6 f_call_one d_call_one _ _).mono (by decide)
  have okc14 : FnOk P w K mg base CX0 7 f_call_below d_call_below ["state", "numbers", "row"] (spCall C 14 0 (decide ((1 : Nat) = 1))) := (ok_cbelow F_call_below T B U_fits_cells : FnOk P w K mg base CX0 3 f_call_below d_call_below _ _).mono (by decide)
  have okc15 : FnOk P w K mg base CX0 7 f_call_move d_call_move ["state", "numbers", "row"] (spCall C 15 2 (decide ((0 : Nat) = 1))) := (ok_cmove F_call_move T U_all_within okMove bMV mMV : FnOk P w K mg base CX0 3 f_call_move d_call_move _ _).mono (by decide)
  have okc16 : FnOk P w K mg base CX0 7 f_call_yield_of d_call_yield_of ["state", "numbers", "row"] (spCall C 16 0 (decide ((1 : Nat) = 1))) := (ok_cyield F_call_yield_of T B U_fits_cells U_settled U_grazed_in_year : FnOk P w K mg base CX0 6 f_call_yield_of d_call_yield_of _ _).mono (by decide)
  obtain ⟨aD, oD, es, ep, mD, lD, exD, dtD, koD, e0, e1, e2, e3, e4, e5, e6, e7, e8, e9, e10, e11, e12, e13, e14, e15, e16⟩ := TB.ex
  have all : ∀ q ∈ PM.kinds, Ent P w K mg base C es q :=
    fm (ent_of e0 m_call_pond okc0 F_call_pond.kp b_call_pond (by decide)) (fm (ent_of e1 m_call_table okc1 F_call_table.kp b_call_table (by decide)) (fm (ent_of e2 m_call_graze okc2 F_call_graze.kp b_call_graze (by decide)) (fm (ent_of e3 m_call_set okc3 F_call_set.kp b_call_set (by decide)) (fm (ent_of e4 m_call_told okc4 F_call_told.kp b_call_told (by decide)) (fm (ent_of e5 m_call_get okc5 F_call_get.kp b_call_get (by decide)) (fm (ent_of e6 m_call_cells okc6 F_call_cells.kp b_call_cells (by decide)) (fm (ent_of e7 m_call_turns okc7 F_call_turns.kp b_call_turns (by decide)) (fm (ent_of e8 m_call_book okc8 F_call_book.kp b_call_book (by decide)) (fm (ent_of e9 m_call_far okc9 F_call_far.kp b_call_far (by decide)) (fm (ent_of e10 m_call_round okc10 F_call_round.kp b_call_round (by decide)) (fm (ent_of e11 m_call_greatest okc11 F_call_greatest.kp b_call_greatest (by decide)) (fm (ent_of e12 m_call_least okc12 F_call_least.kp b_call_least (by decide)) (fm (ent_of e13 m_call_one okc13 F_call_one.kp b_call_one (by decide)) (fm (ent_of e14 m_call_below okc14 F_call_below.kp b_call_below (by decide)) (fm (ent_of e15 m_call_move okc15 F_call_move.kp b_call_move (by decide)) (fm (ent_of e16 m_call_yield_of okc16 F_call_yield_of.kp b_call_yield_of (by decide)) (fun q h => nomatch h)))))))))))))))))
  have CO : CallsOk P w K mg base C := ⟨aD, oD, es, ep, mD, lD, exD, dtD, koD P w, fun c n k hs => all _ (PM.shape_kinds hs)⟩
  exact ok_ans F_answers T B ⟨mkC, mMI.at_, mMI.fn, kpC⟩ okInit bMI CO

end PD
end
set_option Elab.async false
set_option linter.all false
/-! these seven names are taken, so that no second, quicker form of the greatest terms is made: nothing needs it, and the compiled text would be too big -/
def PySem.W.Fast.tw5219508880340717221 : Unit := ()
def PySem.W.Fast.tw17141479162805937809 : Unit := ()
def PySem.W.Fast.tw1926562784788175929 : Unit := ()
def PySem.W.Fast.tw11431817050247125274 : Unit := ()
def PySem.W.Fast.tw7625607997392124353 : Unit := ()
def PySem.W.Fast.tw491068118944062999 : Unit := ()
def PySem.W.Fast.tw16131582250289578797 : Unit := ()
open PySem PySem.W PyProof.Rows
set_option maxRecDepth 100000 in
set_option maxHeartbeats 0 in
theorem PySem.Challenge.cw_pondyears_s01_answers_holds : PySem.Challenge.rw_pondyears_s01_answers.Holds := by
  w_on; k_headS; (case hw => exact ⟨[.list [.int 4]], by decide +kernel, by decide +kernel⟩)
  k_fillS
  refine L2.walk_specK (r := PySem.Challenge.rw_pondyears_s01_answers) (k := 8) (CX := L2.CX0) (ps := ["calls"]) (sp := PD.spAns) (by decide +kernel) rfl rfl ⟨rfl, by decide, by decide⟩ (fun w h Y => PySem.W.kIn_of Y) ?F ?S (fun _ _ _ _ z => z)
  case F =>
    intro w mg fa h Y KX G hmg
    have D0 := PD.def_mk KX G "neighbours" PD.sNeigh ["w", "h"] (fun _ _ _ _ _ _ us hl => match us, hl with | [_, _], _ => rfl) (by k_is) (by k_is) (by k_is) (by k_is)
    have D1 := PD.def_mk KX G "moved" PD.sMoved ["row", "w", "dx", "dy"] (fun _ _ _ _ _ _ us hl => match us, hl with | [_, _, _, _], _ => rfl) (by k_is) (by k_is) (by k_is) (by k_is)
    have D2 := PD.def_mk KX G "grow" PD.sGrow ["cells", "table"] (fun _ _ _ _ _ _ us hl => match us, hl with | [_, _], _ => rfl) (by k_is) (by k_is) (by k_is) (by k_is)
    have D3 := PD.def_mk KX G "graze" PD.sGraze ["cells", "wants"] (fun _ _ _ _ _ _ us hl => match us, hl with | [_, _], _ => rfl) (by k_is) (by k_is) (by k_is) (by k_is)
    have D4 := PD.def_mk KX G "spread" PD.sSpread ["cells", "around"] (fun _ _ _ _ _ _ us hl => match us, hl with | [_, _], _ => rfl) (by k_is) (by k_is) (by k_is) (by k_is)
    have D5 := PD.def_mk KX G "gained" PD.sGained ["before", "after"] (fun _ _ _ _ _ _ us hl => match us, hl with | [_, _], _ => rfl) (by k_is) (by k_is) (by k_is) (by k_is)
    have D6 := PD.def_mk KX G "cells_after_turn" PD.sCAT ["state", "wants", "season", "cells"] (fun _ _ _ _ _ _ us hl => match us, hl with | [_, _, _, _], _ => rfl) (by k_is) (by k_is) (by k_is) (by k_is)
    have D7 := PD.def_mk KX G "cells_after_year" PD.sCAY ["state", "wants", "cells"] (fun _ _ _ _ _ _ us hl => match us, hl with | [_, _, _], _ => rfl) (by k_is) (by k_is) (by k_is) (by k_is)
    have D8 := PD.def_mk KX G "grazed_in_year" PD.sGIY ["state", "wants", "cells"] (fun _ _ _ _ _ _ us hl => match us, hl with | [_, _, _], _ => rfl) (by k_is) (by k_is) (by k_is) (by k_is)
    have D9 := PD.def_mk KX G "settle" PD.sSettle ["state", "wants", "units"] (fun _ _ _ _ _ _ us hl => match us, hl with | [_, _, _], _ => rfl) (by k_is) (by k_is) (by k_is) (by k_is)
    have D10 := PD.def_mk KX G "frozen" PD.sFrozen ["rows"] (fun _ _ _ _ _ _ us hl => match us, hl with | [_], _ => rfl) (by k_is) (by k_is) (by k_is) (by k_is)
    have D11 := PD.def_mk KX G "settled" PD.sSettled ["state", "wants", "units"] (fun _ _ _ _ _ _ us hl => match us, hl with | [_, _, _], _ => rfl) (by k_is) (by k_is) (by k_is) (by k_is)
    have D12 := PD.def_mk KX G "all_within" PD.sWithin ["numbers", "least", "greatest"] (fun _ _ _ _ _ _ us hl => match us, hl with | [_, _, _], _ => rfl) (by k_is) (by k_is) (by k_is) (by k_is)
    have D13 := PD.def_mk KX G "never_falls" PD.sFalls ["numbers"] (fun _ _ _ _ _ _ us hl => match us, hl with | [_], _ => rfl) (by k_is) (by k_is) (by k_is) (by k_is)
    have D14 := PD.def_mk KX G "is_season" PD.sIsS ["state", "s"] (fun _ _ _ _ _ _ us hl => match us, hl with | [_, _], _ => rfl) (by k_is) (by k_is) (by k_is) (by k_is)
    have D15 := PD.def_mk KX G "fits_cells" PD.sFits ["state", "row", "greatest"] (fun _ _ _ _ _ _ us hl => match us, hl with | [_, _, _], _ => rfl) (by k_is) (by k_is) (by k_is) (by k_is)
    have D16 := PD.def_mk KX G "call_pond" PD.sCPond ["state", "numbers", "row"] (fun _ _ _ _ _ _ us hl => match us, hl with | [_, _, _], _ => rfl) (by k_is) (by k_is) (by k_is) (by k_is)
    have D17 := PD.def_mk KX G "call_table" PD.sCTable ["state", "numbers", "row"] (fun _ _ _ _ _ _ us hl => match us, hl with | [_, _, _], _ => rfl) (by k_is) (by k_is) (by k_is) (by k_is)
    have D18 := PD.def_mk KX G "call_graze" PD.sCGraze ["state", "numbers", "row"] (fun _ _ _ _ _ _ us hl => match us, hl with | [_, _, _], _ => rfl) (by k_is) (by k_is) (by k_is) (by k_is)
    have D19 := PD.def_mk KX G "call_set" PD.sCSet ["state", "numbers", "row"] (fun _ _ _ _ _ _ us hl => match us, hl with | [_, _, _], _ => rfl) (by k_is) (by k_is) (by k_is) (by k_is)
    have D20 := PD.def_mk KX G "call_told" PD.sCTold ["state", "numbers", "row"] (fun _ _ _ _ _ _ us hl => match us, hl with | [_, _, _], _ => rfl) (by k_is) (by k_is) (by k_is) (by k_is)
    have D21 := PD.def_mk KX G "call_get" PD.sCGet ["state", "numbers", "row"] (fun _ _ _ _ _ _ us hl => match us, hl with | [_, _, _], _ => rfl) (by k_is) (by k_is) (by k_is) (by k_is)
    have D22 := PD.def_mk KX G "call_cells" PD.sCCells ["state", "numbers", "row"] (fun _ _ _ _ _ _ us hl => match us, hl with | [_, _, _], _ => rfl) (by k_is) (by k_is) (by k_is) (by k_is)
    have D23 := PD.def_mk KX G "call_turns" PD.sCTurns ["state", "numbers", "row"] (fun _ _ _ _ _ _ us hl => match us, hl with | [_, _, _], _ => rfl) (by k_is) (by k_is) (by k_is) (by k_is)
    have D24 := PD.def_mk KX G "call_book" PD.sCBook ["state", "numbers", "row"] (fun _ _ _ _ _ _ us hl => match us, hl with | [_, _, _], _ => rfl) (by k_is) (by k_is) (by k_is) (by k_is)
    have D25 := PD.def_mk KX G "call_far" PD.sCFar ["state", "numbers", "row"] (fun _ _ _ _ _ _ us hl => match us, hl with | [_, _, _], _ => rfl) (by k_is) (by k_is) (by k_is) (by k_is)
    have D26 := PD.def_mk KX G "call_round" PD.sCRound ["state", "numbers", "row"] (fun _ _ _ _ _ _ us hl => match us, hl with | [_, _, _], _ => rfl) (by k_is) (by k_is) (by k_is) (by k_is)
    have D27 := PD.def_mk KX G "call_greatest" PD.sCGreat ["state", "numbers", "row"] (fun _ _ _ _ _ _ us hl => match us, hl with | [_, _, _], _ => rfl) (by k_is) (by k_is) (by k_is) (by k_is)
    have D28 := PD.def_mk KX G "call_least" PD.sCLeast ["state", "numbers", "row"] (fun _ _ _ _ _ _ us hl => match us, hl with | [_, _, _], _ => rfl) (by k_is) (by k_is) (by k_is) (by k_is)
    have D29 := PD.def_mk KX G "call_one" PD.sCOne ["state", "numbers", "row"] (fun _ _ _ _ _ _ us hl => match us, hl with | [_, _, _], _ => rfl) (by k_is) (by k_is) (by k_is) (by k_is)
    have D30 := PD.def_mk KX G "call_below" PD.sCBelow ["state", "numbers", "row"] (fun _ _ _ _ _ _ us hl => match us, hl with | [_, _, _], _ => rfl) (by k_is) (by k_is) (by k_is) (by k_is)
    have D31 := PD.def_mk KX G "call_move" PD.sCMove ["state", "numbers", "row"] (fun _ _ _ _ _ _ us hl => match us, hl with | [_, _, _], _ => rfl) (by k_is) (by k_is) (by k_is) (by k_is)
    have D32 := PD.def_mk KX G "call_yield_of" PD.sCYield ["state", "numbers", "row"] (fun _ _ _ _ _ _ us hl => match us, hl with | [_, _, _], _ => rfl) (by k_is) (by k_is) (by k_is) (by k_is)
    have D33 := PD.def_mk KX G "years_and_cells" PD.sYAC ["state", "units"] (fun _ _ _ _ _ _ us hl => match us, hl with | [_, _], _ => rfl) (by k_is) (by k_is) (by k_is) (by k_is)
    have D34 := PD.def_mk KX G "answers" PD.sAns ["calls"] (fun _ _ _ _ _ _ us hl => match us, hl with | [_], _ => rfl) (by k_is) (by k_is) (by k_is) (by k_is)
    have SM := by
      refine' PD.state_mk KX G ?aC ?pg ?hd ?po ?sa ?mk ?kc ?n0 ?n1 ?n2 ?n3 ?n4 ?n5 ?n6 ?n7 ?n8 ?n9 ?n10 ?n11 ?n12 ?n13 ?m0 ?m1 ?m2 ?m3 ?m4
      (case aC => k_is)
      (case pg => k_is)
      (case hd => k_is)
      (case po => k_is)
      (case sa => k_is)
      (case mk => k_is)
      (case kc => k_is)
      (case n0 => k_is)
      (case n1 => k_is)
      (case n2 => k_is)
      (case n3 => k_is)
      (case n4 => k_is)
      (case n5 => k_is)
      (case n6 => k_is)
      (case n7 => k_is)
      (case n8 => k_is)
      (case n9 => k_is)
      (case n10 => k_is)
      (case n11 => k_is)
      (case n12 => k_is)
      (case n13 => k_is)
      (case m0 => exact PD.met_mk "__init__" "State.__init__" PD.sInit ["self"] (fun _ _ _ _ _ _ us hl => match us, hl with | [_], _ => rfl) (by k_is) (by k_is) (by k_is) (by k_is) (by k_is))
      (case m1 => exact PD.met_mk "new_pond" "State.new_pond" PD.sNew ["self", "w", "h", "most", "p"] (fun _ _ _ _ _ _ us hl => match us, hl with | [_, _, _, _, _], _ => rfl) (by k_is) (by k_is) (by k_is) (by k_is) (by k_is))
      (case m2 => exact PD.met_mk "begin_anew" "State.begin_anew" PD.sAnew ["self"] (fun _ _ _ _ _ _ us hl => match us, hl with | [_], _ => rfl) (by k_is) (by k_is) (by k_is) (by k_is) (by k_is))
      (case m3 => exact PD.met_mk "move" "State.move" PD.sMove ["self", "dx", "dy"] (fun _ _ _ _ _ _ us hl => match us, hl with | [_, _, _], _ => rfl) (by k_is) (by k_is) (by k_is) (by k_is) (by k_is))
      (case m4 => exact PD.met_mk "turn" "State.turn" PD.sTurn ["self"] (fun _ _ _ _ _ _ us hl => match us, hl with | [_], _ => rfl) (by k_is) (by k_is) (by k_is) (by k_is) (by k_is))
    have CM := by
      refine' PD.course_mk KX G ?aC ?pg ?hd ?po ?sa ?mk ?kc ?n0 ?n1 ?m0 ?m1 ?m2 ?m3
      (case aC => k_is)
      (case pg => k_is)
      (case hd => k_is)
      (case po => k_is)
      (case sa => k_is)
      (case mk => k_is)
      (case kc => k_is)
      (case n0 => k_is)
      (case n1 => k_is)
      (case m0 => exact PD.met_mk "__init__" "Course.__init__" PD.sCrI ["self", "state", "bound"] (fun _ _ _ _ _ _ us hl => match us, hl with | [_, _, _], _ => rfl) (by k_is) (by k_is) (by k_is) (by k_is) (by k_is))
      (case m1 => exact PD.met_mk "follow" "Course.follow" PD.sFol ["self", "state", "bound"] (fun _ _ _ _ _ _ us hl => match us, hl with | [_, _, _], _ => rfl) (by k_is) (by k_is) (by k_is) (by k_is) (by k_is))
      (case m2 => exact PD.met_mk "turns_of_round" "Course.turns_of_round" PD.sTor ["self"] (fun _ _ _ _ _ _ us hl => match us, hl with | [_], _ => rfl) (by k_is) (by k_is) (by k_is) (by k_is) (by k_is))
      (case m3 => exact PD.met_mk "cells_at" "Course.cells_at" PD.sCat ["self", "n"] (fun _ _ _ _ _ _ us hl => match us, hl with | [_, _], _ => rfl) (by k_is) (by k_is) (by k_is) (by k_is) (by k_is))
    have TB := by
      refine' PD.table_mk KX G ?a ?l ?l0 ?a0 ?l1 ?a1 ?l2 ?a2 ?l3 ?a3 ?l4 ?a4 ?l5 ?a5 ?l6 ?a6 ?l7 ?a7 ?l8 ?a8 ?l9 ?a9 ?l10 ?a10 ?l11 ?a11 ?l12 ?a12 ?l13 ?a13 ?l14 ?a14 ?l15 ?a15 ?l16 ?a16
      (case a => k_is)
      (case l => k_is)
      (case l0 => k_is)
      (case a0 => k_is)
      (case l1 => k_is)
      (case a1 => k_is)
      (case l2 => k_is)
      (case a2 => k_is)
      (case l3 => k_is)
      (case a3 => k_is)
      (case l4 => k_is)
      (case a4 => k_is)
      (case l5 => k_is)
      (case a5 => k_is)
      (case l6 => k_is)
      (case a6 => k_is)
      (case l7 => k_is)
      (case a7 => k_is)
      (case l8 => k_is)
      (case a8 => k_is)
      (case l9 => k_is)
      (case a9 => k_is)
      (case l10 => k_is)
      (case a10 => k_is)
      (case l11 => k_is)
      (case a11 => k_is)
      (case l12 => k_is)
      (case a12 => k_is)
      (case l13 => k_is)
      (case a13 => k_is)
      (case l14 => k_is)
      (case a14 => k_is)
      (case l15 => k_is)
      (case a15 => k_is)
      (case l16 => k_is)
      (case a16 => k_is)
    have N1 := PD.int_mk KX G "LONGEST" 600 (by k_is)
    have N2 := PD.int_mk KX G "FARTHEST" 1000000000000000000 (by k_is)
    have B0 : mg "range" = none := PD.no_mk KX G "range" (by k_is)
    have B1 : mg "len" = none := PD.no_mk KX G "len" (by k_is)
    have B2 : mg "sum" = none := PD.no_mk KX G "sum" (by k_is)
    have B3 : mg "zip" = none := PD.no_mk KX G "zip" (by k_is)
    have B4 : mg "enumerate" = none := PD.no_mk KX G "enumerate" (by k_is)
    have B5 : mg "list" = none := PD.no_mk KX G "list" (by k_is)
    have B6 : mg "tuple" = none := PD.no_mk KX G "tuple" (by k_is)
    have B7 : mg "min" = none := PD.no_mk KX G "min" (by k_is)
    exact PD.all_ok (P := PySem.Challenge.rw_pondyears_s01_answers.prog) (w := w) ⟨B0, B1, B2, B3, B4, B5, B6, B7⟩ ⟨N1, N2⟩ D0 D1 D2 D3 D4 D5 D6 D7 D8 D9 D10 D11 D12 D13 D14 D15 D16 D17 D18 D19 D20 D21 D22 D23 D24 D25 D26 D27 D28 D29 D30 D31 D32 D33 D34 SM CM TB hmg
  case S =>
    intro K H xs a hO hwi hask hx
    cases hx with
    | cons h1 h2 =>
      cases h2
      cases h1 with
      | lst hs ha =>
        have e := L2.ints_dw a.1 _ ha
        subst e
        have q : ((Codec.inLen 0 16000 a.1 && a.1.all (Codec.inInt (-9223372036854775808) 9223372036854775807)) && true) = true := hwi
        rw [Bool.and_eq_true, Bool.and_eq_true] at q
        refine ⟨_, a.1, rfl, hs, (Codec.inNat_iff.mp q.1.1).2, hask, fun b o e z => ?_, fun H' p hp => .lst (L2.SqL.of hp) (L2.dw_ints _)⟩
        rcases hO b with n | ⟨ob, u, n⟩
        · rw [n] at e
          cases e
        · rw [n] at e
          rw [← Option.some.inj e] at z
          exact z
#print axioms PySem.Challenge.cw_pondyears_s01_answers_holds
