import PyProof.Rows.All
import Wide.All
import OpenK.AllK
import Wide.FinOn
import PyProof.EqAt
import PyProof.EqKinds
import PyProof.TupleCall
import KE.BitLaws
import Open.SpecLaws
import KE.OsHead
import KE.OsGo
import KE.KMinKey
import KE.KSortTupUse
import KE.KSortKeyAny
import KE.KLam
import KE.KNest
import PySem.Challenge.RW_culverts_s01_answers
section
set_option Elab.async false
set_option linter.all false
set_option maxRecDepth 100000
namespace L2
open PySem PySem.Spec PyProof.Rows
abbrev Key := Sum Int Str
def keyIs : Key → Value → Bool
  | .inl k, v => Value.isInt k v
  | .inr x, v => Value.isStrOf x v
def keyH (w : World) : Key → Int
  | .inl k => hashInt k
  | .inr x => hashStr w x
theorem keyIs_shape : ∀ {k : Key} {v : Value}, keyIs k v = true → (∃ i t, k = Sum.inl i ∧ v = Value.int i t) ∨ (∃ x t, k = Sum.inr x ∧ v = Value.str x t)
  | .inl i, v, h => by
    obtain ⟨t, e⟩ := Value.isInt_shape (k := i) (v := v) h
    exact .inl ⟨i, t, rfl, e⟩
  | .inr x, v, h => by
    obtain ⟨t, e⟩ := Value.isStrOf_shape (x := x) (v := v) h
    exact .inr ⟨x, t, rfl, e⟩
theorem key_ll (a b : Int) : decide ((Sum.inl a : Key) = Sum.inl b) = (a == b) := by
  by_cases e : a = b
  · subst e; simp
  · have h : ¬ (Sum.inl a : Key) = Sum.inl b := fun q => e (Sum.inl.inj q)
    rw [decide_eq_false h]
    exact (beq_eq_false_iff_ne.mpr e).symm
theorem key_rr (a b : Str) : decide ((Sum.inr a : Key) = Sum.inr b) = decide (a = b) := by
  by_cases e : a = b
  · subst e; simp
  · have h : ¬ (Sum.inr a : Key) = Sum.inr b := fun q => e (Sum.inr.inj q)
    rw [decide_eq_false h, decide_eq_false e]
theorem key_lr (a : Int) (b : Str) : decide ((Sum.inl a : Key) = Sum.inr b) = false := decide_eq_false (fun q => nomatch q)
theorem key_rl (a : Str) (b : Int) : decide ((Sum.inr a : Key) = Sum.inl b) = false := decide_eq_false (fun q => nomatch q)
def mixKind (prog : Program) (w : World) : PySem.KeyKind prog w Key where
  is := keyIs
  hash := keyH w
  inj := fun v a b ha hb => by
    rcases keyIs_shape ha with ⟨i, t, rfl, rfl⟩ | ⟨x, t, rfl, rfl⟩
    · rcases keyIs_shape hb with ⟨j, u, rfl, e⟩ | ⟨y, u, rfl, e⟩
      · injection e with e1 _; rw [e1]
      · exact nomatch e
    · rcases keyIs_shape hb with ⟨j, u, rfl, e⟩ | ⟨y, u, rfl, e⟩
      · exact nomatch e
      · injection e with e1 _; rw [e1]
  byValue := fun k v h => by
    rcases keyIs_shape h with ⟨i, t, rfl, rfl⟩ | ⟨x, t, rfl, rfl⟩ <;> rfl
  pyHash := fun hv h => by
    rcases keyIs_shape hv with ⟨i, t, rfl, rfl⟩ | ⟨x, t, rfl, rfl⟩
    · exact wpAny_pyHash_int h
    · exact wpAny_pyHash_str h
  eqBool := fun hu hv h => by
    rcases keyIs_shape hu with ⟨i, t, rfl, rfl⟩ | ⟨x, t, rfl, rfl⟩
    · rcases keyIs_shape hv with ⟨j, u, rfl, rfl⟩ | ⟨y, u, rfl, rfl⟩
      · rw [key_ll] at h; exact wpAny_eqBool_int h
      · rw [key_lr] at h; exact SeqAt.EqAt.int_str i t y u _ _ _ _ h
    · rcases keyIs_shape hv with ⟨j, u, rfl, rfl⟩ | ⟨y, u, rfl, rfl⟩
      · rw [key_rl] at h; exact SeqAt.EqAt.str_int x t j u _ _ _ _ h
      · rw [key_rr] at h; exact wpAny_eqBool_str h
  «strs» := fun k x t v h => by
    rcases keyIs_shape h with ⟨i, u, rfl, e⟩ | ⟨y, u, rfl, e⟩
    · exact nomatch e
    · injection e with e1 _
      subst e1
      cases v <;> rfl
end L2
namespace L2
open PySem PySem.Spec PyProof.Rows
inductive V where
  | non | bl (b : Bool) | int (i : Int) | str (x : Str) | byt (b : Array UInt8) | flt (b : UInt64) | ref (a : Addr) | ty (n : String)
  deriving DecidableEq
def RelV : V → Value → Prop
  | .non, u => u = Value.none
  | .bl b, u => u = Value.bool b
  | .int i, u => ∃ t, u = Value.int i t
  | .str x, u => ∃ t, u = Value.str x t
  | .byt b, u => ∃ t, u = Value.bytes b t
  | .flt b, u => ∃ t, u = Value.float b t
  | .ref a, u => u = Value.ref a
  | .ty n, u => u = Value.type n
abbrev Vals : List V → List Value → Prop := Paired RelV
theorem Vals.length {xs : List V} {us : List Value} (r : Vals xs us) : xs.length = us.length := Paired.length r
theorem Vals.get : ∀ {xs : List V} {us : List Value} {i : Nat} {x : V}, Vals xs us → xs[i]? = some x → ∃ u, us[i]? = some u ∧ RelV x u
  | _, _, _, _, .nil, e => by simp at e
  | _, _, 0, _, .cons r _, e => by simp at e; subst e; exact ⟨_, rfl, r⟩
  | _, _, i + 1, x, .cons _ t, e => by
    obtain ⟨u, h1, h2⟩ := Vals.get (i := i) (x := x) t (by simpa using e)
    exact ⟨u, by simpa using h1, h2⟩
theorem Vals.set {x : V} {u : Value} (r : RelV x u) : ∀ {xs : List V} {us : List Value} (i : Nat), Vals xs us → Vals (xs.set i x) (us.set i u)
  | _, _, _, .nil => .nil
  | _, _, 0, .cons _ t => .cons r t
  | _, _, i + 1, .cons q t => .cons q (Vals.set r i t)
theorem Vals.append : ∀ {xs ys : List V} {us ws : List Value}, Vals xs us → Vals ys ws → Vals (xs ++ ys) (us ++ ws)
  | _, _, _, _, .nil, s => s
  | _, _, _, _, .cons r t, s => .cons r (Vals.append t s)
theorem Vals.take : ∀ {xs : List V} {us : List Value} (n : Nat), Vals xs us → Vals (xs.take n) (us.take n)
  | _, _, 0, _ => .nil
  | _, _, _ + 1, .nil => .nil
  | _, _, n + 1, .cons r t => .cons r (Vals.take n t)
theorem Vals.drop : ∀ {xs : List V} {us : List Value} (n : Nat), Vals xs us → Vals (xs.drop n) (us.drop n)
  | _, _, 0, r => r
  | _, _, _ + 1, .nil => .nil
  | _, _, n + 1, .cons _ t => Vals.drop n t
def RelO : Option V → Option Value → Prop
  | some v, some u => RelV v u
  | none, none => True
  | _, _ => False
def KV {κ : Type} : List (κ × V) → List (κ × Value) → Prop := Paired fun (p : κ × V) (q : κ × Value) => p.1 = q.1 ∧ RelV p.2 q.2
def kV : Key → V
  | .inl i => .int i
  | .inr x => .str x
inductive HO where
  /-- a list -/
  | lst (xs : List V)
  /-- a tuple (never changes) -/
  | tup (xs : List V)
  /-- a dict whose keys are ints and texts; one whose keys are tuples of ints and texts (the empty one is both) -/
  | dK (kvs : List (Key × V)) | dT (kvs : List (List Key × V))
  /-- a set of ints: its members, its size -/
  | set (S : Int → Bool) (n : Nat)
  /-- an instance of the class at C, its dict at dx, its attributes -/
  | ins (C dx : Addr) (fs : List (Str × V))
  /-- the dict of the instance at x -/
  | own (x : Addr)
  /-- the dict of an exception -/
  | xd (fs : List (Str × V))
  /-- a bound method, f of x -/
  | met (f x : Addr)
  /-- a range object lo, lo + 1, .. below hi -/
  | rng (lo hi : Int)
  /-- a thing that is known to the object (the script; a dict while a loop walks it): read, never written while it is so -/
  | frz (o : Obj) (u : HO)
  /-- a code object's table -/
  | tbl (ps : Array Value)
  /-- any other thing, by what is true of its one object (a def of one's own: SetO a S n := HO.ext fun h => ..) -/
  | ext (φ : Heap → Prop)
abbrev Hp := Addr → Option HO
def upd (H : Hp) (a : Addr) (o : HO) : Hp := fun b => if b = a then some o else H b
theorem upd_same {H : Hp} {a : Addr} {o : HO} : upd H a o a = some o := by unfold upd; rw [if_pos rfl]
theorem upd_ne {H : Hp} {a b : Addr} {o : HO} (h : b ≠ a) : upd H a o b = H b := by unfold upd; rw [if_neg h]
theorem upd_upd {H : Hp} {a : Addr} {o u : HO} : upd (upd H a o) a u = upd H a u := by
  funext b; unfold upd; split <;> rfl
theorem ne_of {H : Hp} {a b : Addr} {o u : HO} (h : H a = some o) (h' : H b = some u) (d : o ≠ u) : a ≠ b := by
  intro e; subst e; rw [h] at h'; exact d (Option.some.inj h')
theorem ne_of_none {H : Hp} {a b : Addr} {o : HO} (h : H a = some o) (h' : H b = none) : a ≠ b := by
  intro e; subst e; rw [h] at h'; cases h'
section
variable (P : Program) (w : World)
def ObjOk (H : Hp) (h : Heap) (a : Addr) : HO → Prop
  | .lst xs => xs.length ≤ sizeLine ∧ ∃ (its : List Value) (n : Nat), Vals xs its ∧ h.get? a = some { cls := .type "list", data := .seq its.toArray n }
  | .tup xs => xs.length ≤ sizeLine ∧ ∃ its : List Value, Vals xs its ∧ IsTup h a its.toArray
  | .dK kvs => kvs.length ≤ sizeLine ∧ (a == sysModules) = false ∧ ∃ vs, KV kvs vs ∧ h.DictOf (mixKind P w) a vs
  | .dT kvs => kvs.length ≤ sizeLine ∧ (a == sysModules) = false ∧ ∃ xs : List (List Key × Addr × Value),
      Paired (fun (p : List Key × V) (q : List Key × Addr × Value) => p.1 = q.1 ∧ H q.2.1 = some (.tup (p.1.map kV)) ∧ RelV p.2 q.2.2) kvs xs ∧
      ∃ o es ep, h.get? a = some o ∧ o.ExactDict ∧ o.data = .dict es ep ∧ es.toList = xs.map (entryOfKey (tupleKind (mixKind P w))) ∧ (xs.map (·.1)).Nodup
  | .set S n => h.SetOf (intKind P w) a S n
  | .ins C dx fs => H dx = some (.own a) ∧ fs.length ≤ 1000 ∧ dx ≠ a ∧ h.get? a = some (PySem.W.instObj C dx) ∧
      ∃ mA, h.Ns1 dx mA ∧ (∀ f, RelO (fs.lookup f) (mA f)) ∧ PySem.Within mA (fs.map (·.1))
  | .own _ => ∃ o, h.get? a = some o
  | .xd fs => ∃ mA, h.Ns1 a mA ∧ ∀ f, RelO (fs.lookup f) (mA f)
  | .rng lo hi => ∃ t u v, h.get? a = some { cls := .type "range", data := .fields #[.int lo t, .int hi u, .int 1 v] }
  | .frz o u => h.get? a = some o ∧ ObjOk H h a u
  | .tbl ps => h.get? a = some { cls := .none, data := .fields ps }
  | .met f x => h.get? a = some (PySem.W.methodObj (.ref f) (.ref x))
  | .ext φ => φ h ∧ (∃ o, h.get? a = some o) ∧ ∀ h1 h2 : Heap, φ h1 → (∀ o, h1.get? a = some o → h2.get? a = some o) → φ h2
def HOk (H : Hp) (h : Heap) : Prop := ∀ a o, H a = some o → ObjOk P w H h a o
end
section
variable {P : Program} {w : World} {H H' : Hp} {h h' : Heap} {a : Addr} {o : HO}
theorem ObjOk.lt (x : ObjOk P w H h a o) : a < h.objs.size := by
  cases o with
  | lst xs => obtain ⟨_, _, _, _, e⟩ := x; exact Heap.lt_size e
  | tup xs => obtain ⟨_, _, _, p⟩ := x; exact p.lt
  | dK kvs => obtain ⟨_, _, _, _, o, _, _, e, _⟩ := x; exact Heap.lt_size e
  | dT kvs => obtain ⟨_, _, _, _, o, _, _, e, _⟩ := x; exact Heap.lt_size e
  | set S n => obtain ⟨o, _, _, _, e, _⟩ := x; exact Heap.lt_size e
  | ins C dx fs => obtain ⟨_, _, _, e, _⟩ := x; exact Heap.lt_size e
  | own y => obtain ⟨_, e⟩ := x; exact Heap.lt_size e
  | xd fs => obtain ⟨_, ⟨_, _, _, e, _⟩, _⟩ := x; exact Heap.lt_size e
  | rng lo hi => obtain ⟨_, _, _, e⟩ := x; exact Heap.lt_size e
  | frz ob u => obtain ⟨e, _⟩ := x; exact Heap.lt_size e
  | tbl ps => exact Heap.lt_size (show h.get? a = some _ from x)
  | met f y => exact Heap.lt_size (show h.get? a = some _ from x)
  | ext φ => obtain ⟨_, ⟨_, e⟩, _⟩ := x; exact Heap.lt_size e
theorem Paired.mapP {α β : Type} {F G : α → β → Prop} : ∀ {l₁ : List α} {l₂ : List β}, Paired F l₁ l₂ → (∀ a b, F a b → G a b) → Paired G l₁ l₂
  | _, _, .nil, _ => .nil
  | _, _, .cons r t, f => .cons (f _ _ r) (Paired.mapP t f)
theorem ObjOk.stay (x : ObjOk P w H h a o) (k : ∀ b u, (b = a ∨ H b = some (.own a)) → h.get? b = some u → h'.get? b = some u)
    (ho : ∀ b, H b = some (.own a) → H' b = some (.own a)) (ht : ∀ b xs, H b = some (.tup xs) → H' b = some (.tup xs)) : ObjOk P w H' h' a o := by
  induction o with
  | lst xs => obtain ⟨z, its, n, r, e⟩ := x; exact ⟨z, its, n, r, k _ _ (.inl rfl) e⟩
  | tup xs => obtain ⟨z, its, r, ob, e, c⟩ := x; exact ⟨z, its, r, ob, k _ _ (.inl rfl) e, c⟩
  | dK kvs => obtain ⟨z, y, vs, r, ob, es, ep, e, c⟩ := x; exact ⟨z, y, vs, r, ob, es, ep, k _ _ (.inl rfl) e, c⟩
  | dT kvs =>
    obtain ⟨z, y, xs, r, ob, es, ep, e, c⟩ := x
    exact ⟨z, y, xs, Paired.mapP r fun p q z => ⟨z.1, ht _ _ z.2.1, z.2.2⟩, ob, es, ep, k _ _ (.inl rfl) e, c⟩
  | set S n => obtain ⟨ob, es, ep, t, e, c⟩ := x; exact ⟨ob, es, ep, t, k _ _ (.inl rfl) e, c⟩
  | ins C dx fs =>
    obtain ⟨d, z, ne, e, mA, ⟨od, es, ep, e2, c⟩, r⟩ := x
    exact ⟨ho _ d, z, ne, k _ _ (.inl rfl) e, mA, ⟨od, es, ep, k _ _ (.inr d) e2, c⟩, r⟩
  | own y => obtain ⟨ob, e⟩ := x; exact ⟨ob, k _ _ (.inl rfl) e⟩
  | xd fs => obtain ⟨mA, ⟨od, es, ep, e, c⟩, r⟩ := x; exact ⟨mA, ⟨od, es, ep, k _ _ (.inl rfl) e, c⟩, r⟩
  | rng lo hi => obtain ⟨t, u, v, e⟩ := x; exact ⟨t, u, v, k _ _ (.inl rfl) e⟩
  | frz ob u ih => obtain ⟨e, q⟩ := x; exact ⟨k _ _ (.inl rfl) e, ih q⟩
  | tbl ps =>
    have e : h.get? a = some { cls := .none, data := .fields ps } := x
    show h'.get? a = some { cls := .none, data := .fields ps }
    exact k a _ (.inl rfl) e
  | met f y =>
    have e : h.get? a = some (PySem.W.methodObj (.ref f) (.ref y)) := x
    show h'.get? a = some (PySem.W.methodObj (.ref f) (.ref y))
    exact k a _ (.inl rfl) e
  | ext φ => obtain ⟨p, ⟨o, e⟩, st⟩ := x; exact ⟨st _ _ p fun o q => k _ _ (.inl rfl) q, ⟨o, k _ _ (.inl rfl) e⟩, st⟩
theorem HOk.lt (x : HOk P w H h) (e : H a = some o) : a < h.objs.size := (x a o e).lt
theorem HOk.fresh (x : HOk P w H h) (e : h.objs.size ≤ a) : H a = none := by
  cases q : H a with
  | none => rfl
  | some u => exact absurd (Nat.lt_of_lt_of_le (x.lt q) e) (Nat.lt_irrefl _)
theorem HOk.kept (x : HOk P w H h) (k : ∀ b u, h.get? b = some u → h'.get? b = some u) : HOk P w H h' := fun a o e =>
  (x a o e).stay (fun b u _ q => k b u q) (fun _ q => q) fun _ _ q => q
theorem HOk.laid (x : HOk P w H h) (k : ∀ b u, h.get? b = some u → h'.get? b = some u) (hp : h.objs.size ≤ a) (new : ObjOk P w (upd H a o) h' a o) : HOk P w (upd H a o) h' := fun b u e => by
  have hn := x.fresh hp
  by_cases hb : b = a
  · subst hb; rw [upd_same] at e; cases e; exact new
  · rw [upd_ne hb] at e
    exact (x b u e).stay (fun c v _ q => k c v q) (fun c q => by rw [upd_ne (ne_of_none q hn)]; exact q) fun c xs q => by rw [upd_ne (ne_of_none q hn)]; exact q
end
def Rd (H : Hp) (a : Addr) (u : HO) : Prop := H a = some u ∨ ∃ o, H a = some (.frz o u)
theorem Rd.ok {P : Program} {w : World} {H : Hp} {h : Heap} {a : Addr} {u : HO} (r : Rd H a u) (x : HOk P w H h) : ObjOk P w H h a u := by
  rcases r with r | ⟨o, r⟩
  · exact x a u r
  · obtain ⟨_, q⟩ := x a _ r
    exact q
def Mut : Option HO → Prop
  | some (.lst _) => True
  | some (.dK _) => True
  | some (.dT _) => True
  | some (.set _ _) => True
  | some (.ins _ _ _) => True
  | some (.ext _) => True
  | _ => False
section
variable {P : Program} {w : World} {H : Hp} {h h' : Heap} {x e : Addr} {o' : HO}
theorem HOk.write (ok : HOk P w H h) (mu : Mut (H x)) (he : e = x ∨ H e = some (.own x)) (k : ∀ b u, b ≠ e → h.get? b = some u → h'.get? b = some u) (heo : ∃ u, h'.get? e = some u)
    (new : ObjOk P w (upd H x o') h' x o') : HOk P w (upd H x o') h' := fun b u q => by
  have nown : ∀ c y, H c = some (.own y) → c ≠ x := fun c y r z => by subst z; rw [r] at mu; exact mu
  have ntup : ∀ c xs, H c = some (.tup xs) → c ≠ x := fun c xs r z => by subst z; rw [r] at mu; exact mu
  by_cases hb : b = x
  · subst hb; rw [upd_same] at q; cases q; exact new
  · rw [upd_ne hb] at q
    by_cases hbe : b = e
    · have q' : H b = some (.own x) := by
        rcases he with z | z
        · exact absurd (hbe.trans z) hb
        · rw [hbe]; exact z
      rw [q] at q'; cases q'
      obtain ⟨v, hv⟩ := heo
      exact ⟨v, by rw [hbe]; exact hv⟩
    · refine (ok b u q).stay (fun c v hc r => k c v ?_ r) (fun c r => by rw [upd_ne (nown c b r)]; exact r) fun c xs r => by rw [upd_ne (ntup c xs r)]; exact r
      rcases hc with rfl | hc
      · exact hbe
      · rintro rfl
        rcases he with z | z
        · exact nown c b hc z
        · rw [hc] at z; cases z; exact hb rfl
end
structure Un (fs ex : List Addr) (H H' : Hp) (h h' : Heap) : Prop where
  keep : ∀ b o, h.get? b = some o → H b = none → b ∉ fs → b ∉ ex → h'.get? b = some o
  slot : ∀ b o, h.get? b = some o → H b = none → b ∈ fs → b ∉ ex → ∃ sl, h'.get? b = some { o with slots := sl }
  free : ∀ b o, h.get? b = some o → H b = none → b ∉ ex → H' b = none
  there : ∀ b o, h.get? b = some o → b ∉ ex → ∃ o', h'.get? b = some o'
  tups : ∀ b xs, H b = some (.tup xs) → H' b = some (.tup xs)
  frzs : ∀ b o u, H b = some (.frz o u) → H' b = some (.frz o u)
  tbls : ∀ b ps, H b = some (.tbl ps) → ∃ more, H' b = some (.tbl (ps ++ more))
section
variable {fs fs' ex ex' : List Addr} {H H1 H2 : Hp} {h h1 h2 h' : Heap} {a x e : Addr} {o : HO}
theorem Un.any (u : Un fs ex H H1 h h1) {b : Addr} {ob : Obj} (q : h.get? b = some ob) (n : H b = none) (hx : b ∉ ex) : ∃ sl, h1.get? b = some { ob with slots := sl } := by
  by_cases hb : b ∈ fs
  · exact u.slot b ob q n hb hx
  · exact ⟨ob.slots, u.keep b ob q n hb hx⟩
theorem Un.kept (k : ∀ b u, h.get? b = some u → h'.get? b = some u) : Un fs ex H H h h' :=
  ⟨fun b ob q _ _ _ => k b ob q, fun b ob q _ _ _ => ⟨ob.slots, k b ob q⟩, fun _ _ _ n _ => n, fun b ob q _ => ⟨ob, k b ob q⟩, fun _ _ q => q, fun _ _ _ q => q, fun _ ps q => ⟨#[], by rw [q]; simp⟩⟩
theorem Un.refl : Un fs ex H H h h := Un.kept fun _ _ q => q
theorem Un.laid (k : ∀ b u, h.get? b = some u → h'.get? b = some u) (hp : h.objs.size ≤ a) (hn : H a = none) : Un fs ex H (upd H a o) h h' where
  keep := fun b u q _ _ _ => k b u q
  slot := fun b u q _ _ _ => ⟨u.slots, k b u q⟩
  free := fun b u q n _ => by rw [upd_ne (Nat.ne_of_lt (Nat.lt_of_lt_of_le (Heap.lt_size q) hp))]; exact n
  there := fun b u q _ => ⟨u, k b u q⟩
  tups := fun b xs q => by rw [upd_ne (ne_of_none q hn)]; exact q
  frzs := fun b u xs q => by rw [upd_ne (ne_of_none q hn)]; exact q
  tbls := fun b ps q => ⟨#[], by rw [upd_ne (ne_of_none q hn), q]; simp⟩
theorem Un.write (mu : Mut (H x)) (he : e = x ∨ H e = some (.own x)) (k : ∀ b u, b ≠ e → h.get? b = some u → h'.get? b = some u) (heo : ∃ u, h'.get? e = some u) : Un fs ex H (upd H x o) h h' := by
  have hx : ∀ b, H b = none → b ≠ x := fun b n z => by subst z; rw [n] at mu; exact mu
  have hb : ∀ b, H b = none → b ≠ e := fun b n z => by
    subst z
    rcases he with r | r
    · exact hx b n r
    · rw [n] at r; cases r
  have hm : ∀ b u, H b = some u → ¬ Mut (some u) → b ≠ x := fun b u q nm z => by subst z; rw [q] at mu; exact nm mu
  refine ⟨fun b u q n _ _ => k b u (hb b n) q, fun b u q n _ _ => ⟨u.slots, k b u (hb b n) q⟩, fun b u q n _ => by rw [upd_ne (hx b n)]; exact n, fun b u q _ => ?_,
    fun b xs q => by rw [upd_ne (hm b _ q fun z => z)]; exact q, fun b u xs q => by rw [upd_ne (hm b _ q fun z => z)]; exact q, fun b ps q => ⟨#[], by rw [upd_ne (hm b _ q fun z => z), q]; simp⟩⟩
  by_cases hbe : b = e
  · subst hbe; exact heo
  · exact ⟨u, k b u hbe q⟩
end
def trk (h : Heap) (H : Hp) : List Addr := (List.range h.objs.size).filter fun a => (H a).isSome
def hidT (h : Heap) (H : Hp) : Heap := PySem.W.hideAll h (trk h H)
theorem hidT_size (h : Heap) (H : Hp) : (hidT h H).objs.size = h.objs.size := PySem.W.hideAll_size _ _
theorem hidT_get {h : Heap} {H : Hp} {b : Addr} {o : Obj} (e : h.get? b = some o) (n : H b = none) : (hidT h H).get? b = some o :=
  PySem.W.hideAll_get _ e fun hm => by
    have q : (H b).isSome = true := (List.mem_filter.mp hm).2
    rw [n] at q; simp at q
theorem of_hidT {h : Heap} {H : Hp} {b : Addr} {o : Obj} (e : (hidT h H).get? b = some o) : h.get? b = some o ∧ H b = none := by
  have e' : h.get? b = some o := PySem.W.of_hideAll (trk h H) e
  refine ⟨e', ?_⟩
  cases q : H b with
  | none => rfl
  | some x =>
    have hm : b ∈ trk h H := List.mem_filter.mpr ⟨List.mem_range.mpr (Heap.lt_size e'), by simp [q]⟩
    have z : (hidT h H).get? b = none := PySem.W.hideAll_none (trk h H) hm
    rw [z] at e; cases e
end L2
namespace L2
open PySem PySem.Spec PyProof.Rows
structure Mod (K : PySem.W.Frag) (mg : Str → Option Value) (base : Heap) : Prop where
  kin : K.In base
  glob : base.Ns mainGlobals mg
  blt : ∃ mb, base.Ns builtinsNs mb ∧ ∀ x : Str, x ≠ "__name__" → mb x = bootBuiltins x
  nolimit : base.NoLimit
structure Cx where
  prog : Program
  w : World
  K : PySem.W.Frag
  mg : Str → Option Value
  base : Heap
  A : Around
  N : List Str
  s_0 : Shared
  H_0 : Hp
  env : Env
  outer : List Env
  stack : List Env
  ex : List Addr
  fn : Str → Bool
  calm : Bool
  pn : List (Addr × Obj)
  xe : Value → Shared → Prop
def frs (l : List Env) : List Addr := l.filterMap (·.frame)
abbrev Cx.fs (X : Cx) : List Addr := frs X.outer
def Vis (sc : Scope) (x : Str) : Prop := sc.names.lookup x = some .local ∨ sc.names.lookup x = some .cell ∨ sc.names.lookup x = some .free
def Loc (sc : Scope) (x : Str) : Prop := sc.names.lookup x = some .local ∨ sc.names.lookup x = some .cell
def Look (env : Env) (h : Heap) (m : Str → Option Value) (x : Str) (u : Value) : Prop :=
  (env.kindOf x = some .local ∧ m x = some u) ∨ ((env.kindOf x = some .cell ∨ env.kindOf x = some .free) ∧ ∃ c, env.cells.lookup x = some c ∧ h.IsCell c (some u))
structure Cx.Ok (X : Cx) : Prop where
  mod : Mod X.K X.mg X.base
  kind : X.env.scope.kind = .function
  glob : X.env.globals = mainGlobals
  blt : X.env.builtins = builtinsNs
  above : X.s_0.heap.objs.size ≤ X.env.locals
  inj : ∀ x y c, X.env.cells.lookup x = some c → X.env.cells.lookup y = some c → x = y
  has : ∀ x, (X.env.kindOf x = some .cell ∨ X.env.kindOf x = some .free) → ∃ c, X.env.cells.lookup x = some c
  cab : ∀ x c, X.fn x = true → X.env.cells.lookup x = some c → X.s_0.heap.objs.size ≤ c
  hd : X.calm = true → X.A.handled = none
  frames : X.A.frames = some X.stack
  stk : X.stack = X.outer ∨ (X.stack = X.env :: X.outer ∧ X.env.frame = some X.env.locals)
  exf : ∀ b ∈ X.ex, b ≠ X.env.locals ∧ ∀ x c, X.env.cells.lookup x = some c → c ≠ b
  bs : ∀ b o, X.base.get? b = some o → X.s_0.heap.get? b = some o ∧ X.H_0 b = none
  bsz : X.base.objs.size ≤ X.s_0.heap.objs.size
  noex : ∀ b o, X.base.get? b = some o → b ∉ X.ex
  exfs : ∀ b ∈ X.ex, b ∉ X.fs
  funs : X.s_0.heap.FunFrames X.base X.outer
  frf : ∀ b ∈ X.fs, X.H_0 b = none
structure Inv (X : Cx) (pins : List (Addr × Obj)) (σ : List (Option V)) (H : Hp) (s : Shared) : Prop where
  ok : X.Ok
  os : s.os = X.s_0.os
  bare : AllBare s.gens
  base : Un X.fs X.ex X.H_0 H X.s_0.heap s.heap
  loc : ∃ m, s.heap.Ns X.env.locals m ∧ ∀ (i : Nat) (x : Str) (v : V), X.N[i]? = some x → σ[i]? = some (some v) → Vis X.env.scope x → ∃ u, RelV v u ∧ Look X.env s.heap m x u
  cell : ∀ x c, X.env.cells.lookup x = some c → ∃ v, s.heap.IsCell c v
  free : H X.env.locals = none
  freeC : ∀ x c, X.env.cells.lookup x = some c → H c = none
  pin : ∀ p ∈ X.pn ++ pins, s.heap.get? p.1 = some p.2 ∧ H p.1 = none ∧ p.1 ≠ X.env.locals ∧ p.1 ∉ X.fs ∧ ∀ v, p.2.data ≠ .cell v
  hok : HOk X.prog X.w H s.heap
  len : σ.length = X.N.length
section
variable {X : Cx} {pins : List (Addr × Obj)} {σ : List (Option V)} {H H' : Hp} {s : Shared} {h' : Heap}
theorem Cx.Ok.nofr (ok : X.Ok) {b : Addr} {o : Obj} (e : X.base.get? b = some o) : b ∉ X.fs := fun hb => by
  have := (ok.funs.mem hb).1
  rw [e] at this; cases this
theorem Inv.bs (I : Inv X pins σ H s) : ∀ b o, X.base.get? b = some o → s.heap.get? b = some o ∧ H b = none := fun b o e =>
  ⟨I.base.keep b o (I.ok.bs b o e).1 (I.ok.bs b o e).2 (I.ok.nofr e) (I.ok.noex b o e), I.base.free b o (I.ok.bs b o e).1 (I.ok.bs b o e).2 (I.ok.noex b o e)⟩
theorem Inv.bk (I : Inv X pins σ H s) : ∀ b o, X.base.get? b = some o → s.heap.get? b = some o := fun b o e => (I.bs b o e).1
theorem Inv.mod (I : Inv X pins σ H s) : Mod X.K X.mg X.base := I.ok.mod
theorem Inv.kIn (I : Inv X pins σ H s) : X.K.In s.heap := I.ok.mod.kin.keeps I.bk
theorem Inv.nolimit (I : Inv X pins σ H s) : s.heap.NoLimit := I.ok.mod.nolimit.keeps I.bk
theorem Inv.fr (I : Inv X pins σ H s) : ∃ m, Fr X.base X.env.locals s.heap m :=
  let ⟨m, hn, _⟩ := I.loc
  ⟨m, hn, I.bk, Nat.le_trans I.ok.bsz I.ok.above⟩
theorem Inv.lt (I : Inv X pins σ H s) : X.env.locals < s.heap.objs.size := let ⟨_, hn, _⟩ := I.loc; hn.lt
theorem Inv.sz (I : Inv X pins σ H s) : X.s_0.heap.objs.size ≤ s.heap.objs.size := Nat.le_trans I.ok.above (Nat.le_of_lt I.lt)
theorem Inv.nofs (I : Inv X pins σ H s) {a : Addr} (h : s.heap.objs.size ≤ a) : a ∉ X.fs := fun hb => by
  obtain ⟨_, o, ho, _⟩ := I.ok.funs.mem hb
  exact absurd (Nat.lt_of_lt_of_le (Heap.lt_size ho) (Nat.le_trans I.sz h)) (Nat.lt_irrefl _)
theorem Inv.cne (I : Inv X pins σ H s) : ∀ x c, X.env.cells.lookup x = some c → c ≠ X.env.locals := fun x c e z => by
  obtain ⟨v, o, ho, hd⟩ := I.cell x c e
  obtain ⟨m, ⟨o', es, ep, ho', hd', _⟩, _⟩ := I.loc
  rw [z, ho'] at ho; cases ho; rw [hd'] at hd; cases hd
theorem Inv.funs (I : Inv X pins σ H s) : s.heap.FunFrames X.base X.outer := by
  have all : ∀ (l : List Env), (∀ b ∈ frs l, b ∈ X.fs) → X.s_0.heap.FunFrames X.base l → s.heap.FunFrames X.base l := by
    intro l
    induction l with
    | nil => intro _ _; trivial
    | cons env r ih =>
      intro hs hl
      obtain ⟨hk, ⟨L, o, hf, hn, ho, hd⟩, hr⟩ := hl
      have hL : L ∈ X.fs := hs L (by unfold frs; rw [List.filterMap_cons, hf]; exact List.mem_cons_self)
      obtain ⟨sl, e⟩ := I.base.slot L o ho (I.ok.frf L hL) hL fun z => I.ok.exfs L z hL
      exact ⟨hk, ⟨L, _, hf, hn, e, hd⟩, ih (fun b hb => hs b (by unfold frs; rw [List.filterMap_cons, hf]; exact List.mem_cons_of_mem _ hb)) hr⟩
  exact all X.outer (fun _ hb => hb) I.ok.funs
theorem Inv.stack (I : Inv X pins σ H s) : s.heap.FunFrames X.base X.stack := by
  rcases I.ok.stk with e | ⟨e, hf⟩
  · rw [e]; exact I.funs
  · rw [e]
    obtain ⟨m, hn, _⟩ := I.loc
    refine .cons (by rw [I.ok.kind]; decide) hf hn ?_ I.funs
    exact Heap.get?_none_of_le (Nat.le_trans I.ok.bsz I.ok.above)
theorem Inv.stkSub (I : Inv X pins σ H s) : ∀ b ∈ frs X.stack, b ∈ X.env.locals :: X.fs := fun b hb => by
  rcases I.ok.stk with e | ⟨e, hf⟩
  · rw [e] at hb; exact List.mem_cons_of_mem _ hb
  · rw [e] at hb
    unfold frs at hb
    rw [List.filterMap_cons, hf] at hb
    exact hb
theorem Inv.stkFree (I : Inv X pins σ H s) : ∀ b ∈ frs X.stack, H b = none := fun b hb => by
  rcases List.mem_cons.mp (I.stkSub b hb) with e | hb
  · rw [e]; exact I.free
  · obtain ⟨_, o, ho, _⟩ := I.ok.funs.mem hb
    exact I.base.free b o ho (I.ok.frf b hb) fun z => I.ok.exfs b z hb
theorem Inv.step {g' : Array GenState} {t' : Nat} {d' : Drawn} {ch : List Addr} (I : Inv X pins σ H s)
    (hch : ∀ b ∈ ch, (b ∈ X.ex ∨ X.s_0.heap.objs.size ≤ b) ∧ b ≠ X.env.locals ∧ (∀ x c, X.env.cells.lookup x = some c → c ≠ b) ∧ ∀ p ∈ X.pn ++ pins, p.1 ≠ b)
    (keep : ∀ b o, b ≠ X.env.locals → b ∉ X.fs → b ∉ ch → s.heap.get? b = some o → H b = none → h'.get? b = some o)
    (slot : ∀ b o, b ≠ X.env.locals → b ∈ X.fs → b ∉ ch → s.heap.get? b = some o → H b = none → ∃ sl, h'.get? b = some { o with slots := sl }) (free : ∀ b o, b ∉ ch → s.heap.get? b = some o → H b = none → H' b = none)
    (there : ∀ b o, b ∉ ch → s.heap.get? b = some o → ∃ o', h'.get? b = some o')
    (tups : ∀ b xs, H b = some (.tup xs) → H' b = some (.tup xs)) (frzs : ∀ b o u, H b = some (.frz o u) → H' b = some (.frz o u)) (tbls : ∀ b ps, H b = some (.tbl ps) → ∃ more, H' b = some (.tbl (ps ++ more)))
    (ns : ∀ m, s.heap.Ns X.env.locals m → h'.Ns X.env.locals m) (hok : HOk X.prog X.w H' h') (hg : AllBare g') :
    Inv X pins σ H' { s with heap := h', gens := g', drawn := d', toks := t' } := by
  have neL : ∀ b o, X.s_0.heap.get? b = some o → b ≠ X.env.locals := fun b o e => Nat.ne_of_lt (Nat.lt_of_lt_of_le (Heap.lt_size e) I.ok.above)
  have neC : ∀ b o, X.s_0.heap.get? b = some o → b ∉ X.ex → b ∉ ch := fun b o e hx hb => by
    rcases (hch b hb).1 with z | z
    · exact hx z
    · exact absurd (Nat.lt_of_lt_of_le (Heap.lt_size e) z) (Nat.lt_irrefl _)
  have cellK : ∀ x c, X.env.cells.lookup x = some c → ∀ v, s.heap.IsCell c v → h'.IsCell c v := fun x c e v ⟨o, ho, hd⟩ => by
    have nch : c ∉ ch := fun z => (hch c z).2.2.1 x c e rfl
    by_cases hc : c ∈ X.fs
    · obtain ⟨sl, q⟩ := slot c o (I.cne x c e) hc nch ho (I.freeC x c e)
      exact ⟨_, q, hd⟩
    · exact ⟨o, keep c o (I.cne x c e) hc nch ho (I.freeC x c e), hd⟩
  refine ⟨I.ok, I.os, hg, ⟨fun b o e n hb hx => ?_, fun b o e n hb hx => ?_, fun b o e n hx => ?_, fun b o e hx => ?_, fun b xs e => tups b xs (I.base.tups b xs e), fun b o xs e => frzs b o xs (I.base.frzs b o xs e), fun b ps e => ?_⟩, ?_, fun x c e => ?_, ?_, fun x c e => ?_, fun p hp => ?_, hok, I.len⟩
  · exact keep b o (neL b o e) hb (neC b o e hx) (I.base.keep b o e n hb hx) (I.base.free b o e n hx)
  · obtain ⟨sl, e1⟩ := I.base.slot b o e n hb hx
    obtain ⟨sl', e2⟩ := slot b _ (neL b o e) hb (neC b o e hx) e1 (I.base.free b o e n hx)
    exact ⟨sl', e2⟩
  · obtain ⟨o', e1⟩ := I.base.there b o e hx
    exact free b o' (neC b o e hx) e1 (I.base.free b o e n hx)
  · obtain ⟨o', e1⟩ := I.base.there b o e hx
    exact there b o' (neC b o e hx) e1
  · obtain ⟨m1, e1⟩ := I.base.tbls b ps e
    obtain ⟨m2, e2⟩ := tbls b _ e1
    exact ⟨m1 ++ m2, by rw [e2, Array.append_assoc]⟩
  · obtain ⟨m, hn, hl⟩ := I.loc
    refine ⟨m, ns m hn, fun i x v e1 e2 e3 => ?_⟩
    obtain ⟨u, r, l⟩ := hl i x v e1 e2 e3
    refine ⟨u, r, ?_⟩
    rcases l with l | ⟨k, c, e, z⟩
    · exact .inl l
    · exact .inr ⟨k, c, e, cellK x c e _ z⟩
  · obtain ⟨v, z⟩ := I.cell x c e
    exact ⟨v, cellK x c e v z⟩
  · obtain ⟨m, ⟨o, _, _, ho, _⟩, _⟩ := I.loc
    exact free _ o (fun z => (hch _ z).2.1 rfl) ho I.free
  · obtain ⟨v, o, ho, hd⟩ := I.cell x c e
    exact free c o (fun z => (hch c z).2.2.1 x c e rfl) ho (I.freeC x c e)
  · obtain ⟨e, n, ne, nf, d⟩ := I.pin p hp
    have nch : p.1 ∉ ch := fun z => (hch p.1 z).2.2.2 p hp rfl
    exact ⟨keep p.1 p.2 ne nf nch e n, free p.1 p.2 nch e n, ne, nf, d⟩
theorem Inv.un {t' : Nat} (I : Inv X pins σ H s) (u : Un X.fs [] H H' s.heap h') (hok : HOk X.prog X.w H' h') : Inv X pins σ H' { s with heap := h', toks := t' } := by
  obtain ⟨m, ⟨o, es, ep, ho, r⟩, _⟩ := id I.loc
  obtain ⟨sl, hL⟩ := u.any ho I.free (by simp)
  exact I.step (g' := s.gens) (d' := s.drawn) (ch := []) (fun _ z => nomatch z) (fun b o _ hb _ e n => u.keep b o e n hb (by simp)) (fun b o _ hb _ e n => u.slot b o e n hb (by simp)) (fun b o _ e n => u.free b o e n (by simp)) (fun b o _ e => u.there b o e (by simp)) u.tups u.frzs u.tbls (fun m' hm => by
    obtain ⟨o', es', ep', ho', r'⟩ := hm
    rw [ho] at ho'; cases ho'
    exact ⟨_, es', ep', hL, r'⟩) hok I.bare
theorem Inv.call {g' : Array GenState} {t' : Nat} {d' : Drawn} {ch : List Addr} (I : Inv X pins σ H s) (u : Un (frs X.stack) ch H H' s.heap h') (hok : HOk X.prog X.w H' h') (hg : AllBare g')
    (hch : ∀ b ∈ ch, (b ∈ X.ex ∨ X.s_0.heap.objs.size ≤ b) ∧ b ≠ X.env.locals ∧ (∀ x c, X.env.cells.lookup x = some c → c ≠ b) ∧ ∀ p ∈ X.pn ++ pins, p.1 ≠ b) :
    Inv X pins σ H' { s with heap := h', gens := g', drawn := d', toks := t' } := by
  obtain ⟨m, ⟨o, es, ep, ho, r⟩, _⟩ := id I.loc
  obtain ⟨sl, hL⟩ := u.any ho I.free fun z => (hch _ z).2.1 rfl
  exact I.step (ch := ch) hch (fun b o hL hb hc e n => u.keep b o e n (fun z => (List.mem_cons.mp (I.stkSub b z)).elim hL hb) hc) (fun b o _ _ hc e n => u.any e n hc) (fun b o hc e n => u.free b o e n hc) (fun b o hc e => u.there b o e hc) u.tups u.frzs u.tbls (fun m' hm => by
    obtain ⟨o', es', ep', ho', r'⟩ := hm
    rw [ho] at ho'; cases ho'
    exact ⟨_, es', ep', hL, r'⟩) hok hg
theorem Inv.turned {t' : Nat} {it : Addr} (I : Inv X pins σ H s) (k : ∀ b o, b ≠ it → s.heap.get? b = some o → h'.get? b = some o) (hn : H it = none) (hL : it ≠ X.env.locals)
    (h1 : it ∈ X.ex ∨ X.s_0.heap.objs.size ≤ it) (h2 : ∀ x c, X.env.cells.lookup x = some c → c ≠ it) (h3 : ∀ p ∈ X.pn ++ pins, p.1 ≠ it) : Inv X pins σ H { s with heap := h', toks := t' } := by
  have nit : ∀ b u, H b = some u → b ≠ it := fun b u e z => by rw [z, hn] at e; cases e
  refine I.step (g' := s.gens) (d' := s.drawn) (ch := [it]) (fun b hb => ?_) (fun b o _ _ hc e _ => k b o (fun z => hc (by simp [z])) e) (fun b o _ _ hc e _ => ⟨o.slots, k b o (fun z => hc (by simp [z])) e⟩) (fun _ _ _ _ n => n)
    (fun b o hc e => ⟨o, k b o (fun z => hc (by simp [z])) e⟩) (fun _ _ e => e) (fun _ _ _ e => e) (fun b ps e => ⟨#[], by rw [e]; simp⟩) (fun m hm => ?_) (fun b u e => ?_) I.bare
  · have e : b = it := by simpa using hb
    subst e
    exact ⟨h1, hL, h2, h3⟩
  · obtain ⟨o, es, ep, ho, r⟩ := hm
    exact ⟨o, es, ep, k _ o (Ne.symm hL) ho, r⟩
  · refine (I.hok b u e).stay (fun c v hc q => k c v ?_ q) (fun _ q => q) fun _ _ q => q
    rcases hc with z | z
    · rw [z]; exact nit b u e
    · exact nit c _ z
theorem Inv.tok (I : Inv X pins σ H s) (t : Nat) : Inv X pins σ H { s with toks := t } := I.un (h' := s.heap) (t' := t) Un.refl I.hok
theorem Inv.kept {t' : Nat} (I : Inv X pins σ H s) (k : ∀ b u, s.heap.get? b = some u → h'.get? b = some u) : Inv X pins σ H { s with heap := h', toks := t' } := I.un (Un.kept k) (I.hok.kept k)
theorem Inv.laid {a : Addr} {o : HO} {t' : Nat} (I : Inv X pins σ H s) (k : ∀ b u, s.heap.get? b = some u → h'.get? b = some u) (hp : s.heap.objs.size ≤ a) (new : ObjOk X.prog X.w (upd H a o) h' a o) :
    Inv X pins σ (upd H a o) { s with heap := h', toks := t' } := I.un (Un.laid k hp (I.hok.fresh hp)) (I.hok.laid k hp new)
theorem Inv.write {x e : Addr} {o : HO} {t' : Nat} (I : Inv X pins σ H s) (mu : Mut (H x)) (he : e = x ∨ H e = some (.own x)) (k : ∀ b u, b ≠ e → s.heap.get? b = some u → h'.get? b = some u) (heo : ∃ u, h'.get? e = some u)
    (new : ObjOk X.prog X.w (upd H x o) h' x o) : Inv X pins σ (upd H x o) { s with heap := h', toks := t' } := I.un (Un.write mu he k heo) (I.hok.write mu he k heo new)
theorem Inv.weak {σ' : List (Option V)} (I : Inv X pins σ H s) (hl : σ'.length = σ.length) (w : ∀ (i : Nat) v, σ'[i]? = some (some v) → σ[i]? = some (some v)) : Inv X pins σ' H s :=
  ⟨I.ok, I.os, I.bare, I.base, let ⟨m, hn, hl'⟩ := I.loc; ⟨m, hn, fun i x v e1 e2 e3 => hl' i x v e1 (w i v e2) e3⟩, I.cell, I.free, I.freeC, I.pin, I.hok, hl.trans I.len⟩
theorem Inv.pins_of {pins' : List (Addr × Obj)} (I : Inv X pins σ H s) (h : ∀ p ∈ pins', s.heap.get? p.1 = some p.2 ∧ H p.1 = none ∧ p.1 ≠ X.env.locals ∧ p.1 ∉ X.fs ∧ ∀ v, p.2.data ≠ .cell v) : Inv X pins' σ H s :=
  ⟨I.ok, I.os, I.bare, I.base, I.loc, I.cell, I.free, I.freeC, fun p hp => (List.mem_append.mp hp).elim (fun z => I.pin p (List.mem_append_left _ z)) (h p), I.hok, I.len⟩
theorem nodup_ix {N : List Str} (hN : N.Nodup) {i j : Nat} {x : Str} (a : N[i]? = some x) (b : N[j]? = some x) : i = j := by
  obtain ⟨h1, e1⟩ := List.getElem?_eq_some_iff.mp a
  obtain ⟨h2, e2⟩ := List.getElem?_eq_some_iff.mp b
  exact (List.getElem_inj hN).mp (e1.trans e2.symm)
theorem store_ok2 {M : Model} {A : Around} {E : Value → Shared → Prop} {i : Nat} {x : Str} {v : V} {u : Value} {Q : Unit → Shared → Prop} (I : Inv X pins σ H s) (hN : X.N.Nodup) (hi : X.N[i]? = some x) (hx : Loc X.env.scope x) (r : RelV v u)
    (h : ∀ s', Inv X pins (σ.set i (some v)) H s' → (∃ a, Heap.SameBut a s.heap s'.heap ∧ (a = X.env.locals ∨ X.env.cells.lookup x = some a)) → Q () s') (hf : X.fn x = true ∨ X.env.scope.names.lookup x = some .local := by first | exact .inl rfl | exact .inr rfl | assumption) : wpAny M A (storeName X.env x u) Q E s := by
  obtain ⟨m, hn, hl⟩ := id I.loc
  have hcls : (X.env.scope.kind == .class || (X.env.scope.kind == .module && X.env.locals != X.env.globals)) = false := by rw [I.ok.kind]; rfl
  have hiσ : i < σ.length := by rw [I.len]; exact (List.getElem?_eq_some_iff.mp hi).1
  have cne := I.cne
  have tracked : ∀ {a : Addr} {h' : Heap}, (∃ o, s.heap.get? a = some o ∧ H a = none) → Heap.SameBut a s.heap h' → HOk X.prog X.w H h' := fun {a h'} ha hs b ob e => by
    obtain ⟨_, _, hfree⟩ := ha
    refine (I.hok b ob e).stay (fun c w' hc q => (hs.2 c ?_).trans q) (fun _ q => q) fun _ _ q => q
    rintro rfl
    rcases hc with rfl | hc
    · rw [hfree] at e; cases e
    · rw [hfree] at hc; cases hc
  rcases hx with hk | hk
  · refine wpAny_storeName_local hk hn (fun h' hn' hs => ?_) hcls
    obtain ⟨oL, _, _, hoL, _⟩ := id hn
    refine h _ ⟨I.ok, I.os, I.bare, ⟨fun b o e n hb hx => ?_, fun b o e n hb hx => ?_, I.base.free, fun b o e hx => ?_, I.base.tups, I.base.frzs, I.base.tbls⟩, ⟨_, hn', fun j y v' e1 e2 e3 => ?_⟩, fun y c e => ?_, I.free, I.freeC, fun p hp => ?_, tracked ⟨oL, hoL, I.free⟩ hs, by simpa using I.len⟩ ⟨_, hs, .inl rfl⟩
    · exact (hs.2 b (Nat.ne_of_lt (Nat.lt_of_lt_of_le (Heap.lt_size e) I.ok.above))).trans (I.base.keep b o e n hb hx)
    · obtain ⟨sl, e1⟩ := I.base.slot b o e n hb hx
      exact ⟨sl, (hs.2 b (Nat.ne_of_lt (Nat.lt_of_lt_of_le (Heap.lt_size e) I.ok.above))).trans e1⟩
    · obtain ⟨o', e1⟩ := I.base.there b o e hx
      exact ⟨o', (hs.2 b (Nat.ne_of_lt (Nat.lt_of_lt_of_le (Heap.lt_size e) I.ok.above))).trans e1⟩
    · by_cases hj : j = i
      · subst hj
        rw [hi] at e1; cases e1
        rw [List.getElem?_set_self hiσ] at e2
        cases e2
        exact ⟨u, r, .inl ⟨hk, by simp⟩⟩
      · rw [List.getElem?_set_ne (Ne.symm hj)] at e2
        obtain ⟨u', r', q⟩ := hl j y v' e1 e2 e3
        refine ⟨u', r', ?_⟩
        rcases q with ⟨k, e⟩ | ⟨k, c, e, z⟩
        · refine .inl ⟨k, ?_⟩
          have : y ≠ x := fun e => hj (nodup_ix hN e1 (e ▸ hi))
          simp [this, e]
        · exact .inr ⟨k, c, e, z.sameBut hs (cne y c e)⟩
    · obtain ⟨w', z⟩ := I.cell y c e
      exact ⟨w', z.sameBut hs (cne y c e)⟩
    · obtain ⟨e, n, ne, nf, d⟩ := I.pin p hp
      exact ⟨(hs.2 p.1 ne).trans e, n, ne, nf, d⟩
  · have hfn : X.fn x = true := by
      rcases hf with z | z
      · exact z
      · rw [z] at hk; cases hk
    obtain ⟨c, hc⟩ := I.ok.has x (.inl hk)
    obtain ⟨w', z⟩ := I.cell x c hc
    refine wpAny_storeName_cell I.ok.kind hk hc z (fun h' hc' hs => ?_)
    obtain ⟨oc, hoc, hocd⟩ := id z
    refine h { s with heap := h' } ⟨I.ok, I.os, I.bare, ⟨fun b o e n hb hx => ?_, fun b o e n hb hx => ?_, I.base.free, fun b o e hx => ?_, I.base.tups, I.base.frzs, I.base.tbls⟩, ⟨m, hn.sameBut hs (Ne.symm (cne x c hc)), fun j y v' e1 e2 e3 => ?_⟩, fun y c' e => ?_, I.free, I.freeC, fun p hp => ?_, tracked ⟨oc, hoc, I.freeC x c hc⟩ hs, by simpa using I.len⟩ ⟨c, hs, .inr hc⟩
    · exact (hs.2 b (Nat.ne_of_lt (Nat.lt_of_lt_of_le (Heap.lt_size e) (I.ok.cab x c hfn hc)))).trans (I.base.keep b o e n hb hx)
    · obtain ⟨sl, e1⟩ := I.base.slot b o e n hb hx
      exact ⟨sl, (hs.2 b (Nat.ne_of_lt (Nat.lt_of_lt_of_le (Heap.lt_size e) (I.ok.cab x c hfn hc)))).trans e1⟩
    · obtain ⟨o', e1⟩ := I.base.there b o e hx
      exact ⟨o', (hs.2 b (Nat.ne_of_lt (Nat.lt_of_lt_of_le (Heap.lt_size e) (I.ok.cab x c hfn hc)))).trans e1⟩
    · by_cases hj : j = i
      · subst hj
        rw [hi] at e1; cases e1
        rw [List.getElem?_set_self hiσ] at e2
        cases e2
        exact ⟨u, r, .inr ⟨.inl hk, c, hc, hc'⟩⟩
      · rw [List.getElem?_set_ne (Ne.symm hj)] at e2
        obtain ⟨u', r', q⟩ := hl j y v' e1 e2 e3
        refine ⟨u', r', ?_⟩
        rcases q with q | ⟨k, c', e, z'⟩
        · exact .inl q
        · refine .inr ⟨k, c', e, z'.sameBut hs ?_⟩
          rintro rfl
          exact hj (nodup_ix hN e1 (I.ok.inj _ _ _ e hc ▸ hi))
    · by_cases hcc : c' = c
      · subst hcc; exact ⟨_, hc'⟩
      · obtain ⟨w2, z2⟩ := I.cell y c' e
        exact ⟨w2, z2.sameBut hs hcc⟩
    · obtain ⟨e, n, ne, nf, d⟩ := I.pin p hp
      refine ⟨(hs.2 p.1 ?_).trans e, n, ne, nf, d⟩
      intro q
      rw [q, hoc] at e
      have q' : oc = p.2 := Option.some.inj e
      exact d w' (by rw [← q']; exact hocd)
theorem store_ok {M : Model} {A : Around} {E : Value → Shared → Prop} {i : Nat} {x : Str} {v : V} {u : Value} {Q : Unit → Shared → Prop} (I : Inv X pins σ H s) (hN : X.N.Nodup) (hi : X.N[i]? = some x) (hx : Loc X.env.scope x) (r : RelV v u)
    (h : ∀ s', Inv X pins (σ.set i (some v)) H s' → Q () s') (hf : X.fn x = true ∨ X.env.scope.names.lookup x = some .local := by first | exact .inl rfl | exact .inr rfl | assumption) : wpAny M A (storeName X.env x u) Q E s :=
  store_ok2 I hN hi hx r (fun s' I' _ => h s' I') hf
theorem Inv.call' {s' : Shared} {ch : List Addr} (I : Inv X pins σ H s) (ho : s'.os = s.os) (u : Un (frs X.stack) ch H H' s.heap s'.heap) (hok : HOk X.prog X.w H' s'.heap) (hg : AllBare s'.gens)
    (hch : ∀ b ∈ ch, (b ∈ X.ex ∨ X.s_0.heap.objs.size ≤ b) ∧ b ≠ X.env.locals ∧ (∀ x c, X.env.cells.lookup x = some c → c ≠ b) ∧ ∀ p ∈ X.pn ++ pins, p.1 ≠ b) : Inv X pins σ H' s' := by
  obtain ⟨h', g', d', t', o'⟩ := s'
  have e : o' = s.os := ho
  subst e
  exact I.call (g' := g') (t' := t') (d' := d') u hok hg hch
end
abbrev XK := Value → Option Addr → Hp → Prop
abbrev St := List (Option V)
abbrev VK := V → Hp → Prop
abbrev TE := St → Hp → VK → Prop
abbrev TT := St → Hp → (Bool → Hp → Prop) → Prop
abbrev TA := St → Hp → (List V → Hp → Prop) → Prop
structure Ends where
  nx : St → Hp → Prop
  rt : VK
  bk : St → Hp → Prop := fun _ _ => False
  ct : St → Hp → Prop := fun _ _ => False
abbrev TS := Ends → St → Hp → Prop
def EP (X : Cx) (pins : List (Addr × Obj)) (σ : St) (Q : VK) (u : Value) (s' : Shared) : Prop := ∃ v H', Inv X pins σ H' s' ∧ RelV v u ∧ Q v H'
def TP (X : Cx) (pins : List (Addr × Obj)) (σ : St) (Q : Bool → Hp → Prop) (b : Bool) (s' : Shared) : Prop := ∃ H', Inv X pins σ H' s' ∧ Q b H'
def AP (X : Cx) (pins : List (Addr × Obj)) (σ : St) (Q : List V → Hp → Prop) (us : List Value) (s' : Shared) : Prop := ∃ vs H', Inv X pins σ H' s' ∧ Vals vs us ∧ Q vs H'
def SP (X : Cx) (pins : List (Addr × Obj)) (D : Ends) (f : Flow) (s' : Shared) : Prop :=
  match f with
  | .next => ∃ σ' H', Inv X pins σ' H' s' ∧ D.nx σ' H'
  | .brk => ∃ σ' H', Inv X pins σ' H' s' ∧ D.bk σ' H'
  | .cont => ∃ σ' H', Inv X pins σ' H' s' ∧ D.ct σ' H'
  | .ret u => ∃ v σ' H', Inv X pins σ' H' s' ∧ RelV v u ∧ D.rt v H'
def PE (X : Cx) (e : Expr) (t : TE) : Prop :=
  ∀ (pins : List (Addr × Obj)) (s : Shared) (σ : St) (H : Hp) (Q : VK), Inv X pins σ H s → t σ H Q → wpAny (model X.prog X.w) X.A (eval e X.env) (EP X pins σ Q) X.xe s
def PT (X : Cx) (e : Expr) (t : TT) : Prop :=
  ∀ (pins : List (Addr × Obj)) (s : Shared) (σ : St) (H : Hp) (Q : Bool → Hp → Prop), Inv X pins σ H s → t σ H Q → wpAny (model X.prog X.w) X.A (isTrue e X.env (eval e X.env)) (TP X pins σ Q) X.xe s
def PW (X : Cx) (e : Expr) (t : TT) : Prop :=
  ∀ (whole : Sem Value) (pins : List (Addr × Obj)) (s : Shared) (σ : St) (H : Hp) (Q : Bool → Hp → Prop), Inv X pins σ H s → t σ H Q → wpAny (model X.prog X.w) X.A (isTrue e X.env whole) (TP X pins σ Q) X.xe s
theorem PW.pt {X : Cx} {e : Expr} {t : TT} (h : PW X e t) : PT X e t := h _
def PA (X : Cx) (es : List Expr) (t : TA) : Prop :=
  ∀ (pos : Pos) (pins : List (Addr × Obj)) (s : Shared) (σ : St) (H : Hp) (Q : List V → Hp → Prop), Inv X pins σ H s → t σ H Q → wpAny (model X.prog X.w) X.A (spliced (backTo pos (starEach es X.env))) (AP X pins σ Q) X.xe s
def PS (X : Cx) (st : Stmt) (t : TS) : Prop :=
  ∀ (pins : List (Addr × Obj)) (s : Shared) (σ : St) (H : Hp) (D : Ends), Inv X pins σ H s → t D σ H → wpAny (model X.prog X.w) X.A (exec st X.env) (SP X pins D) X.xe s
def PSs (X : Cx) (st : List Stmt) (t : TS) : Prop :=
  ∀ (pins : List (Addr × Obj)) (s : Shared) (σ : St) (H : Hp) (D : Ends), Inv X pins σ H s → t D σ H → wpAny (model X.prog X.w) X.A (execs st X.env) (SP X pins D) X.xe s
theorem thn {α : Type} {t : Sem α} {Q Q' : α → Shared → Prop} {M : Model} {A : Around} {E : Value → Shared → Prop} {s : Shared} (h : wpAny M A t Q E s) (hQ : ∀ a s, Q a s → Q' a s) : wpAny M A t Q' E s := wpAny_mono h hQ fun _ _ x => x
end L2
namespace L2
open PySem PySem.Spec PyProof.Rows
section
variable {X : Cx}
theorem bin {a b : Expr} {ta tb : TE} (ha : PE X a ta) (hb : PE X b tb) {pins : List (Addr × Obj)} {s : Shared} {σ : St} {H : Hp} {R : V → V → Hp → Prop} (I : Inv X pins σ H s) (h : ta σ H fun x H1 => tb σ H1 fun y H2 => R x y H2)
    {α : Type} {Q : α → Shared → Prop} {f : Value → Value → Sem α}
    (hf : ∀ v u s2 x y H2, Inv X pins σ H2 s2 → RelV x v → RelV y u → R x y H2 → wpAny (model X.prog X.w) X.A (f v u) Q X.xe s2) :
    wpAny (model X.prog X.w) X.A (eval a X.env) (fun v s₁ => wpAny (model X.prog X.w) X.A (eval b X.env) (fun u s₂ => wpAny (model X.prog X.w) X.A (f v u) Q X.xe s₂) X.xe s₁) X.xe s := by
  refine thn (ha pins s σ H _ I h) fun v s1 ⟨x, H1, I1, r1, q1⟩ => ?_
  refine thn (hb pins s1 σ H1 _ I1 q1) fun u s2 ⟨y, H2, I2, r2, q2⟩ => ?_
  exact hf v u s2 x y H2 I2 r1 r2 q2
def tVar (i : Nat) : TE := fun σ H Q => ∃ v, σ[i]? = some (some v) ∧ Q v H
def tC (v : V) : TE := fun _ H Q => Q v H
theorem pe_var {i : Nat} {x : Str} {pos : Pos} (hN : X.N[i]? = some x) (hv : Vis X.env.scope x) (hd : (x == ("__debug__" : Str)) = false := by decide) (hcd : (x == ("__classdict__" : Str)) = false := by decide) : PE X (.Name x pos) (tVar i) := by
  intro pins s σ H Q I h
  obtain ⟨v, e, h⟩ := h
  obtain ⟨m, hn, hl⟩ := I.loc
  obtain ⟨u, r, l⟩ := hl i x v hN e hv
  have fin : EP X pins σ Q u s := ⟨v, H, I, r, h⟩
  rcases l with ⟨hk, hm⟩ | ⟨hk, c, hc, hcell⟩
  · exact wpAny_Name (wpAny_loadName_local I.ok.kind hk hn hm fin) hd
  · rcases hk with hk | hk
    · exact wpAny_Name (wpAny_loadName_cell I.ok.kind hk hc hcell fin) hd
    · exact wpAny_Name (wpAny_loadName_free I.ok.kind hk hc hcell fin hcd) hd
theorem pe_int {i j pos} : PE X (.Constant (.int i) j pos) (tC (.int i)) := fun _ _ _ H _ I h => wpAny_Constant_int ⟨.int i, H, I.tok _, ⟨_, rfl⟩, h⟩
theorem pe_bl {b j pos} : PE X (.Constant (.bool b) j pos) (tC (.bl b)) := fun _ _ _ H _ I h => Constant_bool ⟨.bl b, H, I, rfl, h⟩
theorem pe_non {j pos} : PE X (.Constant .none j pos) (tC .non) := fun _ _ _ H _ I h => Constant_none ⟨.non, H, I, rfl, h⟩
def Gl (X : Cx) (x : Str) : Prop := X.env.kindOf x = some .globalImplicit
theorem ld_glob {E : Value → Shared → Prop} {pins : List (Addr × Obj)} {s : Shared} {σ : St} {H : Hp} {x : Str} {u : Value} {pos : Pos} {Q : Value → Shared → Prop} (I : Inv X pins σ H s) (hg : Gl X x) (hm : X.mg x = some u) (h : Q u s)
    (hd : (x == ("__debug__" : Str)) = false := by decide) : wpAny (model X.prog X.w) X.A (eval (.Name x pos) X.env) Q E s :=
  Calls.Name_function_global I.ok.kind hg (Calls.loadGlobal_global (by rw [I.ok.glob]; exact I.mod.glob.keeps I.bk) hm h) hd
theorem ld_blt {E : Value → Shared → Prop} {pins : List (Addr × Obj)} {s : Shared} {σ : St} {H : Hp} {x : Str} {u : Value} {pos : Pos} {Q : Value → Shared → Prop} (I : Inv X pins σ H s) (hg : Gl X x) (hm : X.mg x = none) (hv : bootBuiltins x = some u) (h : Q u s)
    (hn : x ≠ "__name__" := by decide) (hd : (x == ("__debug__" : Str)) = false := by decide) : wpAny (model X.prog X.w) X.A (eval (.Name x pos) X.env) Q E s := by
  obtain ⟨mb, h1, h2⟩ := I.mod.blt
  exact Calls.Name_function_global I.ok.kind hg (Calls.loadGlobal_builtin (by rw [I.ok.glob]; exact I.mod.glob.keeps I.bk) hm (by rw [I.ok.blt]; exact h1.keeps I.bk) ((h2 x hn).trans hv) h) hd
theorem pe_glob {x : Str} {v : V} {u : Value} {pos : Pos} (hg : Gl X x) (hm : X.mg x = some u) (r : RelV v u) (hd : (x == ("__debug__" : Str)) = false := by decide) : PE X (.Name x pos) (tC v) :=
  fun _ _ _ H _ I h => ld_glob I hg hm ⟨v, H, I, r, h⟩ hd
variable {a b : Expr} {ta tb : TE} {pos : Pos}
def PC (X : Cx) (op : CmpOp) (a b : Expr) (t : TE) : Prop :=
  ∀ (pins : List (Addr × Obj)) (s : Shared) (σ : St) (H : Hp) (Q : VK), Inv X pins σ H s → t σ H Q →
    wpAny (model X.prog X.w) X.A (eval a X.env) (fun v s₁ => wpAny (model X.prog X.w) X.A (eval b X.env) (fun u s₂ => wpAny (model X.prog X.w) X.A (compareOp op v u) (EP X pins σ Q) X.xe s₂) X.xe s₁) X.xe s
theorem nobehind (b : Expr) {op : CmpOp} (h : op ≠ .In) (h2 : op ≠ .NotIn) : behindInMarks op b = false := by
  have e1 : (op == CmpOp.In) = false := by cases op <;> first | rfl | exact absurd rfl h
  have e2 : (op == CmpOp.NotIn) = false := by cases op <;> first | rfl | exact absurd rfl h2
  cases b <;> simp [behindInMarks, e1, e2]
def tIsN (ta : TE) : TE := fun σ H Q => ta σ H fun x H1 => Q (.bl (decide (x = .non))) H1
def tNotN (ta : TE) : TE := fun σ H Q => ta σ H fun x H1 => Q (.bl (!decide (x = .non))) H1
theorem RelV.none_iff {x : V} {v : Value} (r : RelV x v) : (v == Value.none) = decide (x = .non) := by
  cases x with
  | non => cases r; rfl
  | bl _ => cases r; rfl
  | int _ => obtain ⟨t, rfl⟩ := r; rfl
  | str _ => obtain ⟨t, rfl⟩ := r; rfl
  | byt _ => obtain ⟨t, rfl⟩ := r; rfl
  | flt _ => obtain ⟨t, rfl⟩ := r; rfl
  | ref _ => cases r; rfl
  | ty _ => cases r; rfl
theorem pc_isN {j pos'} (ha : PE X a ta) : PC X .Is a (.Constant .none j pos') (tIsN ta) := by
  intro pins s σ H Q I h
  refine thn (ha pins s σ H _ I h) fun v s1 ⟨x, H1, I1, r1, q1⟩ => ?_
  exact Constant_none (is_none_gen ⟨.bl _, H1, I1, by rw [r1.none_iff]; rfl, q1⟩)
theorem pc_notN {j pos'} (ha : PE X a ta) : PC X .IsNot a (.Constant .none j pos') (tNotN ta) := by
  intro pins s σ H Q I h
  refine thn (ha pins s σ H _ I h) fun v s1 ⟨x, H1, I1, r1, q1⟩ => ?_
  exact Constant_none (isnot_none_gen ⟨.bl _, H1, I1, by rw [r1.none_iff]; rfl, q1⟩)
def tB (t : TE) : TT := fun σ H Q => t σ H fun x H1 => ∃ c, x = .bl c ∧ Q c H1
theorem pe_cmp {op : CmpOp} {t : TE} (h : PC X op a b t) (h1 : behindInMarks op b = false := by first | exact nobehind _ (by decide) (by decide) | rfl) : PE X (.Compare a [op] [b] pos) t := fun pins s σ H Q I hw => wpAny_Compare1 (h pins s σ H Q I hw) h1
theorem pt_cmp {op : CmpOp} {t : TE} (h : PC X op a b t) (h1 : behindInMarks op b = false := by first | exact nobehind _ (by decide) (by decide) | rfl) : PT X (.Compare a [op] [b] pos) (tB t) := by
  intro pins s σ H Q I hw
  refine wpAny_isTrue_Compare1 (thn (h pins s σ H _ I hw) fun v s1 h1 => thn h1 fun u s2 h2 => thn h2 fun c s3 ⟨x, H1, I1, r1, q1⟩ => ?_) h1
  obtain ⟨d, rfl, q⟩ := q1
  cases r1
  exact wpAny_truthy_bool ⟨H1, I1, q⟩
theorem pt_val {e : Expr} {t : TE} (h : PE X e t) (he : ∀ whole, isTrue e X.env whole = (do let v ← whole; standAt e.pos; holding [v] (truthy v)) := by intro _; rfl) : PT X e (tB t) := by
  intro pins s σ H Q I hw
  refine isTrue_plain (thn (h pins s σ H _ I hw) fun v s1 ⟨x, H1, I1, r1, q1⟩ => ?_) (he _)
  obtain ⟨d, rfl, q⟩ := q1
  cases r1
  exact wpAny_truthy_bool ⟨H1, I1, q⟩
variable {tA tB' : TT} {rest : List Expr}
def tAnd (t u : TT) : TT := fun σ H Q => t σ H fun c H1 => if c = true then u σ H1 Q else Q false H1
def tOr (t u : TT) : TT := fun σ H Q => t σ H fun c H1 => if c = true then Q true H1 else u σ H1 Q
def tNot (t : TT) : TT := fun σ H Q => t σ H fun c H1 => Q (!c) H1
theorem pw_and1 (ha : PT X a tA) : PW X (.BoolOp .And [a] pos) tA := by
  intro wh pins s σ H Q I h
  refine isTrue_and (thn (ha pins s σ H Q I h) fun c s1 e => ?_)
  cases c with
  | true => exact isTrue_and_nil e
  | false => exact e
theorem pw_or1 (ha : PT X a tA) : PW X (.BoolOp .Or [a] pos) tA := by
  intro wh pins s σ H Q I h
  refine isTrue_or (thn (ha pins s σ H Q I h) fun c s1 e => ?_)
  cases c with
  | false => exact isTrue_or_nil e
  | true => exact e
theorem pw_and (ha : PT X a tA) (hb : PW X (.BoolOp .And (b :: rest) pos) tB') : PW X (.BoolOp .And (a :: b :: rest) pos) (tAnd tA tB') := by
  intro wh pins s σ H Q I h
  refine isTrue_and (thn (ha pins s σ H _ I h) fun c s1 ⟨H1, I1, q1⟩ => ?_)
  cases c with
  | true => exact hb wh pins s1 σ H1 Q I1 q1
  | false => exact ⟨H1, I1, q1⟩
theorem pw_or (ha : PT X a tA) (hb : PW X (.BoolOp .Or (b :: rest) pos) tB') : PW X (.BoolOp .Or (a :: b :: rest) pos) (tOr tA tB') := by
  intro wh pins s σ H Q I h
  refine isTrue_or (thn (ha pins s σ H _ I h) fun c s1 ⟨H1, I1, q1⟩ => ?_)
  cases c with
  | true => exact ⟨H1, I1, q1⟩
  | false => exact hb wh pins s1 σ H1 Q I1 q1
theorem pt_not (ha : PT X a tA) : PT X (.UnaryOp .Not a pos) (tNot tA) := by
  intro pins s σ H Q I h
  exact isTrue_not (ha pins s σ H (fun c H1 => Q (!c) H1) I h)
def tAndV (ta tb : TE) : TE := fun σ H Q => ta σ H fun x H1 => ∃ c, x = .bl c ∧ if c = true then tb σ H1 Q else Q (.bl false) H1
def tNotV (ta : TE) : TE := fun σ H Q => ta σ H fun x H1 => ∃ c, x = .bl c ∧ Q (.bl (!c)) H1
theorem pe_one {op} {t : TE} (h : PE X a t) : PE X (.BoolOp op [a] pos) t := fun pins s σ H Q I hw => BoolOp_one (h pins s σ H Q I hw)
theorem pe_and (ha : PE X a ta) (hb : PE X (.BoolOp .And (b :: rest) pos) tb) : PE X (.BoolOp .And (a :: b :: rest) pos) (tAndV ta tb) := by
  intro pins s σ H Q I h
  refine BoolOp_and (thn (ha pins s σ H _ I h) fun v s1 ⟨x, H1, I1, r1, q1⟩ => ?_)
  obtain ⟨c, rfl, q1⟩ := q1
  cases r1
  refine wpAny_truthy_bool ?_
  cases c with
  | true => exact hb pins s1 σ H1 Q I1 q1
  | false => exact ⟨.bl false, H1, I1, rfl, q1⟩
theorem pe_not (ha : PE X a ta) : PE X (.UnaryOp .Not a pos) (tNotV ta) := by
  intro pins s σ H Q I h
  refine UnaryOp_ (thn (ha pins s σ H _ I h) fun v s1 ⟨x, H1, I1, r1, q1⟩ => ?_)
  obtain ⟨c, rfl, q1⟩ := q1
  cases r1
  exact not_of (wpAny_truthy_bool ⟨.bl (!c), H1, I1, rfl, q1⟩)
def tIf (t : TT) (ta tb : TE) : TE := fun σ H Q => t σ H fun c H1 => if c = true then ta σ H1 Q else tb σ H1 Q
theorem pe_ifExp {c : Expr} (hc : PT X c tA) (ha : PE X a ta) (hb : PE X b tb) : PE X (.IfExp c a b pos) (tIf tA ta tb) := by
  intro pins s σ H Q I h
  refine wpAny_IfExp (thn (hc pins s σ H _ I h) fun d s1 ⟨H1, I1, q1⟩ => ?_)
  cases d with
  | true => exact ha pins s1 σ H1 Q I1 q1
  | false => exact hb pins s1 σ H1 Q I1 q1
end
end L2
namespace L2
open PySem PySem.Spec PyProof.Rows
def SqL (K : PySem.W.Frag) (H : Hp) (a : Addr) (xs : List V) : Prop :=
  Rd H a (.lst xs) ∨
    ∃ (o : Obj) (its : Array Value) (n : Nat), K.lookup a = some o ∧ o.cls = .type "list" ∧ o.dict = none ∧ o.data = .seq its n ∧ its.size ≤ sizeLine ∧ Vals xs its.toList
def SqT (K : PySem.W.Frag) (H : Hp) (a : Addr) (xs : List V) : Prop :=
  Rd H a (.tup xs) ∨
    ∃ (o : Obj) (its : Array Value) (n : Nat), K.lookup a = some o ∧ o.cls = .type "tuple" ∧ o.data = .seq its n ∧ its.size ≤ sizeLine ∧ Vals xs its.toList
def absV : Value → Option V
  | .none => some .non
  | .bool b => some (.bl b)
  | .int i _ => some (.int i)
  | .str x _ => some (.str x)
  | .bytes b _ => some (.byt b)
  | .float b _ => some (.flt b)
  | .ref a => some (.ref a)
  | .type n => some (.ty n)
  | _ => none
theorem RelV.abs {x : V} {u : Value} (r : RelV x u) : absV u = some x := by
  cases x with
  | non => cases r; rfl
  | bl _ => cases r; rfl
  | int _ => obtain ⟨t, rfl⟩ := r; rfl
  | str _ => obtain ⟨t, rfl⟩ := r; rfl
  | byt _ => obtain ⟨t, rfl⟩ := r; rfl
  | flt _ => obtain ⟨t, rfl⟩ := r; rfl
  | ref _ => cases r; rfl
  | ty _ => cases r; rfl
theorem RelV.inj {x y : V} {u : Value} (r : RelV x u) (q : RelV y u) : x = y := Option.some.inj (r.abs.symm.trans q.abs)
theorem Vals.inj : ∀ {xs ys : List V} {us : List Value}, Vals xs us → Vals ys us → xs = ys
  | _, _, _, .nil, .nil => rfl
  | _, _, _, .cons r t, .cons r' t' => by rw [r.inj r', Vals.inj t t']
section
variable {X : Cx} {pins : List (Addr × Obj)} {σ : St} {H : Hp} {s : Shared} {a : Addr} {xs ys : List V}
theorem SqL.of {K : PySem.W.Frag} (h : H a = some (.lst xs)) : SqL K H a xs := .inl (.inl h)
theorem SqT.of {K : PySem.W.Frag} (h : H a = some (.tup xs)) : SqT K H a xs := .inl (.inl h)
theorem Inv.list (I : Inv X pins σ H s) (h : SqL X.K H a xs) : ∃ its : List Value, Vals xs its ∧ PlainL s.heap a its.toArray ∧ xs.length ≤ sizeLine := by
  rcases h with h | ⟨o, its, n, hk, hc, hd, hs, hz, r⟩
  · obtain ⟨z, its, n, r, e⟩ := h.ok I.hok
    exact ⟨its, r, ⟨_, n, e, rfl, rfl, rfl⟩, z⟩
  · refine ⟨its.toList, r, ⟨o, n, I.kIn a o hk, hc, hd, by simpa using hs⟩, ?_⟩
    have e := r.length
    simp only [Array.length_toList] at e
    omega
theorem Inv.tuple (I : Inv X pins σ H s) (h : SqT X.K H a xs) : ∃ its : List Value, Vals xs its ∧ IsTup s.heap a its.toArray ∧ xs.length ≤ sizeLine := by
  rcases h with h | ⟨o, its, n, hk, hc, hs, hz, r⟩
  · obtain ⟨z, its, r, p⟩ := h.ok I.hok
    exact ⟨its, r, p, z⟩
  · refine ⟨its.toList, r, ⟨o, I.kIn a o hk, hc, n, by simpa using hs⟩, ?_⟩
    have e := r.length
    simp only [Array.length_toList] at e
    omega
theorem Inv.list_inj (I : Inv X pins σ H s) (h : SqL X.K H a xs) (h' : SqL X.K H a ys) : xs = ys := by
  obtain ⟨its, r, ⟨o, n, e, _, _, d⟩, _⟩ := I.list h
  obtain ⟨its', r', ⟨o', n', e', _, _, d'⟩, _⟩ := I.list h'
  rw [e] at e'; cases e'
  rw [d] at d'
  injection d' with d1 _
  have : its = its' := by simpa using congrArg Array.toList d1
  subst this
  exact r.inj r'
end
abbrev Cx.wish (X : Cx) (E : Value → Shared → Prop) : Cx := { X with xe := E }
abbrev Cx.nox (X : Cx) : Cx := X.wish fun _ _ => False
theorem Cx.Ok.wish {X : Cx} (ok : X.Ok) (E : Value → Shared → Prop) : (X.wish E).Ok :=
  ⟨ok.mod, ok.kind, ok.glob, ok.blt, ok.above, ok.inj, ok.has, ok.cab, ok.hd, ok.frames, ok.stk, ok.exf, ok.bs, ok.bsz, ok.noex, ok.exfs, ok.funs, ok.frf⟩
theorem Cx.Ok.unwish {X : Cx} {E : Value → Shared → Prop} (ok : (X.wish E).Ok) : X.Ok :=
  ⟨ok.mod, ok.kind, ok.glob, ok.blt, ok.above, ok.inj, ok.has, ok.cab, ok.hd, ok.frames, ok.stk, ok.exf, ok.bs, ok.bsz, ok.noex, ok.exfs, ok.funs, ok.frf⟩
section
variable {X : Cx} {pins : List (Addr × Obj)} {σ : St} {H : Hp} {s : Shared} {E : Value → Shared → Prop}
theorem Inv.wish (I : Inv X pins σ H s) (E : Value → Shared → Prop) : Inv (X.wish E) pins σ H s := ⟨I.ok.wish E, I.os, I.bare, I.base, I.loc, I.cell, I.free, I.freeC, I.pin, I.hok, I.len⟩
theorem Inv.unwish (I : Inv (X.wish E) pins σ H s) : Inv X pins σ H s := ⟨I.ok.unwish, I.os, I.bare, I.base, I.loc, I.cell, I.free, I.freeC, I.pin, I.hok, I.len⟩
theorem SP.unwish {D : Ends} {f : Flow} {s' : Shared} (h : SP (X.wish E) pins D f s') : SP X pins D f s' := by
  cases f with
  | next => obtain ⟨σ', H', I, q⟩ := h; exact ⟨σ', H', I.unwish, q⟩
  | brk => obtain ⟨σ', H', I, q⟩ := h; exact ⟨σ', H', I.unwish, q⟩
  | cont => obtain ⟨σ', H', I, q⟩ := h; exact ⟨σ', H', I.unwish, q⟩
  | ret u => obtain ⟨v, σ', H', I, r, q⟩ := h; exact ⟨v, σ', H', I.unwish, r, q⟩
theorem PSs.nox {st : List Stmt} {t : TS} (h : PSs X.nox st t) : PSs X st t := fun pins s σ H D I hw =>
  wpAny_mono (h pins s σ H D (I.wish _) hw) (fun _ _ q => q.unwish) fun _ _ z => False.elim z
end
section
variable {X : Cx} {st : Stmt} {rest : List Stmt} {t u : TS} {e : Expr} {te : TE} {pos : Pos}
def tNext : TS := fun D σ H => D.nx σ H
def tSeq (t u : TS) : TS := fun D σ H => t { D with nx := u D } σ H
theorem pss_nil : PSs X [] tNext := fun _ _ σ H _ I h => wpAny_execs_nil ⟨σ, H, I, h⟩
theorem pss_cons (h1 : PS X st t) (h2 : PSs X rest u) : PSs X (st :: rest) (tSeq t u) := by
  intro pins s σ H D I h
  refine wpAny_execs_cons (thn (h1 pins s σ H { D with nx := u D } I h) fun f s1 q => ?_)
  cases f with
  | next =>
    obtain ⟨σ', H', I', q⟩ := q
    exact h2 pins s1 σ' H' D I' q
  | ret v => exact q
  | brk => exact q
  | cont => exact q
theorem pss_one (h1 : PS X st t) : PSs X [st] t := by
  intro pins s σ H D I h
  refine wpAny_execs_cons (thn (h1 pins s σ H D I h) fun f s1 q => ?_)
  cases f with
  | next => exact wpAny_execs_nil q
  | ret v => exact q
  | brk => exact q
  | cont => exact q
theorem Inv.quiet {pins : List (Addr × Obj)} {σ : St} {H : Hp} {s : Shared} (I : Inv X pins σ H s) : interactive X.env = false := by simp [interactive, I.ok.kind]
def tDrop (te : TE) : TS := fun D σ H => te σ H fun _ H1 => D.nx σ H1
theorem ps_expr (he : PE X e te) (hs : swapsWith e none pos.line X.env = pure false := by rfl) : PS X (.Expr e pos) (tDrop te) := by
  intro pins s σ H D I h
  exact wpAny_Expr_any (thn (he pins s σ H _ I h) fun v s1 ⟨x, H1, I1, r1, q1⟩ => ⟨σ, H1, I1, q1⟩) I.quiet hs
def tRet (te : TE) : TS := fun D σ H => te σ H D.rt
theorem ps_ret (he : PE X e te) : PS X (.Return (some e) pos) (tRet te) := by
  intro pins s σ H D I h
  exact wpAny_Return_some (thn (he pins s σ H _ I h) fun v s1 ⟨x, H1, I1, r1, q1⟩ => ⟨x, σ, H1, I1, r1, q1⟩)
def tIfS (c : TT) (t u : TS) : TS := fun D σ H => c σ H fun b H1 => if b = true then t D σ H1 else u D σ H1
theorem ps_if {c : Expr} {a b : List Stmt} {tc : TT} (hc : PT X c tc) (ha : PSs X a t) (hb : PSs X b u) : PS X (.If c a b pos) (tIfS tc t u) := by
  intro pins s σ H D I h
  refine wpAny_If (thn (hc pins s σ H _ I h) fun d s1 ⟨H1, I1, q1⟩ => ?_)
  cases d with
  | true => exact ha pins s1 σ H1 D I1 q1
  | false => exact hb pins s1 σ H1 D I1 q1
end
abbrev TG := V → St → Hp → (St → Hp → Prop) → Prop
abbrev TGs := List V → St → Hp → (St → Hp → Prop) → Prop
def PG (X : Cx) (target : Expr) (t : TG) : Prop :=
  ∀ (pins : List (Addr × Obj)) (s : Shared) (σ : St) (H : Hp) (v : V) (u : Value) (Q : St → Hp → Prop), Inv X pins σ H s → RelV v u → t v σ H Q →
    wpAny (model X.prog X.w) X.A (assign target X.env u) (fun _ s' => ∃ σ' H', Inv X pins σ' H' s' ∧ Q σ' H') X.xe s
def PGs (X : Cx) (ts : List Expr) (t : TGs) : Prop :=
  ∀ (pins : List (Addr × Obj)) (s : Shared) (σ : St) (H : Hp) (vs : List V) (us : List Value) (Q : St → Hp → Prop), Inv X pins σ H s → Vals vs us → t vs σ H Q →
    wpAny (model X.prog X.w) X.A (assignInOrder ((assignEach ts X.env).map (·.2)) us) (fun _ s' => ∃ σ' H', Inv X pins σ' H' s' ∧ Q σ' H') X.xe s
abbrev TSet := V → V → V → Hp → (Hp → Prop) → Prop
def PSet (X : Cx) (t : TSet) : Prop :=
  ∀ (pins : List (Addr × Obj)) (s : Shared) (σ : St) (H : Hp) (o i v : V) (ov iv u : Value) (Q : Hp → Prop), Inv X pins σ H s → RelV o ov → RelV i iv → RelV v u → t o i v H Q →
    wpAny (model X.prog X.w) X.A (setItem ov iv u) (fun _ s' => ∃ H', Inv X pins σ H' s' ∧ Q H') X.xe s
abbrev TIp := V → V → Hp → VK → Prop
def PIp (X : Cx) (op : Operator) (t : TIp) : Prop :=
  ∀ (pins : List (Addr × Obj)) (s : Shared) (σ : St) (H : Hp) (x y : V) (v u : Value) (Q : VK), Inv X pins σ H s → RelV x v → RelV y u → t x y H Q →
    wpAny (model X.prog X.w) X.A (inplaceOp op v u) (EP X pins σ Q) X.xe s
section
variable {X : Cx} {pos : Pos}
def gName (i : Nat) : TG := fun v σ H Q => Q (σ.set i (some v)) H
theorem pg_name {i : Nat} {x : Str} (hN : X.N.Nodup) (hi : X.N[i]? = some x) (hx : Loc X.env.scope x) (hf : X.fn x = true ∨ X.env.scope.names.lookup x = some .local := by first | exact .inl rfl | exact .inr rfl | assumption) : PG X (.Name x pos) (gName i) := by
  intro pins s σ H v u Q I r h
  exact wpAny_assign_Name (store_ok I hN hi hx r (fun s' I' => ⟨_, H, I', h⟩) hf)
def gNil : TGs := fun vs σ H Q => vs = [] ∧ Q σ H
def gCons (t : TG) (u : TGs) : TGs := fun vs σ H Q => ∃ v r, vs = v :: r ∧ t v σ H fun σ' H' => u r σ' H' Q
theorem pgs_nil : PGs X [] gNil := by
  intro pins s σ H vs us Q I r h
  obtain ⟨e, h⟩ := h
  subst e
  cases r
  exact assignInOrder_nil ⟨σ, H, I, h⟩
theorem pgs_cons {e : Expr} {es : List Expr} {t : TG} {u : TGs} (h1 : PG X e t) (h2 : PGs X es u)
    (hs : (assignEach (e :: es) X.env).map (·.2) = assign e X.env :: (assignEach es X.env).map (·.2) := by rfl) : PGs X (e :: es) (gCons t u) := by
  intro pins s σ H vs us Q I r h
  obtain ⟨v, vr, e1, h⟩ := h
  subst e1
  cases r with
  | cons r rr =>
    rw [hs]
    refine assignInOrder_cons (thn (h1 pins s σ H _ _ _ I r h) fun _ s1 ⟨σ1, H1, I1, q1⟩ => ?_)
    exact h2 pins s1 σ1 H1 _ _ Q I1 rr q1
def gTup (K : PySem.W.Frag) (n : Nat) (t : TGs) : TG := fun v σ H Q => ∃ a xs, v = .ref a ∧ SqT K H a xs ∧ xs.length = n ∧ t xs σ H Q
theorem pg_tup {es : List Expr} {k : Nat} {t : TGs} {n : Nat} (hc : X.calm = true) (h : PGs X es t)
    (hn : (assignEach es X.env).length = n := by rfl) (hst : (assignEach es X.env).findIdx? (·.1) = none := by rfl) : PG X (.Tuple es k pos) (gTup X.K n t) := by
  intro pins s σ H v u Q I r hw
  obtain ⟨a, xs, e1, hq, hl, hw⟩ := hw
  subst e1
  cases r
  obtain ⟨its, rv, ht, hz⟩ := I.tuple hq
  refine assign_Tuple_tuple (I.ok.hd hc) ht (by simp [hn, ← hl, rv.length]) hst fun h' hx => ?_
  have I1 : Inv X pins σ H { s with heap := h' } := I.kept (t' := s.toks) fun b o e => hx b o (Nat.ne_of_lt (Heap.lt_size e)) e
  exact h pins _ σ H xs _ Q I1 (by simpa using rv) hw
def gSub (to ti : TE) (t : TSet) : TG := fun v σ H Q => to σ H fun o H1 => ti σ H1 fun i H2 => t o i v H2 fun H3 => Q σ H3
theorem pg_sub {o i : Expr} {to ti : TE} {t : TSet} (ho : PE X o to) (hi : PE X i ti) (hs : PSet X t)
    (ha : ∀ v, assign (.Subscript o i pos) X.env v = (do
      let ov ← holding [v] (eval o X.env)
      let iv ← holding [v, ov] (eval i X.env)
      standAt pos
      holding [v, ov, iv] (setItem ov iv v)
      release [v, ov, iv] []) := by intro _; rfl) : PG X (.Subscript o i pos) (gSub to ti t) := by
  intro pins s σ H v u Q I r h
  rw [ha]
  refine wpAny_bind (wpAny_holding (thn (ho pins s σ H _ I h) fun ov s1 ⟨x, H1, I1, r1, q1⟩ => ?_))
  refine wpAny_bind (wpAny_holding (thn (hi pins s1 σ H1 _ I1 q1) fun iv s2 ⟨y, H2, I2, r2, q2⟩ => ?_))
  refine wpAny_bind (wpAny_standAt (wpAny_bind (wpAny_holding (thn (hs pins s2 σ H2 x y v ov iv u _ I2 r1 r2 r q2) fun _ s3 ⟨H3, I3, q3⟩ => ?_))))
  exact wpAny_release ⟨σ, H3, I3, q3⟩
def tAsg (te : TE) (g : TG) : TS := fun D σ H => te σ H fun x H1 => g x σ H1 D.nx
theorem ps_asg {tg e : Expr} {te : TE} {g : TG} (he : PE X e te) (hg : PG X tg g) (hs : swapsWithSole [tg] e pos.line X.env = pure false := by rfl) (hw : swappedStores [tg] e X.env = pure none := by rfl)
    (h1 : (assignEach [tg] X.env).map (·.2) = [assign tg X.env] := by rfl) : PS X (.Assign [tg] e pos) (tAsg te g) := by
  intro pins s σ H D I h
  refine wpAny_Assign_stores (thn (he pins s σ H _ I h) fun v s1 ⟨x, H1, I1, r1, q1⟩ => ?_) hs hw
  rw [h1]
  exact thn (hg pins s1 σ H1 x v _ I1 r1 q1) fun _ s2 q => q
theorem ps_set {i : Nat} {x : Str} {e : Expr} {te : TE} {pos' : Pos} (hN : X.N.Nodup) (hi : X.N[i]? = some x) (hx : Loc X.env.scope x) (he : PE X e te) (hs : swapsWith e (some (.Name x pos')) pos.line X.env = pure false := by rfl) (hf : X.fn x = true ∨ X.env.scope.names.lookup x = some .local := by first | exact .inl rfl | exact .inr rfl | assumption) :
    PS X (.Assign [.Name x pos'] e pos) (tAsg te (gName i)) := by
  intro pins s σ H D I h
  refine wpAny_Assign_Name (thn (he pins s σ H _ I h) fun v s1 ⟨y, H1, I1, r1, q1⟩ => ?_) hs
  exact store_ok I1 hN hi hx r1 (fun s2 I2 => ⟨_, H1, I2, q1⟩) hf
def tAug (i : Nat) (te : TE) (ti : TIp) : TS := fun D σ H => ∃ x, σ[i]? = some (some x) ∧ te σ H fun y H1 => ti x y H1 fun z H2 => D.nx (σ.set i (some z)) H2
theorem ps_aug {i : Nat} {x : Str} {e : Expr} {te : TE} {op : Operator} {ti : TIp} {pos' : Pos} (hN : X.N.Nodup) (hi : X.N[i]? = some x) (hx : Loc X.env.scope x) (he : PE X e te) (ho : PIp X op ti) (hf : X.fn x = true ∨ X.env.scope.names.lookup x = some .local := by first | exact .inl rfl | exact .inr rfl | assumption) :
    PS X (.AugAssign (.Name x pos') op e pos) (tAug i te ti) := by
  intro pins s σ H D I h
  obtain ⟨v, e1, h⟩ := h
  obtain ⟨m, hn, hl⟩ := I.loc
  have vis : Vis X.env.scope x := by rcases hx with k | k; exact .inl k; exact .inr (.inl k)
  obtain ⟨u, r, l⟩ := hl i x v hi e1 vis
  refine wpAny_AugAssign_Name ?_
  have go : wpAny (model X.prog X.w) X.A (eval e X.env) (fun w s₂ => wpAny (model X.prog X.w) X.A (inplaceOp op u w) (fun r s₃ => wpAny (model X.prog X.w) X.A (storeName X.env x r) (fun _ => SP X pins D .next) X.xe s₃) X.xe s₂) X.xe s := by
    refine thn (he pins s σ H _ I h) fun w s1 ⟨y, H1, I1, r1, q1⟩ => ?_
    refine thn (ho pins s1 σ H1 v y u w _ I1 r r1 q1) fun z s2 ⟨zv, H2, I2, r2, q2⟩ => ?_
    exact store_ok I2 hN hi hx r2 (fun s3 I3 => ⟨_, H2, I3, q2⟩) hf
  rcases l with ⟨hk, hm⟩ | ⟨hk, c, hc, hcell⟩
  · exact wpAny_loadName_local I.ok.kind hk hn hm go
  · rcases hk with hk | hk
    · exact wpAny_loadName_cell I.ok.kind hk hc hcell go
    · rcases hx with k | k
      · have : X.env.scope.names.lookup x = some .free := hk
        rw [k] at this; cases this
      · have : X.env.scope.names.lookup x = some .free := hk
        rw [k] at this; cases this
def tAugS (to ti te : TE) (tget : V → V → Hp → VK → Prop) (tip : TIp) (tset : TSet) : TS := fun D σ H => to σ H fun o H1 => ti σ H1 fun i H2 => tget o i H2 fun x H3 => te σ H3 fun y H4 => tip x y H4 fun z H5 => tset o i z H5 fun H6 => D.nx σ H6
def PGet (X : Cx) (t : V → V → Hp → VK → Prop) : Prop :=
  ∀ (pins : List (Addr × Obj)) (s : Shared) (σ : St) (H : Hp) (o i : V) (ov iv : Value) (Q : VK), Inv X pins σ H s → RelV o ov → RelV i iv → t o i H Q →
    wpAny (model X.prog X.w) X.A (getItem ov iv) (EP X pins σ Q) X.xe s
theorem ps_augS {o i e : Expr} {to ti te : TE} {tget : V → V → Hp → VK → Prop} {tip : TIp} {tset : TSet} {op : Operator} {tpos : Pos} (ho : PE X o to) (hi : PE X i ti) (hg : PGet X tget) (he : PE X e te) (hp : PIp X op tip) (hs : PSet X tset)
    (ha : ∀ ov iv new, augStore i ov iv new = (do holding [new, ov, iv] (setItem ov iv new); release [new, ov, iv] []; pure .next) := by intros; rfl) : PS X (.AugAssign (.Subscript o i tpos) op e pos) (tAugS to ti te tget tip tset) := by
  intro pins s σ H D I h
  refine wpAny_AugAssign_SubscriptAny (thn (ho pins s σ H _ I h) fun ov s1 ⟨x1, H1, I1, r1, q1⟩ => ?_) ha
  refine thn (hi pins s1 σ H1 _ I1 q1) fun iv s2 ⟨x2, H2, I2, r2, q2⟩ => ?_
  refine thn (hg pins s2 σ H2 x1 x2 ov iv _ I2 r1 r2 q2) fun old s3 ⟨x3, H3, I3, r3, q3⟩ => ?_
  refine thn (he pins s3 σ H3 _ I3 q3) fun v s4 ⟨x4, H4, I4, r4, q4⟩ => ?_
  refine thn (hp pins s4 σ H4 x3 x4 old v _ I4 r3 r4 q4) fun new s5 ⟨x5, H5, I5, r5, q5⟩ => ?_
  exact thn (hs pins s5 σ H5 x1 x2 x5 ov iv new _ I5 r1 r2 r5 q5) fun _ s6 ⟨H6, I6, q6⟩ => ⟨σ, H6, I6, q6⟩
def ipI (f : Int → Int → Int) : TIp := fun x y H Q => ∃ i j, x = .int i ∧ y = .int j ∧ Q (.int (f i j)) H
theorem ip_sub : PIp X .Sub (ipI fun i j => i - j) := by
  intro pins s σ H x y v u Q I r1 r2 h
  obtain ⟨i, j, e1, e2, q⟩ := h
  subst e1; subst e2
  obtain ⟨t, rfl⟩ := r1
  obtain ⟨t', rfl⟩ := r2
  exact isub_int ⟨.int _, H, I.tok _, ⟨_, rfl⟩, q⟩
end
section
variable {X : Cx} {pos : Pos}
def tWhile (c : TT) (tb : TS) : TS := fun D σ H => ∃ W : Nat → St → Hp → Prop, (∃ m, W m σ H) ∧ ∀ m σ H, W m σ H →
  c σ H fun b H1 => if b = true then ∃ N : St → Hp → Prop, (∀ σ' H', N σ' H' → ∃ m', m' < m ∧ W m' σ' H') ∧ tb { D with nx := N, ct := N, bk := D.nx } σ H1 else D.nx σ H1
theorem ps_while {c : Expr} {body : List Stmt} {tc : TT} {tb : TS} (hp : PassesOwn (model X.prog X.w) X.A X.env X.xe) (hc : PT X c tc) (hb : PSs X body tb) : PS X (.While c body [] pos) (tWhile tc tb) := by
  intro pins s σ H D I h
  obtain ⟨W, ⟨m0, w0⟩, turn⟩ := h
  refine wpAny_While (codeAny_whileLoop (fun n s' => ∃ σ' H', Inv X pins σ' H' s' ∧ W n σ' H') ?_ m0 ⟨σ, H, I, w0⟩)
  rintro n s1 ⟨σ1, H1, I1, w1⟩
  refine wpAny_passesOwn hp (thn (hc pins s1 σ1 H1 _ I1 (turn n σ1 H1 w1)) fun b s2 ⟨H2, I2, q2⟩ => ?_)
  cases b with
  | true =>
    obtain ⟨N, hN, q2⟩ := q2
    rw [if_pos rfl]
    refine wpAny_passesOwn hp (thn (hb pins s2 σ1 H2 _ I2 q2) fun f s3 q3 => ?_)
    cases f with
    | next =>
      obtain ⟨σ3, H3, I3, n3⟩ := q3
      obtain ⟨m', hm, w3⟩ := hN σ3 H3 n3
      exact ⟨m', hm, σ3, H3, I3, w3⟩
    | cont =>
      obtain ⟨σ3, H3, I3, n3⟩ := q3
      obtain ⟨m', hm, w3⟩ := hN σ3 H3 n3
      exact ⟨m', hm, σ3, H3, I3, w3⟩
    | brk => exact q3
    | ret v => exact q3
  | false =>
    rw [if_neg Bool.false_ne_true]
    exact wpAny_execs_nil ⟨σ1, H2, I2, q2⟩
end
structure It where
  go : Nat → Hp → Prop
  yld : Nat → Hp → V → Hp → Prop
  stop : Nat → Hp → Prop
def FpOk (X : Cx) (pins : List (Addr × Obj)) (H : Hp) (b : Addr) : Prop :=
  H b = none ∧ b ≠ X.env.locals ∧ b ∉ X.fs ∧ (b ∈ X.ex ∨ X.s_0.heap.objs.size ≤ b) ∧ (∀ x c, X.env.cells.lookup x = some c → c ≠ b) ∧ ∀ p ∈ X.pn ++ pins, p.1 ≠ b
theorem Inv.fpOk {X : Cx} {pins : List (Addr × Obj)} {σ : St} {H H' : Hp} {s : Shared} {b : Addr} (I : Inv X pins σ H s) (hb : s.heap.objs.size ≤ b) (hn : H' b = none) : FpOk X pins H' b := by
  refine ⟨hn, Nat.ne_of_gt (Nat.lt_of_lt_of_le I.lt hb), I.nofs hb, .inr (Nat.le_trans I.sz hb), fun x c e z => ?_, fun p hp z => ?_⟩
  · obtain ⟨v, q⟩ := I.cell x c e
    exact absurd (Nat.lt_of_lt_of_le q.lt (by rw [z]; exact hb)) (Nat.lt_irrefl _)
  · exact absurd (Nat.lt_of_lt_of_le (Heap.lt_size (I.pin p hp).1) (by rw [z]; exact hb)) (Nat.lt_irrefl _)
structure Turn (P : Program) (w : World) (K : PySem.W.Frag) (tg : Expr) (J : It) (fp : List Addr) (it : Addr) (tn : Nat → Heap → Prop) : Prop where
  mem : it ∈ fp
  obj : ∀ i h, tn i h → ∀ b ∈ fp, ∃ o, h.get? b = some o ∧ ∀ v, o.data ≠ .cell v
  keep : ∀ i h h', tn i h → (∀ b ∈ fp, ∀ o, h.get? b = some o → h'.get? b = some o) → tn i h'
  item : ∀ (X : Cx), X.prog = P → X.w = w → X.K = K → X.calm = true → ∀ (i : Nat) (pins : List (Addr × Obj)) (s : Shared) (σ : St) (H : Hp) (E : Value → Shared → Prop), Inv X pins σ H s → (∀ b ∈ fp, FpOk X pins H b) → tn i s.heap → J.go i H →
    wpAny (model P w) X.A (pyNext (.ref it)) (fun r s1 => ∃ u, r = some u ∧
      wpAny (model P w) X.A (letOwnedTupleGo tg (.ref it) u) (fun _ s2 => ∃ x H', Inv X pins σ H' s2 ∧ RelV x u ∧ J.yld i H x H' ∧ tn (i + 1) s2.heap ∧ ∀ b ∈ fp, H' b = none) E s1) E s
  done : ∀ (X : Cx), X.prog = P → X.w = w → X.K = K → X.calm = true → ∀ (i : Nat) (pins : List (Addr × Obj)) (s : Shared) (σ : St) (H : Hp) (E : Value → Shared → Prop), Inv X pins σ H s → (∀ b ∈ fp, FpOk X pins H b) → tn i s.heap → J.stop i H →
    wpAny (model P w) X.A (pyNext (.ref it)) (fun r s1 => r = none ∧ Inv X pins σ H s1) E s
  self : ∀ (A : Around) (i : Nat) (s : Shared) (Q : Value → Shared → Prop) (E : Value → Shared → Prop), tn i s.heap → Q (.ref it) s → wpAny (model P w) A (pyIter (.ref it)) Q E s
abbrev TI := St → Hp → (It → Hp → Prop) → Prop
def PIE (X : Cx) (pins : List (Addr × Obj)) (σ : St) (tg : Expr) (R : It → Hp → Prop) (itv : Value) (s2 : Shared) : Prop :=
  ∃ (it : Addr) (fp : List Addr) (tn : Nat → Heap → Prop) (J : It) (H' : Hp), itv = .ref it ∧ Inv X pins σ H' s2 ∧ Turn X.prog X.w X.K tg J fp it tn ∧ tn 0 s2.heap ∧ (∀ b ∈ fp, FpOk X pins H' b) ∧ R J H'
def PI (X : Cx) (tg iter : Expr) (wi : TI) : Prop :=
  ∀ (pins : List (Addr × Obj)) (s : Shared) (σ : St) (H : Hp) (R : It → Hp → Prop), Inv X pins σ H s → wi σ H R →
    wpAny (model X.prog X.w) X.A (eval iter X.env) (fun v s1 => wpAny (model X.prog X.w) X.A (pyIter v) (PIE X pins σ tg R) X.xe s1) X.xe s
theorem go_of {M : Model} {A : Around} {E : Value → Shared → Prop} {s : Shared} {tg : Expr} {it : Addr} {u : Value} {o : Obj} {n : String} {vs : Array Value} {Q : Unit → Shared → Prop} (ho : s.heap.get? it = some o) (hc : o.cls = .type n) (hd : o.data = .fields vs)
    (hn : ["enumerate", "zip", "dict_itemiterator", "dict_reverseitemiterator", "odict_iterator", "itertools.zip_longest", "itertools.pairwise"].contains n = false) (hQ : Q () s) : wpAny M A (letOwnedTupleGo tg (.ref it) u) Q E s := by
  unfold letOwnedTupleGo
  cases tg <;> first
    | exact wpAny_pure hQ
    | (cases u <;> first
        | exact wpAny_pure hQ
        | (refine wpAny_bind (wpAny_load ho ?_)
           rw [hc, hd]
           show wpAny M A (if (["enumerate", "zip", "dict_itemiterator", "dict_reverseitemiterator", "odict_iterator", "itertools.zip_longest", "itertools.pairwise"].contains n && vs[0]? == some (rawInt _)) = true then _ else _) Q E s
           rw [if_neg (by intro h; rw [hn, Bool.false_and] at h; cases h)]
           exact wpAny_pure hQ))
def Itl (K : PySem.W.Frag) (a : Addr) : It :=
  ⟨fun i H => ∃ xs x, SqL K H a xs ∧ xs[i]? = some x, fun i H x H' => H' = H ∧ ∀ xs, SqL K H a xs → xs[i]? = some x, fun i H => ∃ xs, SqL K H a xs ∧ xs.length ≤ i⟩
def Itr (lo : Int) (n : Nat) : It := ⟨fun i _ => i < n, fun i H x H' => H' = H ∧ x = .int (lo + i), fun i _ => n ≤ i⟩
theorem turn_list {P : Program} {w : World} {K : PySem.W.Frag} {tg : Expr} (a it : Addr) : Turn P w K tg (Itl K a) [it] it (fun i h => h.IsListIter it a i) where
  mem := by simp
  obj := fun i h st b hb => by
    have e : b = it := by simpa using hb
    subst e
    obtain ⟨o, e, c, d⟩ := st
    exact ⟨o, e, fun v z => by rw [d] at z; cases z⟩
  keep := fun i h h' st k => st.at fun o e => k it (by simp) o e
  item := by
    intro X hP hw hK hc i pins s σ H E I hf st hg
    subst hP hw hK
    obtain ⟨xs, x, hq, hx⟩ := hg
    obtain ⟨its, rv, p, hz⟩ := I.list hq
    obtain ⟨u, hu, ru⟩ := rv.get hx
    obtain ⟨f0, f1, f2, f3, f4, f5⟩ := hf it (by simp)
    refine wpAny_pyNext_list_item st p.isList (x := u) (by simpa using hu) fun h' st' sb => ?_
    have I1 : Inv X pins σ H { s with heap := h' } := I.turned (t' := s.toks) (fun b o hb e => (sb.2 b hb).trans e) f0 f1 f3 f4 f5
    obtain ⟨o, e, c, d⟩ := id st'
    exact ⟨u, rfl, go_of (s := { s with heap := h' }) e c d (by decide) ⟨x, H, I1, ru, ⟨rfl, fun ys hy => by rw [I.list_inj hy hq]; exact hx⟩, st', fun b hb => (hf b hb).1⟩⟩
  done := by
    intro X hP hw hK hc i pins s σ H E I hf st hg
    subst hP hw hK
    obtain ⟨xs, hq, hx⟩ := hg
    obtain ⟨its, rv, p, hz⟩ := I.list hq
    obtain ⟨f0, f1, f2, f3, f4, f5⟩ := hf it (by simp)
    have hl := rv.length
    exact wpAny_pyNext_list_end (I.ok.hd hc) st p.isList (by simp; omega) fun h' eb => ⟨rfl, I.turned (t' := s.toks) (fun b o hb e => eb b o hb e) f0 f1 f3 f4 f5⟩
  self := fun _ _ _ _ _ st h => wpAny_pyIter_listiter st h
theorem turn_range {P : Program} {w : World} {K : PySem.W.Frag} {tg : Expr} (it : Addr) (lo : Int) (n : Nat) : Turn P w K tg (Itr lo n) [it] it (fun i h => IsRangeIter h it (lo + (i : Nat) * 1) ((n : Int) - (i : Nat)) 1) where
  mem := by simp
  obj := fun i h st b hb => by
    have e : b = it := by simpa using hb
    subst e
    exact ⟨_, st, fun v z => by
      have z' : Data.fields _ = Data.cell v := z
      cases z'⟩
  keep := fun i h h' st k => k it (by simp) _ st
  item := by
    intro X hP hw hK hc i pins s σ H E I hf st hg
    subst hP hw hK
    obtain ⟨f0, f1, f2, f3, f4, f5⟩ := hf it (by simp)
    have W := Walks.range (prog := X.prog) (w := X.w) (I.ok.hd hc) it lo 1 n
    refine W.item i s _ _ hg st fun v h' tk hv st' kk => ?_
    obtain ⟨t, rfl⟩ := hv
    have I1 : Inv X pins σ H { s with heap := h', toks := tk } := I.turned (fun b o hb e => kk b o (by simpa using hb) e) f0 f1 f3 f4 f5
    refine ⟨_, rfl, go_of (s := { s with heap := h', toks := tk }) (n := "range_iterator") st' rfl rfl (by decide) ⟨.int (lo + i), H, I1, ⟨t, ?_⟩, ⟨rfl, rfl⟩, st', fun b hb => (hf b hb).1⟩⟩
    rw [Int.mul_one]
  done := by
    intro X hP hw hK hc i pins s σ H E I hf st hg
    subst hP hw hK
    obtain ⟨f0, f1, f2, f3, f4, f5⟩ := hf it (by simp)
    exact wpAny_pyNext_range_end (I.ok.hd hc) st (by have : n ≤ i := hg; omega) fun h' eb => ⟨rfl, I.turned (t' := s.toks) (fun b o hb e => eb b o hb e) f0 f1 f3 f4 f5⟩
  self := fun _ _ _ _ _ st h => wpAny_pyIter_rangeiter st h
end L2
namespace L2
open PySem PySem.Spec PyProof.Rows
section
variable {X : Cx} {tg : Expr}
def iList (K : PySem.W.Frag) (tl : TE) : TI := fun σ H R => tl σ H fun x H1 => ∃ a, x = .ref a ∧ (∃ xs, SqL K H1 a xs) ∧ R (Itl K a) H1
theorem pi_list {l : Expr} {tl : TE} (hl : PE X l tl) : PI X tg l (iList X.K tl) := by
  intro pins s σ H R I h
  refine thn (hl pins s σ H _ I h) fun v s1 ⟨x, H1, I1, r1, q1⟩ => ?_
  obtain ⟨a, e, ⟨xs, hq⟩, q⟩ := q1
  subst e
  cases r1
  obtain ⟨its, rv, p, hz⟩ := I1.list hq
  refine wpAny_pyIter_list p.isList ?_
  refine ⟨s1.heap.objs.size, [s1.heap.objs.size], _, _, H1, rfl, I1.kept (t' := s1.toks) fun b o e => Heap.get?_push_of_some _ e, turn_list a _, ⟨_, Heap.get?_push_size _ rfl, rfl, rfl⟩, fun b hb => ?_, q⟩
  have e : b = s1.heap.objs.size := by simpa using hb
  subst e
  exact I1.fpOk (Nat.le_refl _) (I1.hok.fresh (Nat.le_refl _))
theorem range_it {pins : List (Addr × Obj)} {σ : St} {H : Hp} {s : Shared} {R : It → Hp → Prop} {E : Value → Shared → Prop} {lo hi : Int} {t u v : Tok} {tk : Nat} (I : Inv X pins σ H s) (h1 : -(2 ^ 62) ≤ lo) (h2 : lo < 2 ^ 62) (h3 : -(2 ^ 62) ≤ hi) (h4 : hi < 2 ^ 62)
    (q : R (Itr lo (hi - lo).toNat) H) : wpAny (model X.prog X.w) X.A (pyIter (.ref s.heap.objs.size)) (PIE X pins σ tg R) E { s with heap := s.heap.push { cls := .type "range", data := .fields #[.int lo t, .int hi u, .int 1 v] }, toks := tk } := by
  refine wpAny_pyIter_range (IsRange.new ..) (small_one h1 h2 h3 h4) ?_
  have I1 : Inv X pins σ H { s with heap := s.heap.push { cls := .type "range", data := .fields #[.int lo t, .int hi u, .int 1 v] }, toks := tk } := I.kept fun b o e => Heap.get?_push_of_some _ e
  refine ⟨(s.heap.push { cls := .type "range", data := .fields #[.int lo t, .int hi u, .int 1 v] }).objs.size, [(s.heap.push { cls := .type "range", data := .fields #[.int lo t, .int hi u, .int 1 v] }).objs.size], _, _, H, rfl,
    I1.kept (t' := tk) fun b o e => Heap.get?_push_of_some _ e, turn_range _ lo (hi - lo).toNat, ?_, fun b hb => ?_, q⟩
  · have e1 : lo + ((0 : Nat) : Int) * 1 = lo := by simp
    have e2 : (((hi - lo).toNat : Nat) : Int) - ((0 : Nat) : Int) = Builtin.Range.rangeSize lo hi 1 := by rw [rangeSize_one]; split <;> omega
    show IsRangeIter _ _ (lo + ((0 : Nat) : Int) * 1) ((((hi - lo).toNat : Nat) : Int) - ((0 : Nat) : Int)) 1
    rw [e1, e2]
    exact Heap.get?_push_size _ rfl
  · have e : b = (s.heap.push { cls := .type "range", data := .fields #[.int lo t, .int hi u, .int 1 v] }).objs.size := by simpa using hb
    subst e
    exact I1.fpOk (Nat.le_refl _) (I1.hok.fresh (Nat.le_refl _))
def iRng1 (ta : TA) : TI := fun σ H R => ta σ H fun vs H1 => ∃ j : Int, vs = [.int j] ∧ -(2 ^ 62) ≤ j ∧ j < 2 ^ 62 ∧ R (Itr 0 j.toNat) H1
def iRng2 (ta : TA) : TI := fun σ H R => ta σ H fun vs H1 => ∃ i j : Int, vs = [.int i, .int j] ∧ (-(2 ^ 62) ≤ i ∧ i < 2 ^ 62 ∧ -(2 ^ 62) ≤ j ∧ j < 2 ^ 62) ∧ R (Itr i (j - i).toNat) H1
theorem pi_range1 {a : Expr} {ta : TA} {p pos : Pos} (hg : Gl X "range") (hm : X.mg "range" = none) (ha : PA X [a] ta) (hs : starEach [a] X.env = [(false, eval a X.env)] := by rfl) : PI X tg (.Call (.Name "range" p) [a] [] pos) (iRng1 ta) := by
  intro pins s σ H R I h
  refine Call_ (ld_blt I hg hm boot_range (PyProof.Rows.callWith_type1 (thn (ha pos pins s σ H _ I h) fun us s1 ⟨vs, H1, I1, r1, q1⟩ => ?_) hs rfl))
  obtain ⟨j, e, q1, q2, q⟩ := q1
  subst e
  cases r1 with
  | cons r rr =>
    cases rr
    obtain ⟨t, rfl⟩ := r
    exact call_range_1 (range_it I1 (by omega) (by omega) q1 q2 (by simpa using q))
theorem pi_range2 {a b : Expr} {ta : TA} {p pos : Pos} (hg : Gl X "range") (hm : X.mg "range" = none) (ha : PA X [a, b] ta) (hs : starEach [a, b] X.env = [(false, eval a X.env), (false, eval b X.env)] := by rfl) (hs2 : starEach [b] X.env = [(false, eval b X.env)] := by rfl) :
    PI X tg (.Call (.Name "range" p) [a, b] [] pos) (iRng2 ta) := by
  intro pins s σ H R I h
  refine Call_ (ld_blt I hg hm boot_range (PyProof.Rows.callWith_type1 (thn (ha pos pins s σ H _ I h) fun us s1 ⟨vs, H1, I1, r1, q1⟩ => ?_) (by rw [hs, hs2]) (by rw [hs2]; rfl)))
  obtain ⟨i, j, e, ⟨q1, q2, q3, q4⟩, q⟩ := q1
  subst e
  cases r1 with
  | cons r rr =>
    cases rr with
    | cons r' rr =>
      cases rr
      obtain ⟨t, rfl⟩ := r
      obtain ⟨t', rfl⟩ := r'
      exact call_range_2 (range_it I1 q1 q2 q3 q4 q)
def tFor (wi : TI) (g : TG) (tb : TS) : TS := fun D σ H => wi σ H fun J H1 => ∃ W : Nat → Nat → St → Hp → Prop, (∃ m, W 0 m σ H1) ∧ ∀ i m σ H, W i m σ H →
  (J.stop i H ∧ D.nx σ H) ∨ (J.go i H ∧ ∃ N : St → Hp → Prop, (∀ σ' H', N σ' H' → ∃ m', m' < m ∧ W (i + 1) m' σ' H') ∧ ∀ x H', J.yld i H x H' → g x σ H' fun σ2 H2 => tb { D with nx := N, ct := N, bk := D.nx } σ2 H2)
def pinsAt (fp : List Addr) (h : Heap) : List (Addr × Obj) := fp.filterMap fun b => (h.get? b).map fun o => (b, o)
theorem mem_pinsAt {fp : List Addr} {h : Heap} {b : Addr} {o : Obj} (hb : b ∈ fp) (e : h.get? b = some o) : (b, o) ∈ pinsAt fp h := List.mem_filterMap.mpr ⟨b, hb, by rw [e]; rfl⟩
theorem of_pinsAt {fp : List Addr} {h : Heap} {p : Addr × Obj} (hp : p ∈ pinsAt fp h) : p.1 ∈ fp ∧ h.get? p.1 = some p.2 := by
  obtain ⟨b, hb, e⟩ := List.mem_filterMap.mp hp
  cases q : h.get? b with
  | none => rw [q] at e; cases e
  | some o =>
    rw [q] at e
    have e' : (b, o) = p := Option.some.inj e
    subst e'
    exact ⟨hb, q⟩
theorem Inv.pinned {pins : List (Addr × Obj)} {σ : St} {H : Hp} {s : Shared} {fp : List Addr} (I : Inv X pins σ H s) (hf : ∀ b ∈ fp, FpOk X pins H b) (ho : ∀ b ∈ fp, ∃ o, s.heap.get? b = some o ∧ ∀ v, o.data ≠ .cell v) : Inv X (pins ++ pinsAt fp s.heap) σ H s :=
  I.pins_of fun p hp => (List.mem_append.mp hp).elim (fun z => I.pin p (List.mem_append_right _ z)) fun z => by
    obtain ⟨hb, e⟩ := of_pinsAt z
    obtain ⟨f0, f1, f2, _⟩ := hf p.1 hb
    obtain ⟨o, e', d⟩ := ho p.1 hb
    rw [e] at e'; cases e'
    exact ⟨e, f0, f1, f2, d⟩
theorem Inv.unpinned {pins pl : List (Addr × Obj)} {σ : St} {H : Hp} {s : Shared} (I : Inv X (pins ++ pl) σ H s) : Inv X pins σ H s := I.pins_of fun p hp => I.pin p (List.mem_append_right _ (List.mem_append_left _ hp))
theorem ps_for {iter : Expr} {body : List Stmt} {wi : TI} {g : TG} {tb : TS} {pos : Pos} (hp : PassesOwn (model X.prog X.w) X.A X.env X.xe) (hc : X.calm = true) (hi : PI X tg iter wi) (hg : PG X tg g) (hb : PSs X body tb)
    (hs : ∀ x, foldedSetIterable iter X.env x = pure x := by intro _; rfl) : PS X (.For tg iter body [] pos) (tFor wi g tb) := by
  intro pins s σ H D I h
  refine wpAny_For (thn (hi pins s σ H _ I h) fun v s1 h1 => thn h1 fun itv s2 h2 => ?_) hs
  obtain ⟨it, fp, tn, J, H2, e, I2, T, st2, f2, W, ⟨m0, w0⟩, turn⟩ := h2
  subst e
  have stat : ∀ {H' : Hp}, (∀ b ∈ fp, H' b = none) → ∀ b ∈ fp, FpOk X pins H' b := fun hn b hb => ⟨hn b hb, (f2 b hb).2⟩
  refine codeAny_forLoop_any (fun n s' => ∃ i σ' H', Inv X pins σ' H' s' ∧ tn i s'.heap ∧ (∀ b ∈ fp, H' b = none) ∧ W i n σ' H') ?_ m0 ⟨0, σ, H2, I2, st2, fun b hb => (f2 b hb).1, w0⟩
  rintro n s3 ⟨i, σ3, H3, I3, st3, fr3, w3⟩
  rcases turn i n σ3 H3 w3 with ⟨stop, qn⟩ | ⟨go, N, hN, step⟩
  · refine wpAny_passesOwn hp (thn (T.done X rfl rfl rfl hc i pins s3 σ3 H3 X.xe I3 (stat fr3) st3 stop) fun r s4 ⟨hr, I4⟩ => ?_)
    subst hr
    exact wpAny_execs_nil ⟨σ3, H3, I4, qn⟩
  · refine wpAny_passesOwn hp (thn (T.item X rfl rfl rfl hc i pins s3 σ3 H3 X.xe I3 (stat fr3) st3 go) fun r s4 ⟨u, hr, h4⟩ => ?_)
    subst hr
    refine wpAny_passesOwn hp (thn h4 fun _ s5 ⟨x, H5, I5, r5, y5, st5, fr5⟩ => ?_)
    have I5' := I5.pinned (stat fr5) (T.obj _ _ st5)
    refine wpAny_passesOwn hp (thn (hg _ s5 σ3 H5 x u _ I5' r5 (step x H5 y5)) fun _ s6 ⟨σ6, H6, I6, q6⟩ => ?_)
    refine wpAny_passesOwn hp (thn (hb _ s6 σ6 H6 _ I6 q6) fun f s7 q7 => ?_)
    have again : ∀ {σ7 : St} {H7 : Hp}, Inv X (pins ++ pinsAt fp s5.heap) σ7 H7 s7 → N σ7 H7 → ∃ m, m < n ∧ ∃ i σ' H', Inv X pins σ' H' s7 ∧ tn i s7.heap ∧ (∀ b ∈ fp, H' b = none) ∧ W i m σ' H' := fun {σ7 H7} I7 n7 => by
      obtain ⟨m', hm, w7⟩ := hN σ7 H7 n7
      refine ⟨m', hm, i + 1, σ7, H7, I7.unpinned, T.keep _ _ _ st5 fun b hb o e => (I7.pin (b, o) (List.mem_append_right _ (List.mem_append_right _ (mem_pinsAt hb e)))).1, fun b hb => ?_, w7⟩
      obtain ⟨o, e, d⟩ := T.obj _ _ st5 b hb
      exact (I7.pin (b, o) (List.mem_append_right _ (List.mem_append_right _ (mem_pinsAt hb e)))).2.1
    cases f with
    | next => obtain ⟨σ7, H7, I7, n7⟩ := q7; exact again I7 n7
    | cont => obtain ⟨σ7, H7, I7, n7⟩ := q7; exact again I7 n7
    | brk => obtain ⟨σ7, H7, I7, q7⟩ := q7; exact ⟨σ7, H7, I7.unpinned, q7⟩
    | ret v => obtain ⟨x7, σ7, H7, I7, r7, q7⟩ := q7; exact ⟨x7, σ7, H7, I7.unpinned, r7, q7⟩
end
theorem for_list {K : PySem.W.Frag} {a : Addr} {xs : List V} {g : TG} {tb : TS} {D : Ends} {σ : St} {H : Hp} (Pv : Nat → St → Hp → Prop) (h0 : Pv 0 σ H) (hl : ∀ i σ H, i ≤ xs.length → Pv i σ H → SqL K H a xs)
    (hs : ∀ i x σ H, xs[i]? = some x → Pv i σ H → g x σ H fun σ2 H2 => tb { D with nx := Pv (i + 1), ct := Pv (i + 1), bk := D.nx } σ2 H2) (hd : ∀ σ H, Pv xs.length σ H → D.nx σ H) :
    ∃ W : Nat → Nat → St → Hp → Prop, (∃ m, W 0 m σ H) ∧ ∀ i m σ H, W i m σ H →
      ((Itl K a).stop i H ∧ D.nx σ H) ∨ ((Itl K a).go i H ∧ ∃ N : St → Hp → Prop, (∀ σ' H', N σ' H' → ∃ m', m' < m ∧ W (i + 1) m' σ' H') ∧ ∀ x H', (Itl K a).yld i H x H' → g x σ H' fun σ2 H2 => tb { D with nx := N, ct := N, bk := D.nx } σ2 H2) := by
  refine ⟨fun i m σ H => m = xs.length - i ∧ i ≤ xs.length ∧ Pv i σ H, ⟨xs.length, by simp, Nat.zero_le _, h0⟩, ?_⟩
  rintro i m σ H ⟨rfl, hi, p⟩
  have q := hl i σ H hi p
  by_cases hlt : i < xs.length
  · refine .inr ⟨⟨xs, xs[i], q, by simp [hlt]⟩, Pv (i + 1), fun σ' H' p' => ⟨xs.length - (i + 1), by omega, rfl, hlt, p'⟩, fun x H' y => ?_⟩
    obtain ⟨e, y⟩ := y
    subst e
    exact hs i x σ _ (y xs q) p
  · have e : i = xs.length := by omega
    subst e
    exact .inl ⟨⟨xs, q, Nat.le_refl _⟩, hd σ H p⟩
theorem for_range {lo : Int} {n : Nat} {g : TG} {tb : TS} {D : Ends} {σ : St} {H : Hp} (Pv : Nat → St → Hp → Prop) (h0 : Pv 0 σ H)
    (hs : ∀ i σ H, i < n → Pv i σ H → g (.int (lo + i)) σ H fun σ2 H2 => tb { D with nx := Pv (i + 1), ct := Pv (i + 1), bk := D.nx } σ2 H2) (hd : ∀ σ H, Pv n σ H → D.nx σ H) :
    ∃ W : Nat → Nat → St → Hp → Prop, (∃ m, W 0 m σ H) ∧ ∀ i m σ H, W i m σ H →
      ((Itr lo n).stop i H ∧ D.nx σ H) ∨ ((Itr lo n).go i H ∧ ∃ N : St → Hp → Prop, (∀ σ' H', N σ' H' → ∃ m', m' < m ∧ W (i + 1) m' σ' H') ∧ ∀ x H', (Itr lo n).yld i H x H' → g x σ H' fun σ2 H2 => tb { D with nx := N, ct := N, bk := D.nx } σ2 H2) := by
  refine ⟨fun i m σ H => m = n - i ∧ i ≤ n ∧ Pv i σ H, ⟨n, by simp, Nat.zero_le _, h0⟩, ?_⟩
  rintro i m σ H ⟨rfl, hi, p⟩
  by_cases hlt : i < n
  · refine .inr ⟨hlt, Pv (i + 1), fun σ' H' p' => ⟨n - (i + 1), by omega, rfl, hlt, p'⟩, fun x H' y => ?_⟩
    obtain ⟨e, y⟩ := y
    subst e y
    exact hs i σ _ hlt p
  · have e : i = n := by omega
    subst e
    exact .inl ⟨Nat.le_refl _, hd σ H p⟩
theorem while_by {c : TT} {tb : TS} {D : Ends} {σ : St} {H : Hp} (Pv : St → Hp → Prop) (μ : St → Hp → Nat) (h0 : Pv σ H)
    (hs : ∀ σ H, Pv σ H → c σ H fun b H1 => if b = true then tb { D with nx := fun σ' H' => Pv σ' H' ∧ μ σ' H' < μ σ H, ct := fun σ' H' => Pv σ' H' ∧ μ σ' H' < μ σ H, bk := D.nx } σ H1 else D.nx σ H1)
    (mono : ∀ σ H Q Q', (∀ b H1, Q b H1 → Q' b H1) → c σ H Q → c σ H Q') : tWhile c tb D σ H := by
  refine ⟨fun m σ H => m = μ σ H ∧ Pv σ H, ⟨_, rfl, h0⟩, ?_⟩
  rintro m σ H ⟨rfl, p⟩
  refine mono σ H _ _ (fun b H1 q => ?_) (hs σ H p)
  cases b with
  | true => exact ⟨_, fun σ' H' ⟨p', l⟩ => ⟨_, l, rfl, p'⟩, q⟩
  | false => exact q
end L2
namespace L2
open PySem PySem.Spec PyProof.Rows
abbrev R2 := V → V → Hp → VK → Prop
def OpR (X : Cx) (f : Value → Value → Sem Value) (r : R2) : Prop :=
  ∀ (pins : List (Addr × Obj)) (s : Shared) (σ : St) (H : Hp) (x y : V) (v u : Value) (Q : VK), Inv X pins σ H s → RelV x v → RelV y u → r x y H Q →
    wpAny (model X.prog X.w) X.A (f v u) (EP X pins σ Q) X.xe s
def UnR (X : Cx) (f : Value → Sem Value) (r : V → Hp → VK → Prop) : Prop :=
  ∀ (pins : List (Addr × Obj)) (s : Shared) (σ : St) (H : Hp) (x : V) (v : Value) (Q : VK), Inv X pins σ H s → RelV x v → r x H Q →
    wpAny (model X.prog X.w) X.A (f v) (EP X pins σ Q) X.xe s
def CallR (X : Cx) (f : Value) (r : List V → Hp → VK → Prop) : Prop :=
  ∀ (pins : List (Addr × Obj)) (s : Shared) (σ : St) (H : Hp) (xs : List V) (us : List Value) (Q : VK), Inv X pins σ H s → Vals xs us → r xs H Q →
    wpAny (model X.prog X.w) X.A (call f us) (EP X pins σ Q) X.xe s
def tOp (r : R2) (ta tb : TE) : TE := fun σ H Q => ta σ H fun x H1 => tb σ H1 fun y H2 => r x y H2 Q
def tUn (r : V → Hp → VK → Prop) (ta : TE) : TE := fun σ H Q => ta σ H fun x H1 => r x H1 Q
def rI (C : Int → Int → Prop) (g : Int → Int → V) : R2 := fun x y H Q => ∃ i j, x = .int i ∧ y = .int j ∧ C i j ∧ Q (g i j) H
def rI0 (g : Int → Int → V) : R2 := fun x y H Q => ∃ i j, x = .int i ∧ y = .int j ∧ Q (g i j) H
def rU (g : Int → V) : V → Hp → VK → Prop := fun x H Q => ∃ i, x = .int i ∧ Q (g i) H
section
variable {X : Cx} {a b c : Expr} {ta tb tc : TE} {pos : Pos}
theorem binT (ha : PE X a ta) (hb : PE X b tb) {pins : List (Addr × Obj)} {s : Shared} {σ : St} {H : Hp} {R : V → V → Hp → Prop} (I : Inv X pins σ H s)
    (h : ta σ H fun x H1 => tb σ H1 fun y H2 => R x y H2) {Q : Value → Shared → Prop} {f : Value → Value → Sem Value}
    (hf : ∀ v u s2 x y H2, Inv X pins σ H2 s2 → RelV x v → RelV y u → R x y H2 → wpAny (model X.prog X.w) X.A (f v u) Q X.xe s2) :
    wpAny (model X.prog X.w) X.A (eval a X.env) (fun v s₁ => wpAny (model X.prog X.w) X.A (eval b X.env) (fun u s₂ => wpAny (model X.prog X.w) X.A (f v u) Q X.xe s₂) X.xe s₁) X.xe s := by
  refine thn (ha pins s σ H _ I h) fun v s1 ⟨x, H1, I1, r1, q1⟩ => ?_
  refine thn (hb pins s1 σ H1 _ I1 q1) fun u s2 ⟨y, H2, I2, r2, q2⟩ => ?_
  exact hf v u s2 x y H2 I2 r1 r2 q2
theorem pe_op {op : Operator} {r : R2} (ho : OpR X (binaryOp op) r) (ha : PE X a ta) (hb : PE X b tb) : PE X (.BinOp a op b pos) (tOp r ta tb) := by
  intro pins s σ H Q I h
  exact wpAny_BinOp (binT ha hb I h fun v u s2 x y H2 I2 rx ry q => ho pins s2 σ H2 x y v u Q I2 rx ry q)
theorem pe_un {op : UnaryOp} {r : V → Hp → VK → Prop} (ho : UnR X (unaryOp op) r) (ha : PE X a ta) : PE X (.UnaryOp op a pos) (tUn r ta) := by
  intro pins s σ H Q I h
  exact UnaryOp_ (thn (ha pins s σ H _ I h) fun v s1 ⟨x, H1, I1, r1, q1⟩ => ho pins s1 σ H1 x v Q I1 r1 q1)
theorem opI {f : Value → Value → Sem Value} {C : Int → Int → Prop} {g : Int → Int → Int}
    (rule : ∀ (i j : Int) (t u : Tok) (s : Shared) (Q : Value → Shared → Prop) (E : Value → Shared → Prop), C i j → Q (.int (g i j) s.toks) { s with toks := s.toks + 1 } → wpAny (model X.prog X.w) X.A (f (.int i t) (.int j u)) Q E s) :
    OpR X f (rI C fun i j => .int (g i j)) := by
  intro pins s σ H x y v u Q I rx ry h
  obtain ⟨i, j, rfl, rfl, hc, q⟩ := h
  obtain ⟨t, rfl⟩ := rx
  obtain ⟨t', rfl⟩ := ry
  exact rule i j t t' s _ _ hc ⟨.int (g i j), H, I.tok _, ⟨_, rfl⟩, q⟩
theorem opI0 {f : Value → Value → Sem Value} {g : Int → Int → Int}
    (rule : ∀ (i j : Int) (t u : Tok) (s : Shared) (Q : Value → Shared → Prop) (E : Value → Shared → Prop), Q (.int (g i j) s.toks) { s with toks := s.toks + 1 } → wpAny (model X.prog X.w) X.A (f (.int i t) (.int j u)) Q E s) :
    OpR X f (rI0 fun i j => .int (g i j)) := by
  intro pins s σ H x y v u Q I rx ry h
  obtain ⟨i, j, rfl, rfl, q⟩ := h
  obtain ⟨t, rfl⟩ := rx
  obtain ⟨t', rfl⟩ := ry
  exact rule i j t t' s _ _ ⟨.int (g i j), H, I.tok _, ⟨_, rfl⟩, q⟩
theorem opB0 {f : Value → Value → Sem Value} {g : Int → Int → Bool}
    (rule : ∀ (i j : Int) (t u : Tok) (s : Shared) (Q : Value → Shared → Prop) (E : Value → Shared → Prop), Q (.bool (g i j)) s → wpAny (model X.prog X.w) X.A (f (.int i t) (.int j u)) Q E s) :
    OpR X f (rI0 fun i j => .bl (g i j)) := by
  intro pins s σ H x y v u Q I rx ry h
  obtain ⟨i, j, rfl, rfl, q⟩ := h
  obtain ⟨t, rfl⟩ := rx
  obtain ⟨t', rfl⟩ := ry
  exact rule i j t t' s _ _ ⟨.bl (g i j), H, I, rfl, q⟩
def CDiv (i j : Int) : Prop := 0 < j ∧ j < 1073741824
def CMul (i j : Int) : Prop := (-(2 ^ 64) < i ∧ i < 2 ^ 64) ∨ (-(2 ^ 64) < j ∧ j < 2 ^ 64)
theorem CMul.ok {i j : Int} (h : CMul i j) : IntMulOk i j := by
  rcases h with ⟨h1, h2⟩ | ⟨h1, h2⟩
  · exact .of_left (intBits_le_64 h1 h2)
  · exact .of_right (intBits_le_64 h1 h2)
theorem op_add : OpR X (binaryOp .Add) (rI0 fun i j => .int (i + j)) := opI0 fun _ _ _ _ _ _ _ q => add_int q
theorem op_sub : OpR X (binaryOp .Sub) (rI0 fun i j => .int (i - j)) := opI0 fun _ _ _ _ _ _ _ q => sub_int q
theorem op_mul : OpR X (binaryOp .Mult) (rI CMul fun i j => .int (i * j)) := opI fun _ _ _ _ _ _ _ hc q => mul_int q hc.ok
theorem op_fdiv : OpR X (binaryOp .FloorDiv) (rI CDiv fun i j => .int (i / j)) := opI fun i j _ _ _ _ _ hc q => by
  have h1 : (0 : Int) < j := hc.1
  have h2 : j < 1073741824 := hc.2
  exact floordiv_int (by omega) (by rw [Int.fdiv_eq_ediv_of_nonneg i (by omega)]; exact q) (.inl (PyProof.noPylong_small (by omega)))
theorem unI {f : Value → Sem Value} {g : Int → Int}
    (rule : ∀ (i : Int) (t : Tok) (s : Shared) (Q : Value → Shared → Prop) (E : Value → Shared → Prop), Q (.int (g i) s.toks) { s with toks := s.toks + 1 } → wpAny (model X.prog X.w) X.A (f (.int i t)) Q E s) :
    UnR X f (rU fun i => .int (g i)) := by
  intro pins s σ H x v Q I rx h
  obtain ⟨i, rfl, q⟩ := h
  obtain ⟨t, rfl⟩ := rx
  exact rule i t s _ _ ⟨.int (g i), H, I.tok _, ⟨_, rfl⟩, q⟩
theorem un_neg : UnR X (unaryOp .USub) (rU fun i => .int (-i)) := unI fun _ _ _ _ _ q => neg_int q
end
def scal : V → V → Bool
  | .non, .non => true | .non, .int _ => true | .int _, .non => true | .non, .bl _ => true | .bl _, .non => true | .non, .str _ => true | .str _, .non => true
  | .int _, .int _ => true | .bl _, .bl _ => true | .str _, .str _ => true | .byt _, .byt _ => true
  | .int _, .str _ => true | .str _, .int _ => true | .bl _, .str _ => true | .str _, .bl _ => true
  | _, _ => false
def rEq : R2 := fun x y H Q => scal x y = true ∧ Q (.bl (decide (x = y))) H
def rNe : R2 := fun x y H Q => scal x y = true ∧ Q (.bl (!decide (x = y))) H
theorem dec_int {i j : Int} : decide (V.int i = V.int j) = (i == j) := by
  rw [Bool.eq_iff_iff]
  simp
theorem dec_bl {i j : Bool} : decide (V.bl i = V.bl j) = (i == j) := by
  rw [Bool.eq_iff_iff]
  simp
theorem dec_str {i j : Str} : decide (V.str i = V.str j) = (i == j) := by
  rw [Bool.eq_iff_iff]
  simp
theorem dec_byt {i j : Array UInt8} : decide (V.byt i = V.byt j) = (i.toList == j.toList) := by
  rw [Bool.eq_iff_iff]
  cases i
  cases j
  simp
section
variable {X : Cx} {a b c : Expr} {ta tb tc : TE} {pos : Pos}
theorem fin_bl {pins : List (Addr × Obj)} {σ : St} {H : Hp} {s : Shared} {Q : VK} {k k' : Bool} (I : Inv X pins σ H s) (q : Q (.bl k) H) (e : k = k') : EP X pins σ Q (.bool k') s := by
  subst e
  exact ⟨.bl k, H, I, rfl, q⟩
theorem op_eq : OpR X (compareOp .Eq) rEq := by
  intro pins s σ H x y v u Q I rx ry h
  obtain ⟨hs, q⟩ := h
  cases x with
  | non =>
    cases rx
    cases y with
    | non => cases ry; exact PySem.EqNone.eq_none_none (fin_bl I q (by simp))
    | bl j => cases ry; exact PySem.EqNone.eq_none_bool (fin_bl I q (by simp))
    | int j => obtain ⟨t', rfl⟩ := ry; exact PySem.EqNone.eq_none_int (fin_bl I q (by simp))
    | str j => obtain ⟨t', rfl⟩ := ry; exact PySem.EqNone.eq_none_str (fin_bl I q (by simp))
    | _ => exact absurd (show false = true from hs) Bool.false_ne_true
  | bl i =>
    cases rx
    cases y with
    | non => cases ry; exact PySem.EqNone.eq_bool_none (fin_bl I q (by simp))
    | bl j => cases ry; exact eq_bool (fin_bl I q dec_bl)
    | str j => obtain ⟨t', rfl⟩ := ry; exact PySem.EqMixed.eq_bool_str (fin_bl I q (by simp))
    | _ => exact absurd (show false = true from hs) Bool.false_ne_true
  | int i =>
    obtain ⟨t, rfl⟩ := rx
    cases y with
    | non => cases ry; exact PySem.EqNone.eq_int_none (fin_bl I q (by simp))
    | int j => obtain ⟨t', rfl⟩ := ry; exact eq_int (fin_bl I q dec_int)
    | str j => obtain ⟨t', rfl⟩ := ry; exact PySem.EqMixed.eq_int_str (fin_bl I q (by simp))
    | _ => exact absurd (show false = true from hs) Bool.false_ne_true
  | str i =>
    obtain ⟨t, rfl⟩ := rx
    cases y with
    | non => cases ry; exact PySem.EqNone.eq_str_none (fin_bl I q (by simp))
    | bl j => cases ry; exact PySem.EqMixed.eq_str_bool (fin_bl I q (by simp))
    | int j => obtain ⟨t', rfl⟩ := ry; exact PySem.EqMixed.eq_str_int (fin_bl I q (by simp))
    | str j => obtain ⟨t', rfl⟩ := ry; exact eq_str (fin_bl I q dec_str)
    | _ => exact absurd (show false = true from hs) Bool.false_ne_true
  | byt i =>
    obtain ⟨t, rfl⟩ := rx
    cases y with
    | byt j => obtain ⟨t', rfl⟩ := ry; exact PySem.W.eq_bytes (fin_bl I q dec_byt)
    | _ => exact absurd (show false = true from hs) Bool.false_ne_true
  | _ => cases y <;> exact absurd (show false = true from hs) Bool.false_ne_true
theorem op_ne : OpR X (compareOp .NotEq) rNe := by
  intro pins s σ H x y v u Q I rx ry h
  obtain ⟨hs, q⟩ := h
  cases x with
  | non =>
    cases rx
    cases y with
    | non => cases ry; exact PySem.EqNone.ne_none_none (fin_bl I q (by simp))
    | bl j => cases ry; exact PySem.EqNone.ne_none_bool (fin_bl I q (by simp))
    | int j => obtain ⟨t', rfl⟩ := ry; exact PySem.EqNone.ne_none_int (fin_bl I q (by simp))
    | str j => obtain ⟨t', rfl⟩ := ry; exact PySem.EqNone.ne_none_str (fin_bl I q (by simp))
    | _ => exact absurd (show false = true from hs) Bool.false_ne_true
  | bl i =>
    cases rx
    cases y with
    | non => cases ry; exact PySem.EqNone.ne_bool_none (fin_bl I q (by simp))
    | bl j => cases ry; exact ne_bool (fin_bl I q (congrArg not dec_bl))
    | str j => obtain ⟨t', rfl⟩ := ry; exact PySem.EqMixed.ne_bool_str (fin_bl I q (by simp))
    | _ => exact absurd (show false = true from hs) Bool.false_ne_true
  | int i =>
    obtain ⟨t, rfl⟩ := rx
    cases y with
    | non => cases ry; exact PySem.EqNone.ne_int_none (fin_bl I q (by simp))
    | int j => obtain ⟨t', rfl⟩ := ry; exact ne_int (fin_bl I q (congrArg not dec_int))
    | str j => obtain ⟨t', rfl⟩ := ry; exact PySem.EqMixed.ne_int_str (fin_bl I q (by simp))
    | _ => exact absurd (show false = true from hs) Bool.false_ne_true
  | str i =>
    obtain ⟨t, rfl⟩ := rx
    cases y with
    | non => cases ry; exact PySem.EqNone.ne_str_none (fin_bl I q (by simp))
    | bl j => cases ry; exact PySem.EqMixed.ne_str_bool (fin_bl I q (by simp))
    | int j => obtain ⟨t', rfl⟩ := ry; exact PySem.EqMixed.ne_str_int (fin_bl I q (by simp))
    | str j => obtain ⟨t', rfl⟩ := ry; exact ne_str (fin_bl I q (congrArg not dec_str))
    | _ => exact absurd (show false = true from hs) Bool.false_ne_true
  | byt i =>
    obtain ⟨t, rfl⟩ := rx
    cases y with
    | byt j => obtain ⟨t', rfl⟩ := ry; exact PySem.W.ne_bytes (fin_bl I q (congrArg not dec_byt))
    | _ => exact absurd (show false = true from hs) Bool.false_ne_true
  | _ => cases y <;> exact absurd (show false = true from hs) Bool.false_ne_true
theorem op_lt : OpR X (compareOp .Lt) (rI0 fun i j => .bl (decide (i < j))) := opB0 fun _ _ _ _ _ _ _ q => lt_int q
theorem op_le : OpR X (compareOp .LtE) (rI0 fun i j => .bl (decide (i ≤ j))) := opB0 fun _ _ _ _ _ _ _ q => le_int q
theorem op_gt : OpR X (compareOp .Gt) (rI0 fun i j => .bl (decide (j < i))) := opB0 fun _ _ _ _ _ _ _ q => gt_int q
theorem nomark (b : Expr) {op : CmpOp} (h : op ≠ .In := by decide) (h2 : op ≠ .NotIn := by decide) : behindInMarks op b = false := by
  have e1 : (op == CmpOp.In) = false := by cases op <;> first | rfl | exact absurd rfl h
  have e2 : (op == CmpOp.NotIn) = false := by cases op <;> first | rfl | exact absurd rfl h2
  cases b <;> simp [behindInMarks, e1, e2]
theorem pe_cmpR {op : CmpOp} {r : R2} (ho : OpR X (compareOp op) r) (ha : PE X a ta) (hb : PE X b tb) (hm : behindInMarks op b = false) : PE X (.Compare a [op] [b] pos) (tOp r ta tb) := by
  intro pins s σ H Q I h
  exact wpAny_Compare1 (binT ha hb I h fun v u s2 x y H2 I2 rx ry q => ho pins s2 σ H2 x y v u Q I2 rx ry q) hm
def tTest (t : TE) : TT := fun σ H Q => t σ H fun x H' => ∃ k, x = .bl k ∧ Q k H'
theorem pt_cmpR {op : CmpOp} {r : R2} (ho : OpR X (compareOp op) r) (ha : PE X a ta) (hb : PE X b tb) (hm : behindInMarks op b = false) : PT X (.Compare a [op] [b] pos) (tTest (tOp r ta tb)) := by
  intro pins s σ H Q I h
  refine wpAny_isTrue_Compare1 (thn (ha pins s σ H _ I h) fun v s1 ⟨x, H1, I1, r1, q1⟩ => thn (hb pins s1 σ H1 _ I1 q1) fun u s2 ⟨y, H2, I2, r2, q2⟩ =>
    thn (ho pins s2 σ H2 x y v u _ I2 r1 r2 q2) fun c s3 ⟨z, H3, I3, r3, k, e, q3⟩ => ?_) hm
  subst e
  cases r3
  exact wpAny_truthy_bool ⟨H3, I3, q3⟩
def tChain (r r' : R2) (ta tb tc : TE) : TE := fun σ H Q => ta σ H fun x H1 => tb σ H1 fun y H2 => r x y H2 fun z H3 => ∃ k, z = .bl k ∧
  (if k = true then tc σ H3 fun w' H4 => r' y w' H4 Q else Q (.bl false) H3)
theorem pe_chain {op op' : CmpOp} {r r' : R2} (ho : OpR X (compareOp op) r) (ho' : OpR X (compareOp op') r') (ha : PE X a ta) (hb : PE X b tb) (hc : PE X c tc)
    (hm : lastMarks [op, op'] [b, c] = false := by with_unfolding_all rfl) : PE X (.Compare a [op, op'] [b, c] pos) (tChain r r' ta tb tc) := by
  intro pins s σ H Q I h
  refine Compare_chain (thn (ha pins s σ H _ I h) fun v s1 ⟨x, H1, I1, r1, q1⟩ => chain_link (thn (hb pins s1 σ H1 _ I1 q1) fun u s2 ⟨y, H2, I2, r2, q2⟩ =>
    thn (ho pins s2 σ H2 x y v u _ I2 r1 r2 q2) fun d s3 ⟨z, H3, I3, r3, k, e, q3⟩ => ?_)) hm
  subst e
  cases r3
  refine wpAny_truthy_bool ?_
  cases k with
  | false => exact ite_ff ⟨.bl false, H3, I3, rfl, q3⟩
  | true => exact ite_tt (chain_last (thn (hc pins s3 σ H3 _ I3 q3) fun w' s4 ⟨z', H4, I4, r4, q4⟩ => ho' pins s4 σ H4 y z' u w' Q I4 r2 r4 q4))
theorem pt_chain {op op' : CmpOp} {r r' : R2} (ho : OpR X (compareOp op) r) (ho' : OpR X (compareOp op') r') (ha : PE X a ta) (hb : PE X b tb) (hc : PE X c tc)
    (hm : lastMarks [op, op'] [b, c] = false := by with_unfolding_all rfl) : PT X (.Compare a [op, op'] [b, c] pos) (tTest (tChain r r' ta tb tc)) := by
  intro pins s σ H Q I h
  refine isTrue_chain (thn (ha pins s σ H _ I h) fun v s1 ⟨x, H1, I1, r1, q1⟩ => test_link (thn (hb pins s1 σ H1 _ I1 q1) fun u s2 ⟨y, H2, I2, r2, q2⟩ =>
    thn (ho pins s2 σ H2 x y v u _ I2 r1 r2 q2) fun d s3 ⟨z, H3, I3, r3, k, e, q3⟩ => ?_)) hm
  subst e
  cases r3
  refine wpAny_truthy_bool ?_
  cases k with
  | false =>
    obtain ⟨k', e', q'⟩ := q3
    cases e'
    exact ite_ff ⟨H3, I3, q'⟩
  | true =>
    refine ite_tt (test_last (thn (hc pins s3 σ H3 _ I3 q3) fun w' s4 ⟨z', H4, I4, r4, q4⟩ => thn (ho' pins s4 σ H4 y z' u w' _ I4 r2 r4 q4) fun d' s5 ⟨z2, H5, I5, r5, k2, e2, q5⟩ => ?_))
    subst e2
    cases r5
    exact wpAny_truthy_bool ⟨H5, I5, q5⟩
theorem line63 : (sizeLine : Nat) < 2 ^ 63 := by rw [sizeLine_eq]; decide
theorem vals1 {x : V} {us : List Value} (r : Vals [x] us) : ∃ u, us = [u] ∧ RelV x u := by
  cases r with
  | cons r1 r2 => cases r2; exact ⟨_, rfl, r1⟩
theorem vals2 {x y : V} {us : List Value} (r : Vals [x, y] us) : ∃ u w', us = [u, w'] ∧ RelV x u ∧ RelV y w' := by
  cases r with
  | cons r1 r2 =>
    cases r2 with
    | cons r3 r4 => cases r4; exact ⟨_, _, rfl, r1, r3⟩
theorem call_min2 (hc : X.calm = true) : CallR X (.builtin "min") (fun xs H Q => ∃ i j, xs = [.int i, .int j] ∧ Q (.int (if j < i then j else i)) H) := by
  intro pins s σ H xs us Q I r h
  obtain ⟨i, j, rfl, q⟩ := h
  obtain ⟨u, w', rfl, ⟨t, rfl⟩, ⟨t', rfl⟩⟩ := vals2 r
  refine min_two_ints (I.ok.hd hc) fun h' tk k => ⟨_, H, I.kept k, ?_, q⟩
  by_cases hj : j < i
  · rw [if_pos hj, if_pos hj]; exact ⟨_, rfl⟩
  · rw [if_neg hj, if_neg hj]; exact ⟨_, rfl⟩
end
end L2
namespace L2
open PySem PySem.Spec PyProof.Rows
structure ObjM (h : Heap) (x dx C : Addr) (mA : Str → Option Value) : Prop where
  obj : h.get? x = some (PySem.W.instObj C dx)
  ns : h.Ns1 dx mA
  ne : dx ≠ x
theorem lookIn_ns {h : Heap} {dx : Addr} {mA : Str → Option Value} (n : h.Ns1 dx mA) : ∃ od, h.get? dx = some od ∧ ∀ name, PySem.W.lookIn name od = some (mA name) := by
  obtain ⟨o, es, ep, ho, hd, hk, _, hm⟩ := n
  refine ⟨o, ho, fun name => ?_⟩
  have e := hm name
  unfold nsFind findBy at e
  rw [← Array.find?_toList] at e
  unfold PySem.W.lookIn
  rw [hd]
  dsimp only
  split
  · rename_i y q
    rw [q] at e
    exact congrArg some e
  · rename_i q
    rw [q] at e
    have a : es.toList.any (·.refKey) = false := by
      rw [List.any_eq_false]
      intro y hy
      obtain ⟨z, t, hkey⟩ := hk y (Array.mem_toList_iff.mp hy)
      simp [DictEntry.refKey, hkey]
    have a' : ¬ es.toList.any (·.refKey) = true := by rw [a]; exact Bool.false_ne_true
    rw [if_neg a']
    exact congrArg some e
theorem ObjM.look {h : Heap} {x dx C : Addr} {mA : Str → Option Value} (I : ObjM h x dx C mA) : ∃ od, PySem.W.InstAt h x (PySem.W.instObj C dx) C (some od) ∧ ∀ name, PySem.W.lookIn name od = some (mA name) :=
  let ⟨od, ho, hl⟩ := lookIn_ns I.ns
  ⟨od, ⟨I.obj, rfl, rfl, ho⟩, hl⟩
section
variable {prog : Program} {w : World} {A : Around} {E : Value → Shared → Prop} {s : Shared} {K : PySem.W.Frag} {x dx C f : Addr} {mA : Str → Option Value} {name : Str} {v : Value}
theorem get_map {expr : Bool} {Q : Value → Shared → Prop} (X : K.In s.heap) (I : ObjM s.heap x dx C mA) (hg : PySem.W.plainGet K C name = true) (hh : PySem.W.hasDictIn K C = true)
    (ha : PySem.W.findIn K (.ref C) name = some none) (hv : mA name = some v) (hv' : PySem.W.handedIn v = true) (h : Q v { s with toks := s.toks + 1 }) :
    wpAny (model prog w) A (getAttr (.ref x) name expr) Q E s := by
  obtain ⟨od, J, hl⟩ := I.look
  exact PySem.W.get_value X J (PySem.W.plainGet_of hg).1 (PySem.W.findObj_own hh ha rfl (by rw [hl, hv])) hv' h
theorem get_meth {pl : Sem Bool} {Q : Value × List Value → Shared → Prop} (X : K.In s.heap) (I : ObjM s.heap x dx C mA) (hg : PySem.W.plainGet K C name = true)
    (hf : PySem.W.findIn K (.ref C) name = some (some (.ref f))) (ht : PySem.W.isFn K (.ref f) = true) (hv : mA name = none) (h : Q (.ref f, [.ref x]) s) :
    wpAny (model prog w) A (getMethod (.ref x) name pl) Q E s := by
  obtain ⟨od, J, hl⟩ := I.look
  exact PySem.W.method_fn X J (PySem.W.plainGet_of hg).1 (PySem.W.plainGet_of hg).2 hf (beq_iff_eq.mp ht) (by show (PySem.W.lookIn name od).map (·.isSome) = some false; rw [hl, hv]; rfl) h
theorem set_map {ns : List Str} {Q : Unit → Shared → Prop} (X : K.In s.heap) (I : ObjM s.heap x dx C mA)
    (hs : PySem.W.findIn K (.ref C) "__setattr__" = some (some (.builtin "object.__setattr__"))) (hp : PySem.W.plainOver K C = true) (ht : PySem.W.takerIn K C name = some none) (hh : PySem.W.hasDictIn K C = true)
    (hw : PySem.Within mA ns) (hsz : ns.length ≤ sizeLine)
    (h : ∀ h', ObjM h' x dx C (fun y => if y = name then some v else mA y) → Heap.SameBut dx s.heap h' → Q () { s with heap := h', toks := s.toks + 2 }) :
    wpAny (model prog w) A (setAttr (.ref x) name v) Q E s := by
  obtain ⟨od, J, hl⟩ := I.look
  refine PySem.W.set_plain X J hs (PySem.W.osa_open (s := { s with toks := s.toks + 1 }) (r := none) X J hp ht fun b => ?_)
  obtain ⟨cd, hc, hd'⟩ := PySem.W.any_some hh
  have hx : s.heap.get? x = some ⟨.ref C, some dx, .plain, #[]⟩ := I.obj
  refine wpAny_bind (wpAny_pure (wpAny_bind (wpAny_bind (wpAny_loadPart hx (wpAny_bind (PySem.W.Looks.here (s := { s with toks := s.toks + 1 }) (PySem.W.looks_clsIn X hc) ?_))))))
  rw [hd']
  refine wpAny_pure (a := some dx) (wpAny_bind (wpAny_pure (wpAny_bind ?_)))
  refine wpAny_nsSet1 (s := { s with toks := s.toks + 1 }) I.ns fun h' hn2 hs2 => ?_
  obtain ⟨oD, esD, epD, hoD, hdD, hcD⟩ := hn2.count (PySem.Within.cons name v hw)
  refine wpAny_bind (wpAny_lookBehind hoD (by rw [hdD]; exact pastItsLine_dict (Nat.le_trans hcD (by rw [List.length_cons]; omega))) ?_)
  exact wpAny_pure (h _ ⟨(hs2.2 _ (Ne.symm I.ne)).trans I.obj, hn2, I.ne⟩ hs2)
theorem make_map {R : Result → Shared → Prop} {vs : List Value} {kw : List (Str × Value)} (X : K.In s.heap) (hm : PySem.W.makesIn K C = true)
    (hi : PySem.W.findIn K (.ref C) "__init__" = some (some (.ref f))) (hf : PySem.W.typeIn K (.ref f) = some (.type "function"))
    (h : codeAny (model prog w) (A.under (.builtin "type.__call__" ⟨.ref C :: vs, kw⟩)) (.call (.ref f) ⟨.ref (s.heap.objs.size + 1) :: vs, kw⟩) (PySem.W.InitBack (s.heap.objs.size + 1) R)
      { s with heap := (s.heap.push PySem.W.emptyDict).push (PySem.W.instObj C s.heap.objs.size) }) :
    codeAny (model prog w) A (.call (.ref C) ⟨vs, kw⟩) R s := by
  obtain ⟨hh, g, d, t, os⟩ := s
  exact PySem.W.make_core (PySem.W.makes_of X hm) (PySem.W.looks_findIn X hi) (fun self => PySem.W.bind_fn X self hf) (.inl rfl) h
end
def putF (f : Str) (v : V) : List (Str × V) → List (Str × V)
  | [] => [(f, v)]
  | (g, x) :: r => if g = f then (g, v) :: r else (g, x) :: putF f v r
theorem lookup_putF (f g : Str) (v : V) : ∀ fs : List (Str × V), (putF f v fs).lookup g = if g = f then some v else fs.lookup g
  | [] => by
    show List.lookup g [(f, v)] = _
    by_cases h : g = f
    · have hb : (g == f) = true := beq_iff_eq.mpr h
      simp only [List.lookup, hb, if_pos h]
    · have hb : (g == f) = false := beq_eq_false_iff_ne.mpr h
      simp only [List.lookup, hb, if_neg h]
  | (k, x) :: r => by
    have ih := lookup_putF f g v r
    rw [show putF f v ((k, x) :: r) = (if k = f then (k, v) :: r else (k, x) :: putF f v r) from rfl]
    by_cases hk : k = f
    · rw [if_pos hk]
      by_cases h : g = k
      · have hb : (g == k) = true := beq_iff_eq.mpr h
        simp only [List.lookup, hb, if_pos (h.trans hk)]
      · have hb : (g == k) = false := beq_eq_false_iff_ne.mpr h
        simp only [List.lookup, hb, if_neg (fun e : g = f => h (e.trans hk.symm))]
    · rw [if_neg hk]
      by_cases h : g = k
      · have hb : (g == k) = true := beq_iff_eq.mpr h
        simp only [List.lookup, hb, if_neg (fun e : g = f => hk (h.symm.trans e))]
      · have hb : (g == k) = false := beq_eq_false_iff_ne.mpr h
        simp only [List.lookup, hb]
        exact ih
theorem keys_putF (f : Str) (v : V) : ∀ fs : List (Str × V), f ∈ (putF f v fs).map (·.1) ∧ ∀ g, g ∈ fs.map (·.1) → g ∈ (putF f v fs).map (·.1)
  | [] => ⟨by simp [putF], fun g h => by simp at h⟩
  | (k, x) :: r => by
    obtain ⟨i1, i2⟩ := keys_putF f v r
    rw [show putF f v ((k, x) :: r) = (if k = f then (k, v) :: r else (k, x) :: putF f v r) from rfl]
    by_cases hk : k = f
    · rw [if_pos hk]
      subst hk
      exact ⟨by simp, fun g h => by simpa using h⟩
    · rw [if_neg hk]
      refine ⟨?_, fun g h => ?_⟩
      · rw [List.map_cons]
        exact List.mem_cons_of_mem _ i1
      · rw [List.map_cons] at h ⊢
        rcases List.mem_cons.mp h with e | e
        · exact List.mem_cons.mpr (.inl e)
        · exact List.mem_cons_of_mem _ (i2 g e)
theorem length_putF (f : Str) (v : V) : ∀ fs : List (Str × V), (putF f v fs).length ≤ fs.length + 1
  | [] => by simp [putF]
  | (k, x) :: r => by
    have ih := length_putF f v r
    rw [show putF f v ((k, x) :: r) = (if k = f then (k, v) :: r else (k, x) :: putF f v r) from rfl]
    by_cases hk : k = f
    · rw [if_pos hk, List.length_cons, List.length_cons]; omega
    · rw [if_neg hk, List.length_cons, List.length_cons]; omega
theorem RelO.some_of {v : V} {o : Option Value} (r : RelO (some v) o) : ∃ u, o = some u ∧ RelV v u := by
  cases o with
  | none => exact (show False from r).elim
  | some u => exact ⟨u, rfl, r⟩
theorem RelO.none_of {o : Option Value} (r : RelO none o) : o = none := by
  cases o with
  | none => rfl
  | some u => exact (show False from r).elim
theorem handed_of {v : V} {u : Value} (r : RelV v u) : PySem.W.handedIn u = true := by
  cases v with
  | non => cases (show u = Value.none from r); rfl
  | bl b => cases (show u = Value.bool b from r); rfl
  | int i => obtain ⟨t, e⟩ := (show ∃ t, u = Value.int i t from r); cases e; rfl
  | str x => obtain ⟨t, e⟩ := (show ∃ t, u = Value.str x t from r); cases e; rfl
  | byt b => obtain ⟨t, e⟩ := (show ∃ t, u = Value.bytes b t from r); cases e; rfl
  | flt b => obtain ⟨t, e⟩ := (show ∃ t, u = Value.float b t from r); cases e; rfl
  | ref a => cases (show u = Value.ref a from r); rfl
  | ty n => cases (show u = Value.type n from r); rfl
section
variable {P : Program} {w : World} {H H' : Hp} {h h' : Heap} {a C dx : Addr} {fs fs' : List (Str × V)}
theorem ins_get (hok : HOk P w H h) (e : H a = some (.ins C dx fs)) : ∃ mA, ObjM h a dx C mA ∧ (∀ f, RelO (fs.lookup f) (mA f)) ∧ PySem.Within mA (fs.map (·.1)) ∧ fs.length ≤ 1000 ∧ H dx = some (.own a) := by
  obtain ⟨d, z, ne, ob, mA, n, r, q⟩ := (show ObjOk P w H h a (.ins C dx fs) from hok a _ e)
  exact ⟨mA, ⟨ob, n, ne⟩, r, q, z, d⟩
end
structure Cls (K : PySem.W.Frag) (C : Addr) : Prop where
  pg : PySem.W.plainGet K C Str.empty = true
  hd : PySem.W.hasDictIn K C = true
  po : PySem.W.plainOver K C = true
  sa : PySem.W.findIn K (.ref C) "__setattr__" = some (some (.builtin "object.__setattr__"))
theorem Cls.get {K : PySem.W.Frag} {C : Addr} (c : Cls K C) (f : Str) : PySem.W.plainGet K C f = true := c.pg
def NoAttr (K : PySem.W.Frag) (C : Addr) (f : Str) : Prop := PySem.W.findIn K (.ref C) f = some none
theorem NoAttr.taker {K : PySem.W.Frag} {C : Addr} {f : Str} (n : NoAttr K C f) : PySem.W.takerIn K C f = some none := by
  unfold PySem.W.takerIn
  rw [show PySem.W.findIn K (.ref C) f = some none from n]
  rfl
structure Meth (K : PySem.W.Frag) (C : Addr) (m : Str) (f : Addr) : Prop where
  at_ : PySem.W.findIn K (.ref C) m = some (some (.ref f))
  fn : PySem.W.isFn K (.ref f) = true
  kp : PySem.W.keepIn K (.ref f) = true
section
variable {X : Cx} {pins : List (Addr × Obj)} {σ : St} {H : Hp} {s : Shared} {a C dx : Addr} {fs : List (Str × V)} {f : Str} {v : V} {A : Around} {E : Value → Shared → Prop}
theorem getattr_ok {b : Bool} {Q : Value → Shared → Prop} (I : Inv X pins σ H s) (e : H a = some (.ins C dx fs)) (c : Cls X.K C) (n : NoAttr X.K C f) (l : fs.lookup f = some v)
    (h : ∀ u s', Inv X pins σ H s' → RelV v u → Q u s') : wpAny (model X.prog X.w) A (getAttr (.ref a) f b) Q E s := by
  obtain ⟨mA, O, r, _, _, _⟩ := ins_get I.hok e
  obtain ⟨u, hu, ru⟩ := RelO.some_of (v := v) (o := mA f) (by rw [← l]; exact r f)
  exact get_map I.kIn O (c.get f) c.hd n hu (handed_of ru) (h u _ (I.tok _) ru)
theorem getmeth_ok {m : Str} {g : Addr} {pl : Sem Bool} {Q : Value × List Value → Shared → Prop} (I : Inv X pins σ H s) (e : H a = some (.ins C dx fs)) (c : Cls X.K C) (k : Meth X.K C m g) (l : fs.lookup m = none)
    (h : Q (.ref g, [.ref a]) s) : wpAny (model X.prog X.w) A (getMethod (.ref a) m pl) Q E s := by
  obtain ⟨mA, O, r, _, _, _⟩ := ins_get I.hok e
  have hn : mA m = none := RelO.none_of (by rw [← l]; exact r m)
  exact get_meth I.kIn O (c.get m) k.at_ k.fn hn h
theorem setattr_ok {y : V} {u : Value} {Q : Unit → Shared → Prop} (I : Inv X pins σ H s) (e : H a = some (.ins C dx fs)) (c : Cls X.K C) (n : NoAttr X.K C f) (hl : fs.length < 1000) (ry : RelV y u)
    (h : ∀ s', Inv X pins σ (upd H a (.ins C dx (putF f y fs))) s' → Q () s') : wpAny (model X.prog X.w) A (setAttr (.ref a) f u) Q E s := by
  obtain ⟨mA, O, r, wi, _, ho⟩ := ins_get I.hok e
  have hz : (fs.map (·.1)).length ≤ sizeLine := by rw [List.length_map, sizeLine_eq]; omega
  refine set_map I.kIn O c.sa c.po n.taker c.hd wi hz fun h' O' sb => h _ ?_
  have hd : ∃ o, h'.get? dx = some o := let ⟨o, _, _, e', _⟩ := O'.ns; ⟨o, e'⟩
  refine I.write (x := a) (e := dx) (by rw [e]; exact True.intro) (.inr ho) (fun b q hb z => (sb.2 b hb).trans z) hd ?_
  refine ⟨by rw [upd_ne O.ne]; exact ho, ?_, O.ne, O'.obj, _, O'.ns, fun g => ?_, fun g hg => ?_⟩
  · have := length_putF f y fs; omega
  · show RelO ((putF f y fs).lookup g) (if g = f then some u else mA g)
    rw [lookup_putF]
    by_cases q : g = f
    · rw [if_pos q, if_pos q]; exact ry
    · rw [if_neg q, if_neg q]; exact r g
  · by_cases q : g = f
    · rw [q]; exact (keys_putF f y fs).1
    · refine (keys_putF f y fs).2 g (wi g fun z => hg ?_)
      show (if g = f then some u else mA g) = none
      rw [if_neg q]; exact z
theorem Inv.made (I : Inv X pins σ H s) : Inv X pins σ (upd (upd H s.heap.objs.size (.own (s.heap.objs.size + 1))) (s.heap.objs.size + 1) (.ins C s.heap.objs.size []))
    { s with heap := (s.heap.push PySem.W.emptyDict).push (PySem.W.instObj C s.heap.objs.size) } := by
  have e1 : (s.heap.push PySem.W.emptyDict).get? s.heap.objs.size = some PySem.W.emptyDict := Heap.get?_push_size s.heap rfl
  have e2 : ((s.heap.push PySem.W.emptyDict).push (PySem.W.instObj C s.heap.objs.size)).get? (s.heap.objs.size + 1) = some (PySem.W.instObj C s.heap.objs.size) := by
    have := Heap.get?_push_size (s.heap.push PySem.W.emptyDict) (o := PySem.W.instObj C s.heap.objs.size) rfl
    rwa [Heap.size_push] at this
  have e3 : (s.heap.push PySem.W.emptyDict).Ns s.heap.objs.size (fun _ => none) := ⟨PySem.W.emptyDict, #[], _, e1, rfl, (fun e he => absurd he (by simp)), fun _ => rfl⟩
  have I1 := I.laid (a := s.heap.objs.size) (o := .own (s.heap.objs.size + 1)) (h' := s.heap.push PySem.W.emptyDict) (t' := s.toks) (fun b u q => Heap.get?_push_of_some _ q) (Nat.le_refl _) ⟨_, e1⟩
  refine I1.laid (a := s.heap.objs.size + 1) (o := .ins C s.heap.objs.size []) (t' := s.toks) (fun b u q => Heap.get?_push_of_some _ q) (Nat.le_of_eq (Heap.size_push _ _)) ?_
  have ne : s.heap.objs.size ≠ s.heap.objs.size + 1 := Nat.ne_of_lt (Nat.lt_succ_self _)
  refine ⟨by rw [upd_ne ne, upd_same], Nat.zero_le _, ne, e2, fun _ => none, (Heap.Ns1.of_empty e3).at fun o q => Heap.get?_push_of_some _ q, fun _ => True.intro, fun y hy => absurd rfl hy⟩
theorem attr_of {prog : Program} {w : World} {env : Env} {e : Expr} {f : Str} {pos : Pos} {s : Shared} {Q : Value → Shared → Prop} (hb : attributeBase e f env (eval e env) = eval e env)
    (h : wpAny (model prog w) A (eval e env) (fun o s₁ => wpAny (model prog w) A (getAttr o f true) Q E s₁) E s) : wpAny (model prog w) A (eval (.Attribute e f pos) env) Q E s :=
  Attribute_any_ h (by rw [arm_eval_Attribute, hb])
end
def tFld (K : PySem.W.Frag) (ta : TE) (f : Str) : TE := fun σ H Q => ta σ H fun x H1 => ∃ a C dx fs v, x = .ref a ∧ H1 a = some (.ins C dx fs) ∧ Cls K C ∧ NoAttr K C f ∧ fs.lookup f = some v ∧ Q v H1
def sFld (K : PySem.W.Frag) (ta tv : TE) (f : Str) : TS := fun D σ H => tv σ H fun y H1 => ta σ H1 fun x H2 => ∃ a C dx fs, x = .ref a ∧ H2 a = some (.ins C dx fs) ∧ Cls K C ∧ NoAttr K C f ∧ fs.length < 1000 ∧
  D.nx σ (upd H2 a (.ins C dx (putF f y fs)))
section
variable {X : Cx} {o e value : Expr} {f : Str} {pos pos' tpos : Pos} {ta tv : TE}
theorem pe_fld (he : PE X e ta) (hb : attributeBase e f X.env (eval e X.env) = eval e X.env) : PE X (.Attribute e f pos) (tFld X.K ta f) := by
  intro pins s σ H Q I h
  refine attr_of hb (thn (he pins s σ H _ I h) fun u s1 ⟨x, H1, I1, rx, a, C, dx, fs, v, ex, ea, c, n, l, q⟩ => ?_)
  subst ex
  obtain rfl : u = Value.ref a := rx
  exact getattr_ok I1 ea c n l fun u' s2 I2 ru => ⟨v, H1, I2, ru, q⟩
theorem ps_fld (ha : PE X o ta) (hv : PE X value tv) (hs : swapsWith value (some (.Attribute o f pos')) pos.line X.env = pure false) : PS X (.Assign [.Attribute o f pos'] value pos) (sFld X.K ta tv f) := by
  intro pins s σ H D I h
  refine plainObj_wpAny_Assign_Attribute (thn (hv pins s σ H _ I h) fun u s1 ⟨y, H1, I1, ry, q⟩ => thn (ha pins s1 σ H1 _ I1 q) fun ov s2 ⟨x, H2, I2, rx, a, C, dx, fs, ex, ea, c, n, l, q2⟩ => ?_) hs
  subst ex
  obtain rfl : ov = Value.ref a := rx
  exact setattr_ok I2 ea c n l ry fun s3 I3 => ⟨σ, _, I3, q2⟩
theorem methcall_of {pl : Sem Bool} {m : Str} {apos : Pos} {args : List Expr} {pins : List (Addr × Obj)} {s : Shared} {σ : St} {H : Hp} {Q : Value → Shared → Prop} {te : TE} (he : PE X e te) (I : Inv X pins σ H s)
    (h : te σ H fun x H1 => ∃ a C dx fs g, x = .ref a ∧ H1 a = some (.ins C dx fs) ∧ Cls X.K C ∧ Meth X.K C m g ∧ fs.lookup m = none ∧
      ∀ s1, Inv X pins σ H1 s1 → wpAny (model X.prog X.w) X.A (callWith pos (.ref g) [.ref a] (backTo pos (starEach args X.env)) (backToKw pos (keywordEach [] X.env))) Q X.xe s1)
    (ht : eval (.Call (.Attribute e m apos) args [] pos) X.env = (do
      let ov ← eval e X.env
      standAt apos.atName
      let (f, first) ← holding [ov] (getMethod ov m pl)
      callWith pos f first (backTo pos (starEach args X.env)) (backToKw pos (keywordEach [] X.env)))) :
    wpAny (model X.prog X.w) X.A (eval (.Call (.Attribute e m apos) args [] pos) X.env) Q X.xe s := by
  refine PySem.W.methodCall_KW (pl := pl) (thn (he pins s σ H _ I h) fun u s1 ⟨x, H1, I1, rx, a, C, dx, fs, g, ex, ea, c, k, l, q⟩ => ?_) ht
  subst ex
  obtain rfl : u = Value.ref a := rx
  exact getmeth_ok I1 ea c k l (q s1 I1)
end
section
variable {X : Cx} {pins : List (Addr × Obj)} {σ : St} {H : Hp} {s : Shared} {A : Around} {E : Value → Shared → Prop} {Q : Value → Shared → Prop} {c : Value} {b : Bool}
end
end L2
namespace L2
open PySem PySem.Spec PyProof.Rows
structure Room (k : Nat) (A : Around) : Prop where
  hd : A.handled = none
  dp : A.depth + 3 * k + 5 < recursionLimit
  un : A.units + 16 * k + 200 < cLine
theorem Room.mono {j k : Nat} {A : Around} (r : Room k A) (h : j ≤ k) : Room j A := ⟨r.hd, by have := r.dp; omega, by have := r.un; omega⟩
theorem Room.deeper {k : Nat} {A : Around} (r : Room (k + 1) A) (env : Env) : Room k (A.deeper env) :=
  ⟨r.hd, by have := r.dp; show A.depth + 1 + 3 * k + 5 < _; omega, by have := r.un; show A.units + 3 + 16 * k + 200 < _; omega⟩
theorem make_depth {A : Around} {C : Addr} {us : List Value} {kw : List (Str × Value)} : (A.under (.builtin "type.__call__" ⟨.ref C :: us, kw⟩)).depth = A.depth + 1 := by
  first | rfl | simp [Around.under, Code.weight, Code.isCreation, Code.isGuard, Code.isCaller, Code.frames, Code.isFrame, guardIds]
theorem make_units {A : Around} {C : Addr} {us : List Value} {kw : List (Str × Value)} : (A.under (.builtin "type.__call__" ⟨.ref C :: us, kw⟩)).units = A.units + 1 := by
  first | rfl | simp [Around.under, Code.cUnits, Code.frames, Code.isFrame]
theorem Room.make {k : Nat} {A : Around} (r : Room (k + 1) A) (C : Addr) (us : List Value) (kw : List (Str × Value)) : Room k (A.under (.builtin "type.__call__" ⟨.ref C :: us, kw⟩)) :=
  ⟨r.hd, by have := r.dp; rw [make_depth]; omega, by have := r.un; rw [make_units]; omega⟩
theorem Room.depth {k : Nat} {A : Around} (r : Room k A) : A.depth < recursionLimit := by have := r.dp; omega
theorem Room.units {k : Nat} {A : Around} (r : Room k A) : A.units + 64 < cLine := by have := r.un; omega
def tNil : TA := fun _ H Q => Q [] H
def tCons (ta : TE) (tr : TA) : TA := fun σ H Q => ta σ H fun x H1 => tr σ H1 fun xs H2 => Q (x :: xs) H2
section
variable {X : Cx} {e : Expr} {es : List Expr} {te : TE} {t : TA} {pos : Pos}
theorem pa_nil : PA X [] tNil := fun _ _ _ _ H Q I h => Calls.spliced_nil ⟨[], H, I, .nil, h⟩
theorem pa_cons (ha : PE X e te) (hr : PA X es t) (hs : starEach (e :: es) X.env = (false, eval e X.env) :: starEach es X.env := by rfl) : PA X (e :: es) (tCons te t) := by
  intro pos pins s σ H Q I h
  rw [hs]
  show wpAny _ _ (spliced ((false, eval e X.env) :: backTo pos (starEach es X.env))) _ _ s
  refine Calls.spliced_cons (thn (ha pins s σ H _ I h) fun u s1 ⟨x, H1, I1, r1, q1⟩ => ?_)
  exact thn (hr pos pins s1 σ H1 _ I1 q1) fun us s2 ⟨xs, H2, I2, r2, q2⟩ => ⟨x :: xs, H2, I2, .cons r1 r2, q2⟩
def tTup (t : TA) : TE := fun σ H Q => t σ H fun xs H1 => xs.length ≤ sizeLine ∧ ∀ p, H1 p = none → Q (.ref p) (upd H1 p (.tup xs))
def tLst (t : TA) : TE := fun σ H Q => t σ H fun xs H1 => xs.length ≤ sizeLine ∧ ∀ p, H1 p = none → Q (.ref p) (upd H1 p (.lst xs))
theorem pe_tup {x1} (h : PA X es t) : PE X (.Tuple es x1 pos) (tTup t) := by
  intro pins s σ H Q I hq
  refine wpAny_Tuple_spliced (thn (h pos pins s σ H _ I hq) fun us s1 ⟨xs, H1, I1, r, z, q⟩ => ⟨by rw [← r.length]; exact z, ?_⟩)
  have hf : H1 s1.heap.objs.size = none := I1.hok.fresh (Nat.le_refl _)
  refine ⟨.ref s1.heap.objs.size, upd H1 s1.heap.objs.size (.tup xs), I1.laid (t' := s1.toks) (fun b u e => Heap.get?_push_of_some _ e) (Nat.le_refl _) ?_, rfl, q _ hf⟩
  exact ⟨z, us, r, ⟨_, Heap.get?_push_size _ rfl, rfl, _, rfl⟩⟩
theorem pe_lst (h : PA X es t) : PE X (.List es pos) (tLst t) := by
  intro pins s σ H Q I hq
  refine wpAny_List_spliced (thn (h pos pins s σ H _ I hq) fun us s1 ⟨xs, H1, I1, r, z, q⟩ => ⟨by rw [← r.length]; exact z, ?_⟩)
  have hf : H1 s1.heap.objs.size = none := I1.hok.fresh (Nat.le_refl _)
  refine ⟨.ref s1.heap.objs.size, upd H1 s1.heap.objs.size (.lst xs), I1.laid (t' := s1.toks) (fun b u e => Heap.get?_push_of_some _ e) (Nat.le_refl _) ?_, rfl, q _ hf⟩
  exact ⟨z, us, 0, r, Heap.get?_push_size _ rfl⟩
end
abbrev Sp := List V → Hp → VK → XK → Prop
abbrev CXT := List Env → Hp → Shared → XK → Value → Shared → Prop
structure Env0 (P : Program) (w : World) (K : PySem.W.Frag) (mg : Str → Option Value) (base : Heap) (A : Around) (outer : List Env) (s : Shared) (H : Hp) : Prop where
  frames : A.frames = some outer
  mod : Mod K mg base
  bs : ∀ b o, base.get? b = some o → s.heap.get? b = some o ∧ H b = none
  bsz : base.objs.size ≤ s.heap.objs.size
  funs : s.heap.FunFrames base outer
  frf : ∀ b ∈ frs outer, H b = none
  hok : HOk P w H s.heap
  bare : AllBare s.gens
def CE (outer : List Env) (P : Program) (w : World) (H : Hp) (s : Shared) (Q : VK) (u : Value) (s' : Shared) : Prop :=
  ∃ v H', s'.os = s.os ∧ AllBare s'.gens ∧ Un (frs outer) [] H H' s.heap s'.heap ∧ HOk P w H' s'.heap ∧ RelV v u ∧ Q v H'
def CR (CX : CXT) (outer : List Env) (P : Program) (w : World) (H : Hp) (s : Shared) (Q : VK) (E : XK) (r : Result) (s' : Shared) : Prop :=
  match r with
  | .ok (.ret u) => CE outer P w H s Q u s'
  | .ok _ => False
  | .error e => CX outer H s E e s'
structure FnOk (P : Program) (w : World) (K : PySem.W.Frag) (mg : Str → Option Value) (base : Heap) (CX : CXT) (k : Nat) (f : Addr) (fd : FuncData) (ps : List Str) (sp : Sp) : Prop where
  len : ∀ vs H Q E, sp vs H Q E → vs.length = ps.length
  run : ∀ (A : Around) (outer : List Env) (s : Shared) (H : Hp) (args : Args) (us : List Value) (vs : List V) (Q : VK) (E : XK), Room k A → Env0 P w K mg base A outer s H → BindsTo s fd args (ps.zip us) → Vals vs us → sp vs H Q E →
    codeAny (model P w) A (.call (.ref f) args) (CR CX outer P w H s Q E) s
theorem FnOk.mono {P : Program} {w : World} {K : PySem.W.Frag} {mg : Str → Option Value} {base : Heap} {CX : CXT} {j k : Nat} {f : Addr} {fd : FuncData} {ps : List Str} {sp : Sp} (F : FnOk P w K mg base CX j f fd ps sp) (h : j ≤ k) :
    FnOk P w K mg base CX k f fd ps sp := ⟨F.len, fun A outer s H args us vs Q E hr => F.run A outer s H args us vs Q E (hr.mono h)⟩
theorem Env0.make {P : Program} {w : World} {K : PySem.W.Frag} {mg : Str → Option Value} {base : Heap} {A : Around} {outer : List Env} {s : Shared} {H : Hp} (e : Env0 P w K mg base A outer s H) (C : Addr) (us : List Value) (kw : List (Str × Value)) :
    Env0 P w K mg base (A.under (.builtin "type.__call__" ⟨.ref C :: us, kw⟩)) outer s H := ⟨by first | exact e.frames | (simpa [Around.under, Code.envs, Code.isFrame, pushEnvs] using e.frames), e.mod, e.bs, e.bsz, e.funs, e.frf, e.hok, e.bare⟩
section
variable {X : Cx} {pins : List (Addr × Obj)} {σ : St} {H : Hp} {s s' : Shared}
theorem Inv.env0 (I : Inv X pins σ H s) : Env0 X.prog X.w X.K X.mg X.base X.A X.stack s H :=
  ⟨I.ok.frames, I.ok.mod, I.bs, Nat.le_trans I.ok.bsz I.sz, I.stack, I.stkFree, I.hok, I.bare⟩
theorem Inv.after {Q : VK} {u : Value} (I : Inv X pins σ H s) (h : CE X.stack X.prog X.w H s Q u s') : EP X pins σ Q u s' := by
  obtain ⟨v, H', os, bare, un, hok, r, q⟩ := h
  obtain ⟨hh, g, d, t, os'⟩ := s'
  obtain rfl : os' = s.os := os
  exact ⟨v, H', I.call (h' := hh) (g' := g) (d' := d) (t' := t) (ch := []) un hok bare (fun b z => absurd z (by simp)), r, q⟩
end
def tCall (sp : Sp) (dvs : List V) (E : XK) (t : TA) : TE := fun σ H Q => t σ H fun vs H1 => sp (vs ++ dvs) H1 Q E
def tMeth (C : Addr) (m : Str) (sp : Sp) (dvs : List V) (E : XK) (ta : TE) (t : TA) : TE := fun σ H Q => ta σ H fun x H1 => ∃ a dx fs, x = .ref a ∧ H1 a = some (.ins C dx fs) ∧ fs.lookup m = none ∧
  t σ H1 fun vs H2 => sp (x :: (vs ++ dvs)) H2 Q E
def tMake (C : Addr) (sp : Sp) (dvs : List V) (E : XK) (t : TA) : TE := fun σ H Q => t σ H fun vs H1 => ∀ x dx, H1 x = none → H1 dx = none → dx ≠ x →
  sp (.ref x :: (vs ++ dvs)) (upd (upd H1 dx (.own x)) x (.ins C dx [])) (fun v H2 => v = .non ∧ Q (.ref x) H2) E
def Binds (K : PySem.W.Frag) (fd : FuncData) (ps : List Str) (ds : List Value) : Prop :=
  ∀ (s : Shared) (us : List Value), K.In s.heap → (us ++ ds).length = ps.length → BindsTo s fd ⟨us, []⟩ (ps.zip (us ++ ds))
theorem Binds.all {K : PySem.W.Frag} {fd : FuncData} {ps : List Str} (h : ∀ us : List Value, us.length = ps.length → bindArgs fd ⟨us, []⟩ = pure (ps.zip us)) : Binds K fd ps [] := fun s us _ hl => by
  rw [List.append_nil] at hl ⊢
  exact .of_eq (h us hl)
def Passes (CX : CXT) (X : Cx) (E : XK) : Prop := ∀ (pins : List (Addr × Obj)) (σ : St) (H : Hp) (s : Shared) (e : Value) (s' : Shared), Inv X pins σ H s → CX X.stack H s E e s' → X.xe e s'
section
variable {X : Cx} {CX : CXT} {k : Nat} {f C : Addr} {fd : FuncData} {ps : List Str} {sp : Sp} {dvs : List V} {ds : List Value} {E : XK} {x m : Str} {p pos apos : Pos} {e o : Expr} {es : List Expr} {ta : TE} {t : TA}
theorem run_fn {pins : List (Addr × Obj)} {σ : St} {H : Hp} {s : Shared} {Q : VK} {us : List Value} {vs : List V} (F : FnOk X.prog X.w X.K X.mg X.base CX k f fd ps sp) (hr : Room k X.A) (hb : Binds X.K fd ps ds) (hd : Vals dvs ds) (hx : Passes CX X E)
    (I : Inv X pins σ H s) (r : Vals vs us) (h : sp (vs ++ dvs) H Q E) : wpAny (model X.prog X.w) X.A (call (.ref f) us) (EP X pins σ Q) X.xe s := by
  have r2 : Vals (vs ++ dvs) (us ++ ds) := r.append hd
  have hl : (us ++ ds).length = ps.length := by rw [← r2.length]; exact F.len _ _ _ _ h
  refine wpAny_call (codeAny_mono (F.run X.A X.stack s H ⟨us, []⟩ (us ++ ds) (vs ++ dvs) Q E hr I.env0 (hb s us I.kIn hl) r2 h) fun r s' hq => ?_)
  cases r with
  | error e => exact hx pins σ H s e s' I hq
  | ok fl =>
    cases fl with
    | ret u => exact I.after hq
    | next => exact False.elim hq
    | brk => exact False.elim hq
    | cont => exact False.elim hq
theorem pe_call (F : FnOk X.prog X.w X.K X.mg X.base CX k f fd ps sp) (hr : Room k X.A) (hg : Gl X x) (hm : X.mg x = some (.ref f)) (hk : PySem.W.keepIn X.K (.ref f) = true) (hb : Binds X.K fd ps ds) (hd : Vals dvs ds) (hx : Passes CX X E)
    (ha : PA X (e :: es) t) (hdb : (x == ("__debug__" : Str)) = false := by decide) (he : starEach (e :: es) X.env = (false, eval e X.env) :: starEach es X.env := by rfl) (hpl : (backTo pos (starEach es X.env)).any (·.1) = false := by rfl) :
    PE X (.Call (.Name x p) (e :: es) [] pos) (tCall sp dvs E t) := by
  intro pins s σ H Q I h
  refine wpAny_Call_Name_kw (ld_glob I hg hm ?_ hdb)
  refine PySem.W.callWith_K (h₀ := X.base) I.ok.mod.kin hk (thn (ha pos pins s σ H _ I h) fun us s1 ⟨vs, H1, I1, r, q⟩ => ⟨I1.kIn, ?_⟩) he hpl
  exact run_fn F hr hb hd hx I1 r q
theorem pe_meth {pl : Sem Bool} (he : PE X o ta) (c : Cls X.K C) (hm : Meth X.K C m f) (F : FnOk X.prog X.w X.K X.mg X.base CX k f fd ps sp) (hr : Room k X.A) (hb : Binds X.K fd ps ds) (hd : Vals dvs ds) (hx : Passes CX X E) (ha : PA X (e :: es) t)
    (hst : starEach (e :: es) X.env = (false, eval e X.env) :: starEach es X.env := by rfl) (hpl : (backTo pos (starEach es X.env)).any (·.1) = false := by rfl)
    (ht : eval (.Call (.Attribute o m apos) (e :: es) [] pos) X.env = (do
      let ov ← eval o X.env
      standAt apos.atName
      let (f, first) ← holding [ov] (getMethod ov m pl)
      callWith pos f first (backTo pos (starEach (e :: es) X.env)) (backToKw pos (keywordEach [] X.env))) := by rfl) :
    PE X (.Call (.Attribute o m apos) (e :: es) [] pos) (tMeth C m sp dvs E ta t) := by
  intro pins s σ H Q I h
  refine PySem.W.methodCall_KW (pl := pl) (thn (he pins s σ H _ I h) fun u s1 ⟨x, H1, I1, rx, a, dx, fs, ex, ea, l, q⟩ => ?_) ht
  subst ex
  obtain rfl : u = Value.ref a := rx
  refine getmeth_ok I1 ea c hm l ?_
  refine PySem.W.callWith_K (first := [.ref a]) (h₀ := X.base) I.ok.mod.kin hm.kp (thn (ha pos pins s1 σ H1 _ I1 q) fun us s2 ⟨vs, H2, I2, r, q2⟩ => ⟨I2.kIn, ?_⟩) hst hpl
  exact run_fn (us := .ref a :: us) (vs := .ref a :: vs) F hr hb hd hx I2 (.cons rfl r) q2
theorem pe_meth0 {pl : Sem Bool} (he : PE X o ta) (c : Cls X.K C) (hm : Meth X.K C m f) (F : FnOk X.prog X.w X.K X.mg X.base CX k f fd ps sp) (hr : Room k X.A) (hb : Binds X.K fd ps ds) (hd : Vals dvs ds) (hx : Passes CX X E)
    (ht : eval (.Call (.Attribute o m apos) [] [] pos) X.env = (do
      let ov ← eval o X.env
      standAt apos.atName
      let (f, first) ← holding [ov] (getMethod ov m pl)
      callWith pos f first (backTo pos (starEach [] X.env)) (backToKw pos (keywordEach [] X.env))) := by rfl) :
    PE X (.Call (.Attribute o m apos) [] [] pos) (tMeth C m sp dvs E ta tNil) := by
  intro pins s σ H Q I h
  refine PySem.W.methodCall_KW (pl := pl) (thn (he pins s σ H _ I h) fun u s1 ⟨x, H1, I1, rx, a, dx, fs, ex, ea, l, q⟩ => ?_) ht
  subst ex
  obtain rfl : u = Value.ref a := rx
  refine getmeth_ok I1 ea c hm l ?_
  exact PySem.W.callWith_K0 (first := [.ref a]) I1.kIn hm.kp (run_fn (us := [.ref a]) (vs := [.ref a]) F hr hb hd hx I1 (.cons rfl .nil) q)
structure Mk (K : PySem.W.Frag) (C f : Addr) : Prop where
  makes : PySem.W.makesIn K C = true
  init : PySem.W.findIn K (.ref C) "__init__" = some (some (.ref f))
  fn : PySem.W.isFn K (.ref f) = true
  kp : PySem.W.keepIn K (.ref C) = true
theorem run_make {pins : List (Addr × Obj)} {σ : St} {H : Hp} {s : Shared} {Q : VK} {us : List Value} {vs : List V} (M : Mk X.K C f) (F : FnOk X.prog X.w X.K X.mg X.base CX k f fd ps sp) (hr : Room (k + 1) X.A) (hb : Binds X.K fd ps ds) (hd : Vals dvs ds)
    (hx : Passes CX X E) (I : Inv X pins σ H s) (r : Vals vs us)
    (h : ∀ x dx, H x = none → H dx = none → dx ≠ x → sp (.ref x :: (vs ++ dvs)) (upd (upd H dx (.own x)) x (.ins C dx [])) (fun v H2 => v = .non ∧ Q (.ref x) H2) E) :
    wpAny (model X.prog X.w) X.A (call (.ref C) us) (EP X pins σ Q) X.xe s := by
  have hq := h (s.heap.objs.size + 1) s.heap.objs.size (I.hok.fresh (Nat.le_succ _)) (I.hok.fresh (Nat.le_refl _)) (Nat.ne_of_lt (Nat.lt_succ_self _))
  have I2 := Inv.made (C := C) I
  have r2 : Vals (V.ref (s.heap.objs.size + 1) :: (vs ++ dvs)) (Value.ref (s.heap.objs.size + 1) :: (us ++ ds)) := .cons rfl (r.append hd)
  have hl : (Value.ref (s.heap.objs.size + 1) :: us ++ ds).length = ps.length := by
    have e := r2.length
    rw [F.len _ _ _ _ hq] at e
    exact e.symm
  refine wpAny_call (make_map (f := f) I.kIn M.makes M.init (beq_iff_eq.mp M.fn) (codeAny_mono (F.run _ X.stack _ _ ⟨Value.ref (s.heap.objs.size + 1) :: us, []⟩ (Value.ref (s.heap.objs.size + 1) :: (us ++ ds)) _ _ E (hr.make C us [])
    (I2.env0.make C us []) (hb _ (Value.ref (s.heap.objs.size + 1) :: us) I2.kIn hl) r2 hq) fun r s' hq' => ?_))
  cases r with
  | error e => exact hx pins σ _ _ e s' I2 hq'
  | ok fl =>
    cases fl with
    | ret u =>
      obtain ⟨v, H', I3, rv, ev, q3⟩ := I2.after hq'
      subst ev
      exact ⟨rv, ⟨V.ref (s.heap.objs.size + 1), H', I3, rfl, q3⟩⟩
    | next => exact False.elim hq'
    | brk => exact False.elim hq'
    | cont => exact False.elim hq'
theorem pe_make (M : Mk X.K C f) (F : FnOk X.prog X.w X.K X.mg X.base CX k f fd ps sp) (hr : Room (k + 1) X.A) (hg : Gl X x) (hm : X.mg x = some (.ref C)) (hb : Binds X.K fd ps ds) (hd : Vals dvs ds) (hx : Passes CX X E)
    (ha : PA X (e :: es) t) (hdb : (x == ("__debug__" : Str)) = false := by decide) (he : starEach (e :: es) X.env = (false, eval e X.env) :: starEach es X.env := by rfl) (hpl : (backTo pos (starEach es X.env)).any (·.1) = false := by rfl) :
    PE X (.Call (.Name x p) (e :: es) [] pos) (tMake C sp dvs E t) := by
  intro pins s σ H Q I h
  refine wpAny_Call_Name_kw (ld_glob I hg hm ?_ hdb)
  refine PySem.W.callWith_K (h₀ := X.base) I.ok.mod.kin M.kp (thn (ha pos pins s σ H _ I h) fun us s1 ⟨vs, H1, I1, r, q⟩ => ⟨I1.kIn, ?_⟩) he hpl
  exact run_make M F hr hb hd hx I1 r q
theorem pe_make0 (M : Mk X.K C f) (F : FnOk X.prog X.w X.K X.mg X.base CX k f fd ps sp) (hr : Room (k + 1) X.A) (hg : Gl X x) (hm : X.mg x = some (.ref C)) (hb : Binds X.K fd ps ds) (hd : Vals dvs ds) (hx : Passes CX X E)
    (hdb : (x == ("__debug__" : Str)) = false := by decide) : PE X (.Call (.Name x p) [] [] pos) (tMake C sp dvs E tNil) := by
  intro pins s σ H Q I h
  refine wpAny_Call_Name_kw (ld_glob I hg hm ?_ hdb)
  exact PySem.W.callWith_K0 I.kIn M.kp (run_make (us := []) M F hr hb hd hx I .nil h)
end
section
variable {X : Cx} {CX : CXT} {k : Nat} {f C : Addr} {fd : FuncData} {ps ks : List Str} {sp : Sp} {E : XK} {x m : Str} {p pos apos kpos : Pos} {e o : Expr} {es : List Expr} {kws : List Keyword} {te ta : TE} {t tk : TA} {nm : Option Str}
variable {g : List Value → List Value → List Value} {gV : List V → List V → List V}
end
structure FnScope (N P : List Str) (sc : Scope) : Prop where
  kind : sc.kind = .function
  co : sc.isCoroutine = false
  gen : sc.isGenerator = false
  nd : N.Nodup
  pre : N.take P.length = P
  par : ∀ x ∈ P, sc.names.lookup x = some .local ∨ sc.names.lookup x = some .cell
  nofree : ∀ y ∈ sc.names, y.2 ≠ .free
theorem bindL_out {kindOf : Str → Option NameKind} {x : Str} : ∀ {binds : List (Str × Value)} {m : Str → Option Value}, (∀ v, (x, v) ∉ binds) → bindL kindOf binds m x = m x
  | [], _, _ => rfl
  | (n, v) :: r, m, h => by
    unfold bindL
    rw [bindL_out fun w hw => h w (List.mem_cons_of_mem _ hw)]
    split
    · have : x ≠ n := by rintro rfl; exact h v List.mem_cons_self
      simp [this]
    · rfl
theorem bindC_out {kindOf : Str → Option NameKind} {x : Str} : ∀ {binds : List (Str × Value)} {m : Str → Option Value}, (∀ v, (x, v) ∉ binds) → bindC kindOf binds m x = m x
  | [], _, _ => rfl
  | (n, v) :: r, m, h => by
    unfold bindC
    rw [bindC_out fun w hw => h w (List.mem_cons_of_mem _ hw)]
    split
    · rfl
    · have : x ≠ n := by rintro rfl; exact h v List.mem_cons_self
      simp [this]
theorem bindL_get {kindOf : Str → Option NameKind} {x : Str} {v : Value} : ∀ {P : List Str} {vs : List Value} {i : Nat} {m : Str → Option Value}, P.Nodup → P[i]? = some x → vs[i]? = some v → kindOf x = some .local →
    bindL kindOf (P.zip vs) m x = some v
  | [], _, _, _, _, h, _, _ => by simp at h
  | _ :: _, [], _, _, _, _, h, _ => by simp at h
  | p :: P, w :: vs, 0, m, nd, h1, h2, hk => by
    simp at h1 h2; subst h1; subst h2
    show bindL kindOf ((p, w) :: P.zip vs) m p = _
    unfold bindL
    rw [bindL_out fun v hv => (List.nodup_cons.mp nd).1 (List.of_mem_zip hv).1, if_pos hk]
    simp
  | p :: P, w :: vs, i + 1, m, nd, h1, h2, hk => by
    show bindL kindOf ((p, w) :: P.zip vs) m x = _
    unfold bindL
    exact bindL_get (i := i) (List.nodup_cons.mp nd).2 (by simpa using h1) (by simpa using h2) hk
theorem bindC_get {kindOf : Str → Option NameKind} {x : Str} {v : Value} : ∀ {P : List Str} {vs : List Value} {i : Nat} {m : Str → Option Value}, P.Nodup → P[i]? = some x → vs[i]? = some v → kindOf x ≠ some .local →
    bindC kindOf (P.zip vs) m x = some v
  | [], _, _, _, _, h, _, _ => by simp at h
  | _ :: _, [], _, _, _, _, h, _ => by simp at h
  | p :: P, w :: vs, 0, m, nd, h1, h2, hk => by
    simp at h1 h2; subst h1; subst h2
    show bindC kindOf ((p, w) :: P.zip vs) m p = _
    unfold bindC
    rw [bindC_out fun v hv => (List.nodup_cons.mp nd).1 (List.of_mem_zip hv).1, if_neg hk]
    simp
  | p :: P, w :: vs, i + 1, m, nd, h1, h2, hk => by
    show bindC kindOf ((p, w) :: P.zip vs) m x = _
    unfold bindC
    exact bindC_get (i := i) (List.nodup_cons.mp nd).2 (by simpa using h1) (by simpa using h2) hk
def start (N : List Str) (vs : List V) : St := vs.map some ++ List.replicate (N.length - vs.length) none
def cxOf (CX : CXT) (P : Program) (w : World) (K : PySem.W.Frag) (mg : Str → Option Value) (base : Heap) (N : List Str) (qual : Str) (scope : Scope) (f : Addr) (cd : Value) (A : Around) (outer : List Env) (s : Shared) (H : Hp) (E : XK) : Cx where
  prog := P
  w := w
  K := K
  mg := mg
  base := base
  A := A.deeper (envOfC qual scope s.heap.objs.size f cd)
  N := N
  s_0 := s
  H_0 := H
  env := envOfC qual scope s.heap.objs.size f cd
  outer := outer
  stack := envOfC qual scope s.heap.objs.size f cd :: outer
  ex := []
  calm := true
  fn := fun _ => true
  pn := []
  xe := fun e s' => wpAny (model P w) (A.deeper (envOfC qual scope s.heap.objs.size f cd)) (leaving (envOfC qual scope s.heap.objs.size f cd) e) (fun _ s'' => CX outer H s E e s'') (fun e' s'' => CX outer H s E e' s'') s'
theorem cell_has {sc : Scope} {n : Nat} {x : Str} (h : sc.names.lookup x = some .cell) : ∃ c, (cellsFrom n sc.names []).lookup x = some c := by
  have q := PySem.W.cellsFrom_some sc.names n [] (.inl h)
  exact Option.isSome_iff_exists.mp q
theorem inv_start {CX : CXT} {P : Program} {w : World} {K : PySem.W.Frag} {mg : Str → Option Value} {base : Heap} {N ps : List Str} {qual : Str} {scope : Scope} {f : Addr} {cd : Value} {A : Around} {outer : List Env} {s s1 : Shared} {H : Hp} {E : XK} {us : List Value} {vs : List V}
    (S : FnScope N ps scope) (hd : A.handled = none) (e0 : Env0 P w K mg base A outer s H) (hl : vs.length = ps.length) (r : Vals vs us)
    (x : InCallC s s.heap.objs.size (bindL (envOfC qual scope s.heap.objs.size f cd).kindOf (ps.zip us) fun _ => none) (cellsFrom (s.heap.objs.size + 1) scope.names []) (bindC (envOfC qual scope s.heap.objs.size f cd).kindOf (ps.zip us) fun _ => none) s1) :
    Inv (cxOf CX P w K mg base N qual scope f cd A outer s H E) [] (start N vs) H s1 := by
  have hpl : ps.length ≤ N.length := by have := congrArg List.length S.pre; rw [List.length_take] at this; omega
  obtain ⟨h1, tk, rfl, hk⟩ := x.done
  have noA : ∀ b : Addr, b ∉ (cxOf CX P w K mg base N qual scope f cd A outer s H E).ex := fun b z => absurd (show b ∈ ([] : List Addr) from z) (by simp)
  refine ⟨⟨e0.mod, S.kind, rfl, rfl, Nat.le_refl _, fun y z c h1 h2 => ?_, fun y hy => ?_, fun y c _ h => ?_, fun _ => hd, Around.frames_deeper e0.frames, .inr ⟨rfl, rfl⟩, fun b z => absurd z (noA b), e0.bs, e0.bsz, fun b _ _ => noA b, fun b z => absurd z (noA b), e0.funs, e0.frf⟩,
    rfl, e0.bare, Un.kept hk, ⟨_, x.toInCall.ns, fun i y v h1 h2 h3 => ?_⟩, fun y c h => ⟨_, x.cell y c h⟩, e0.hok.fresh (Nat.le_refl _), fun y c h => ?_, fun p hp => absurd (show p ∈ ([] : List (Addr × Obj)) from hp) (by simp), e0.hok.kept hk, ?_⟩
  · exact name_of_addr x.apart (PySem.mem_of_lookup h1) (PySem.mem_of_lookup h2)
  · have hy : scope.names.lookup y = some .cell ∨ scope.names.lookup y = some .free := hy
    rcases hy with hy | hy
    · exact cell_has hy
    · exact absurd rfl (S.nofree _ (PySem.mem_of_lookup hy))
  · exact Nat.le_of_lt (x.above y c (PySem.mem_of_lookup h))
  · have hi : i < vs.length := by
      unfold start at h2
      by_cases hi : i < vs.length
      · exact hi
      · rw [List.getElem?_append_right (by simpa using hi)] at h2
        rw [List.getElem?_replicate] at h2
        split at h2 <;> cases h2
    have ha : vs[i]? = some v := by
      unfold start at h2
      rw [List.getElem?_append_left (by simpa using hi), List.getElem?_map] at h2
      cases e : vs[i]? with
      | none => rw [e] at h2; cases h2
      | some a => rw [e] at h2; cases h2; rfl
    obtain ⟨u, hu, rv⟩ := r.get ha
    have hp : ps[i]? = some y := by
      rw [← S.pre, List.getElem?_take_of_lt (by omega)]; exact h1
    have ndP : ps.Nodup := by rw [← S.pre]; exact S.nd.sublist (List.take_sublist _ _)
    refine ⟨u, rv, ?_⟩
    rcases S.par y (List.mem_of_getElem? hp) with k | k
    · exact .inl ⟨k, bindL_get ndP hp hu k⟩
    · obtain ⟨c, e⟩ := cell_has (n := s.heap.objs.size + 1) k
      refine .inr ⟨.inl k, c, e, ?_⟩
      have q := x.cell y c e
      rw [bindC_get ndP hp hu (by show scope.names.lookup y ≠ _; rw [k]; decide)] at q
      exact q
  · exact e0.hok.fresh (Nat.le_of_lt (x.above y c (PySem.mem_of_lookup h)))
  · unfold start
    show _ = N.length
    rw [List.length_append, List.length_map, List.length_replicate]
    omega
theorem fn_of {CX : CXT} {P : Program} {w : World} {K : PySem.W.Frag} {mg : Str → Option Value} {base : Heap} {k : Nat} {f : Addr} {name qual : Str} {params : Arguments} {body : List Stmt} {scope : Scope} {dV kV doc pm cdv ct oc : Value} {an od : Option Addr}
    {osl : Array (Option Value)} {N ps : List Str} {sp : Sp} (lk : K.lookup f = some ⟨oc, od, .func (PySem.W.fnOf name qual params body scope dV kV doc pm an cdv ct), osl⟩) (hcd : PySem.W.codeIn K cdv qual = true) (S : FnScope N ps scope)
    (len : ∀ vs H Q E, sp vs H Q E → vs.length = ps.length)
    (hbody : ∀ (A : Around) (outer : List Env) (s : Shared) (H : Hp) (vs : List V) (Q : VK) (E : XK), Room k (A.deeper (envOfC qual scope s.heap.objs.size f cdv)) → sp vs H Q E →
      ∃ t, PSs (cxOf CX P w K mg base N qual scope f cdv A outer s H E) body t ∧ t { nx := fun _ H' => Q .non H', rt := Q } (start N vs) H) :
    FnOk P w K mg base CX (k + 1) f (PySem.W.fnOf name qual params body scope dV kV doc pm an cdv ct) ps sp := by
  refine ⟨len, fun A outer s H args us vs Q E hr e0 hb r hsp => ?_⟩
  have hl := len _ _ _ _ hsp
  have KX : K.In s.heap := e0.mod.kin.keeps fun b o e => (e0.bs b o e).1
  have lim : s.heap.NoLimit := e0.mod.nolimit.keeps fun b o e => (e0.bs b o e).1
  have hkind : ∀ y ∈ ps.zip us, scope.names.lookup y.1 = some .local ∨ (scope.names.lookup y.1 = some .cell ∧ ((cellsFrom (s.heap.objs.size + 1) scope.names []).lookup y.1).isSome = true) := fun ⟨n, v⟩ hy => by
    rcases S.par n (List.of_mem_zip hy).1 with q | q
    · exact .inl q
    · exact .inr ⟨q, PySem.W.cellsFrom_some _ _ _ (.inl q)⟩
  refine codeAny_call_function hr.depth (KX _ _ lk) rfl S.co S.gen rfl (PySem.W.codeRec_of KX hcd) (hb _ _ _ _ ?_)
  refine wpAny_newFunctionEnv_cells S.kind hkind fun env he s1 x => ?_
  subst he
  refine ⟨lim.keeps x.toInCall.keep, codeAny_func ?_⟩
  obtain ⟨t, ht, hq⟩ := hbody A outer s H vs Q E (hr.deeper _) hsp
  have I : Inv (cxOf CX P w K mg base N qual scope f cdv A outer s H E) [] (start N vs) H s1 := inv_start S hr.hd e0 hl r x
  refine wpAny_mono (ht [] s1 (start N vs) H _ I hq) (fun fl s' hs => ?_) fun e s' hs => hs
  have fin : ∀ {σ' : St} {H' : Hp} {v : V} {u : Value}, Inv (cxOf CX P w K mg base N qual scope f cdv A outer s H E) [] σ' H' s' → RelV v u → Q v H' → CE outer P w H s Q u s' :=
    fun {σ' H' v u} J rv q => ⟨v, H', J.os, J.bare, J.base, J.hok, rv, q⟩
  cases fl with
  | ret u =>
    obtain ⟨v, σ', H', J, rv, q⟩ := hs
    exact fin J rv q
  | next =>
    obtain ⟨σ', H', J, q⟩ := hs
    exact fin (v := V.non) (u := Value.none) J rfl q
  | brk =>
    obtain ⟨_, _, _, q⟩ := hs
    exact False.elim q
  | cont =>
    obtain ⟨_, _, _, q⟩ := hs
    exact False.elim q
end L2
namespace L2
open PySem PySem.Spec PyProof.Rows
section
variable {X : Cx} {x : Str} {p pos : Pos} {e : Expr} {es : List Expr} {t : TA} {id T : String} {r : List V → Hp → VK → Prop}
def tCB (r : List V → Hp → VK → Prop) (t : TA) : TE := fun σ H Q => t σ H fun vs H1 => r vs H1 Q
theorem pe_callB (hc : CallR X (.builtin id) r) (hg : Gl X x) (hm : X.mg x = none) (hv : bootBuiltins x = some (.builtin id)) (ha : PA X (e :: es) t) (hn : x ≠ "__name__" := by decide) (hdb : (x == ("__debug__" : Str)) = false := by decide)
    (he : starEach (e :: es) X.env = (false, eval e X.env) :: starEach es X.env := by rfl) (hpl : (backTo pos (starEach es X.env)).any (·.1) = false := by rfl) : PE X (.Call (.Name x p) (e :: es) [] pos) (tCB r t) := by
  intro pins s σ H Q I h
  refine wpAny_Call_Name_kw (ld_blt I hg hm hv ?_ hn hdb)
  exact PyProof.Rows.callWith_builtin1 (thn (ha pos pins s σ H _ I h) fun us s1 ⟨vs, H1, I1, r1, q1⟩ => hc pins s1 σ H1 vs us Q I1 r1 q1) he hpl
theorem pe_callTy (hc : CallR X (.type T) r) (hg : Gl X x) (hm : X.mg x = none) (hv : bootBuiltins x = some (.type T)) (ha : PA X (e :: es) t) (hn : x ≠ "__name__" := by decide) (hdb : (x == ("__debug__" : Str)) = false := by decide)
    (he : starEach (e :: es) X.env = (false, eval e X.env) :: starEach es X.env := by rfl) (hpl : (backTo pos (starEach es X.env)).any (·.1) = false := by rfl) : PE X (.Call (.Name x p) (e :: es) [] pos) (tCB r t) := by
  intro pins s σ H Q I h
  refine wpAny_Call_Name_kw (ld_blt I hg hm hv ?_ hn hdb)
  exact PyProof.Rows.callWith_type1 (thn (ha pos pins s σ H _ I h) fun us s1 ⟨vs, H1, I1, r1, q1⟩ => hc pins s1 σ H1 vs us Q I1 r1 q1) he hpl
end
end L2
namespace HT
open PySem PyProof.Rows
def lexLt : List Int → List Int → Bool
  | [], [] => false
  | [], _ :: _ => true
  | _ :: _, [] => false
  | x :: xs, y :: ys => if x = y then lexLt xs ys else decide (x < y)
theorem lexLt_cons (x y : Int) (xs ys : List Int) : lexLt (x :: xs) (y :: ys) = if x = y then lexLt xs ys else decide (x < y) := rfl
theorem lexLt_nil_nil : lexLt [] [] = false := rfl
theorem lexLt_nil_cons (y : Int) (ys : List Int) : lexLt [] (y :: ys) = true := rfl
theorem lexLt_cons_nil (x : Int) (xs : List Int) : lexLt (x :: xs) [] = false := rfl
theorem eqAt_int (A : Around) (s : Shared) (a : Int) (t : Tok) (c : Int) (u : Tok) : ∃ e, SeqAt.EqAt A s (.int a t) (.int c u) e ∧ (e = true ↔ a = c) :=
  ⟨(a == c), SeqAt.EqAt.int_int a t c u, by simp⟩
theorem rcLt_int (A : Around) (s : Shared) (a : Int) (t : Tok) (c : Int) (u : Tok) (prog : Program) (w : World) (E : Value → Shared → Prop) (Q : Value → Shared → Prop) (h : Q (.bool (decide (a < c))) s) :
    wpAny (model prog w) A (richCompare .Lt (.int a t) (.int c u)) Q E s :=
  (PyProof.Rows.lt_int h : wpAny (model prog w) A (compareOp .Lt (.int a t) (.int c u)) Q E s)
section
open PySem.SeqAt
open PySem.AutoSeq1 (wpAny_loadPart')
open PySem.MeetsSeq PySem.MeetsSeq2 PySem.MeetsSeq3
end
section
variable {prog : Program} {w : World} {A : Around} {E : Value → Shared → Prop} {s : Shared}
def sIx (n d : Nat) : Option Int → Nat
  | none => d
  | some v => if v < 0 then (v + (n : Int)).toNat else min v.toNat n
theorem sIx_none (n d : Nat) : sIx n d none = d := rfl
theorem sIx_nat (n d k : Nat) : sIx n d (some (k : Int)) = min k n := by
  show (if (k : Int) < 0 then ((k : Int) + (n : Int)).toNat else min (k : Int).toNat n) = min k n
  rw [if_neg (by omega), Int.toNat_natCast]
end
end HT
namespace L2
open PySem PySem.Spec PyProof.Rows
abbrev TO := St → Hp → (Option Int → Hp → Prop) → Prop
def PO (X : Cx) (e : Option Expr) (t : TO) : Prop :=
  ∀ (pins : List (Addr × Obj)) (s : Shared) (σ : St) (H : Hp) (Q : Option Int → Hp → Prop), Inv X pins σ H s → t σ H Q →
    wpAny (model X.prog X.w) X.A (evalPart e X.env) (fun u s' => ∃ o H', Inv X pins σ H' s' ∧ IsPart u o ∧ Q o H') X.xe s
def tNoPart : TO := fun _ H Q => Q none H
def tPart (t : TE) : TO := fun σ H Q => t σ H fun x H1 => ∃ i, x = .int i ∧ Q (some i) H1
section
variable {X : Cx} {e : Expr} {te : TE} {lo hi : Option Expr} {tl th : TO} {pos p2 : Pos}
theorem po_none : PO X none tNoPart := by
  intro pins s σ H Q I h
  rw [evalPart_none]
  exact wpAny_pure ⟨none, H, I, .none, h⟩
theorem po_some (h : PE X e te) : PO X (some e) (tPart te) := by
  intro pins s σ H Q I hw
  rw [evalPart_some]
  refine thn (h pins s σ H _ I hw) fun u s1 ⟨x, H1, I1, r1, q1⟩ => ?_
  obtain ⟨i, rfl, q⟩ := q1
  obtain ⟨t, rfl⟩ := r1
  exact ⟨some i, H1, I1, .int i t, q⟩
def SlR (X : Cx) (r : V → Option Int → Option Int → Hp → VK → Prop) : Prop :=
  ∀ (pins : List (Addr × Obj)) (s : Shared) (σ : St) (H : Hp) (x : V) (v vl vu : Value) (lo hi : Option Int) (sl : Addr) (Q : VK), Inv X pins σ H s → RelV x v → s.heap.IsSliceOf sl vl vu .none → IsPart vl lo → IsPart vu hi → r x lo hi H Q →
    ∃ T id, typeLookup (.type T) "__getitem__" = pure (some (.builtin id)) ∧ s.TypeIs v T ∧ wpAny (model X.prog X.w) X.A (getItem v (.ref sl)) (EP X pins σ Q) X.xe s
def tSl (r : V → Option Int → Option Int → Hp → VK → Prop) (te : TE) (tl th : TO) : TE := fun σ H Q => te σ H fun x H1 => tl σ H1 fun l H2 => th σ H2 fun u H3 => r x l u H3 Q
theorem pe_slice {r : V → Option Int → Option Int → Hp → VK → Prop} (hr : SlR X r) (he : PE X e te) (hl : PO X lo tl) (hu : PO X hi th) : PE X (.Subscript e (.Slice lo hi none p2) pos) (tSl r te tl th) := by
  intro pins s σ H Q I h
  refine Subscript_ (thn (he pins s σ H _ I h) fun v s1 ⟨x, H1, I1, r1, q1⟩ => ?_)
  refine wpAny_Slice (thn (hl pins s1 σ H1 _ I1 q1) fun vl s2 ⟨l, H2, I2, pl, q2⟩ => thn (hu pins s2 σ H2 _ I2 q2) fun vu s3 ⟨u, H3, I3, pu, q3⟩ => ?_)
  rw [evalPart_none]
  refine wpAny_pure ?_
  have I4 : Inv X pins σ H3 { s3 with heap := s3.heap.push { cls := .type "slice", data := .fields #[vl, vu, .none] } } := I3.kept (t' := s3.toks) fun b ob q => Heap.get?_push_of_some _ q
  obtain ⟨T, id, hT, ht, hg⟩ := hr pins { s3 with heap := s3.heap.push { cls := .type "slice", data := .fields #[vl, vu, .none] } } σ H3 x v vl vu l u s3.heap.objs.size Q I4 r1 (Heap.IsSliceOf.new ..) pl pu q3
  show wpAny (model X.prog X.w) X.A (subscriptTail e (.Slice lo hi none p2) v (.ref s3.heap.objs.size)) (EP X pins σ Q) X.xe { s3 with heap := s3.heap.push { cls := .type "slice", data := .fields #[vl, vu, .none] } }
  exact tail_any (ops := [.ref s3.heap.objs.size, v]) ht hT hg (by with_unfolding_all rfl)
def cutV (xs : List V) (lo hi : Option Int) : List V := (xs.drop (HT.sIx xs.length 0 lo)).take (HT.sIx xs.length xs.length hi - HT.sIx xs.length 0 lo)
theorem cutV_length (xs : List V) (lo hi : Option Int) : (cutV xs lo hi).length ≤ xs.length := by
  unfold cutV
  rw [List.length_take, List.length_drop]
  omega
end
end L2
namespace L2
open PySem PySem.Spec PyProof.Rows
def ixN (n : Nat) (i : Int) : Option Nat := if 0 ≤ i then (if i < n then some i.toNat else none) else if -(n : Int) ≤ i then some (i + n).toNat else none
def atI {α : Type} (xs : List α) (i : Int) : Option α := (ixN xs.length i).bind fun j => xs[j]?
theorem ixN_seq {n : Nat} {i : Int} {j : Nat} (h : ixN n i = some j) : seqIndex? i n = some j ∧ j < n ∧ -(n : Int) ≤ i ∧ i < n := by
  unfold ixN at h
  by_cases h0 : 0 ≤ i
  · rw [if_pos h0] at h
    by_cases h1 : i < n
    · rw [if_pos h1] at h
      have e : i.toNat = j := Option.some.inj h
      exact ⟨by rw [seqIndex_of h0 h1, e], by omega, by omega, h1⟩
    · rw [if_neg h1] at h; cases h
  · rw [if_neg h0] at h
    by_cases h1 : -(n : Int) ≤ i
    · rw [if_pos h1] at h
      have e : (i + n).toNat = j := Option.some.inj h
      exact ⟨by rw [seqIndex_neg (by omega) h1, e], by omega, h1, by omega⟩
    · rw [if_neg h1] at h; cases h
theorem atI_get {α : Type} {xs : List α} {i : Int} {v : α} (h : atI xs i = some v) : ∃ j, seqIndex? i xs.length = some j ∧ xs[j]? = some v ∧ j < xs.length ∧ -(xs.length : Int) ≤ i ∧ i < xs.length := by
  unfold atI at h
  cases e : ixN xs.length i with
  | none => rw [e] at h; cases h
  | some j =>
    rw [e] at h
    obtain ⟨h1, h2, h3, h4⟩ := ixN_seq e
    exact ⟨j, h1, h, h2, h3, h4⟩
theorem atI_nat {α : Type} {xs : List α} {j : Nat} {v : α} (h : xs[j]? = some v) : atI xs (j : Int) = some v := by
  have hj : j < xs.length := (List.getElem?_eq_some_iff.mp h).1
  have e : ixN xs.length (j : Int) = some j := by
    unfold ixN
    rw [if_pos (by omega), if_pos (by omega)]; simp
  unfold atI; rw [e]; exact h
def PlainIx (b : Expr) : Prop := ∀ o i, subscripted b false o i = operate [o, i] (getItem o i)
def IxR (X : Cx) (r : R2) : Prop :=
  ∀ (value slice : Expr) (pins : List (Addr × Obj)) (s : Shared) (σ : St) (H : Hp) (x y : V) (v u : Value) (Q : VK), Inv X pins σ H s → RelV x v → RelV y u → r x y H Q →
    subscripted slice false v u = operate [v, u] (getItem v u) → wpAny (model X.prog X.w) X.A (subscriptTail value slice v u) (EP X pins σ Q) X.xe s
def MtR (X : Cx) (id : String) (r : V → List V → Hp → VK → Prop) : Prop :=
  ∀ (pins : List (Addr × Obj)) (s : Shared) (σ : St) (H : Hp) (x : V) (xs : List V) (v : Value) (us : List Value) (Q : VK), Inv X pins σ H s → RelV x v → Vals xs us → r x xs H Q →
    wpAny (model X.prog X.w) X.A (call (.builtin id) (v :: us)) (EP X pins σ Q) X.xe s
section
variable {X : Cx} {a b : Expr} {ta tb : TE} {pos : Pos}
theorem pe_ix {r : R2} (hr : IxR X r) (ha : PE X a ta) (hb : PE X b tb) (hs : PlainIx b) : PE X (.Subscript a b pos) (tOp r ta tb) := by
  intro pins s σ H Q I h
  exact Subscript_ (binT ha hb I h fun v u s2 x y H2 I2 rx ry q => hr a b pins s2 σ H2 x y v u Q I2 rx ry q (hs _ _))
def rIxL (K : PySem.W.Frag) : R2 := fun x y H Q => ∃ p xs i v, x = .ref p ∧ y = .int i ∧ SqL K H p xs ∧ atI xs i = some v ∧ Q v H
def rIxT (K : PySem.W.Frag) : R2 := fun x y H Q => ∃ p xs i v, x = .ref p ∧ y = .int i ∧ SqT K H p xs ∧ atI xs i = some v ∧ Q v H
theorem ix_list : IxR X (rIxL X.K) := by
  intro value slice pins s σ H x y v u Q I rx ry h hs
  obtain ⟨p, xs, i, z, rfl, rfl, hq, he, q⟩ := h
  cases rx
  obtain ⟨t, rfl⟩ := ry
  obtain ⟨its, r, pl, hz⟩ := I.list hq
  obtain ⟨j, h1, h2, h3, h4, h5⟩ := atI_get he
  obtain ⟨w, ew, rw'⟩ := r.get h2
  have hl := r.length
  have hn := line63
  have fin : EP X pins σ Q w s := ⟨z, H, I, rw', q⟩
  by_cases h0 : 0 ≤ i
  · have hj : i.toNat = j := by
      rw [seqIndex_of h0 h5] at h1
      exact Option.some.inj h1
    exact item_listR pl.isList h0 (by omega) (by rw [hj]; simpa using ew) fin hs
  · have hj : (i + (its.toArray.size : Int)).toNat = j := by
      rw [seqIndex_neg (by omega) h4] at h1
      rw [List.size_toArray, ← hl]
      exact Option.some.inj h1
    exact subscriptTail_builtinR (x := w) pl.isList.typeIs slot_list_getitem.lookup
      (wpAny_getItem_list_neg (Q := fun r s' => r = w ∧ EP X pins σ Q r s') pl.isList (by omega) (by rw [List.size_toArray] <;> omega) (by omega) (by rw [hj]; simpa using ew) ⟨rfl, fin⟩) hs
theorem ix_tup : IxR X (rIxT X.K) := by
  intro value slice pins s σ H x y v u Q I rx ry h hs
  obtain ⟨p, xs, i, z, rfl, rfl, hq, he, q⟩ := h
  cases rx
  obtain ⟨t, rfl⟩ := ry
  obtain ⟨its, r, pl, hz⟩ := I.tuple hq
  obtain ⟨j, h1, h2, h3, h4, h5⟩ := atI_get he
  obtain ⟨w, ew, rw'⟩ := r.get h2
  have hl := r.length
  have hn := line63
  have fin : EP X pins σ Q w s := ⟨z, H, I, rw', q⟩
  exact subscriptTail_builtinR (x := w) pl.typeIs slot_tuple_getitem.lookup
    (getItem_tuple (j := j) (Q := fun r s' => r = w ∧ EP X pins σ Q r s') pl (by omega) (by omega) (by rw [List.size_toArray, ← hl]; exact h1) (by simpa using ew) ⟨rfl, fin⟩) hs
theorem mapSeq_set (its : List Value) (n j : Nat) (u : Value) : Obj.mapSeq (·.setIfInBounds j u) { cls := .type "list", data := .seq its.toArray n } = { cls := .type "list", data := .seq (its.set j u).toArray n } := by
  simp [Obj.mapSeq]
theorem Inv.lst {pins : List (Addr × Obj)} {σ : St} {H : Hp} {s : Shared} {p : Addr} {xs : List V} (I : Inv X pins σ H s) (h : H p = some (.lst xs)) :
    ∃ (its : List Value) (n : Nat), Vals xs its ∧ s.heap.get? p = some { cls := .type "list", data := .seq its.toArray n } ∧ xs.length ≤ sizeLine := by
  obtain ⟨z, its, n, r, e⟩ := I.hok p _ h
  exact ⟨its, n, r, e, z⟩
theorem Inv.lstUpd {pins : List (Addr × Obj)} {σ : St} {H : Hp} {s : Shared} {p : Addr} {xs ys : List V} {its its' : List Value} {n n' : Nat} {f : Obj → Obj} (I : Inv X pins σ H s) (h : H p = some (.lst xs))
    (ho : s.heap.get? p = some { cls := .type "list", data := .seq its.toArray n }) (hf : f { cls := .type "list", data := .seq its.toArray n } = { cls := .type "list", data := .seq its'.toArray n' }) (r : Vals ys its') (hz : ys.length ≤ sizeLine) (t : Nat) :
    Inv X pins σ (upd H p (.lst ys)) { s with heap := s.heap.update p f, toks := t } := by
  have e : (s.heap.update p f).get? p = some { cls := .type "list", data := .seq its'.toArray n' } := by
    rw [Heap.get?_update_self f ho (by rw [hf] <;> rfl), hf]
  refine I.write (x := p) (e := p) (by rw [h]; trivial) (.inl rfl) (fun b u hb q => (Heap.get?_update_other _ _ (Ne.symm hb)).trans q) ⟨_, e⟩ ?_
  exact ⟨hz, its', n', r, e⟩
def rSetL : V → V → V → Hp → (Hp → Prop) → Prop := fun o i v H Q => ∃ p xs k j, o = .ref p ∧ i = .int k ∧ H p = some (.lst xs) ∧ ixN xs.length k = some j ∧ Q (upd H p (.lst (xs.set j v)))
theorem set_list : PSet X rSetL := by
  intro pins s σ H o i v ov iv u Q I ro ri rv h
  obtain ⟨p, xs, k, j, rfl, rfl, hp, hj, q⟩ := h
  cases ro
  obtain ⟨t, rfl⟩ := ri
  obtain ⟨its, n, r, ho, hz⟩ := I.lst hp
  obtain ⟨h1, h2, h3, h4⟩ := ixN_seq hj
  have hl := r.length
  have hn := line63
  have I' : Inv X pins σ (upd H p (.lst (xs.set j v))) { s with heap := s.heap.update p (Obj.mapSeq (·.setIfInBounds j u)) } :=
    I.lstUpd hp ho (mapSeq_set its n j u) (r.set rv j) (by rw [List.length_set]; exact hz) s.toks
  by_cases h0 : 0 ≤ k
  · have hk : k.toNat = j := by
      rw [seqIndex_of h0 h4] at h1
      exact Option.some.inj h1
    exact PySem.W.ki_setAt ho h0 (by omega) (by rw [List.size_toArray, ← hl]; exact h4) (by rw [hk]; exact ⟨_, I', q⟩)
  · have hk : (k + (its.toArray.size : Int)).toNat = j := by
      rw [seqIndex_neg (by omega) h3] at h1
      rw [List.size_toArray, ← hl]
      exact Option.some.inj h1
    exact PySem.W.ki_setBack ho (by omega) (by rw [List.size_toArray, ← hl]; exact h3) (by omega) (by rw [hk]; exact ⟨_, I', q⟩)
theorem slice_bounds (lo hi : Option Int) (n : Nat) : (sliceBounds lo hi none n).1 = ((HT.sIx n 0 lo : Nat) : Int) ∧ (sliceBounds lo hi none n).2.1 = ((HT.sIx n n hi : Nat) : Int) ∧ (sliceBounds lo hi none n).2.2 = 1 := by
  refine ⟨?_, ?_, rfl⟩
  · cases lo with
    | none => simp [sliceBounds, HT.sIx]
    | some i =>
      simp only [sliceBounds, HT.sIx, Option.getD_none, show (1 : Int) > 0 by decide, if_true]
      by_cases h : i < 0
      · simp only [h, if_true] <;> omega
      · simp only [h, if_false] <;> omega
  · cases hi with
    | none => simp [sliceBounds, HT.sIx]
    | some i =>
      simp only [sliceBounds, HT.sIx, Option.getD_none, show (1 : Int) > 0 by decide, if_true]
      by_cases h : i < 0
      · simp only [h, if_true] <;> omega
      · simp only [h, if_false] <;> omega
theorem slicePick_cut (its : List Value) (lo hi : Option Int) : slicePick its.toArray lo hi none = ((its.drop (HT.sIx its.length 0 lo)).take (HT.sIx its.length its.length hi - HT.sIx its.length 0 lo)).toArray := by
  obtain ⟨h1, h2, h3⟩ := slice_bounds lo hi its.toArray.size
  unfold slicePick
  rw [h1, h2, h3]
  simp only [sliceRange_one, pick_run, List.size_toArray] <;> rfl
def rSlL (K : PySem.W.Frag) : V → Option Int → Option Int → Hp → VK → Prop := fun x lo hi H Q => ∃ a xs, x = .ref a ∧ SqL K H a xs ∧ ∀ p, H p = none → Q (.ref p) (upd H p (.lst (cutV xs lo hi)))
theorem sl_list : SlR X (rSlL X.K) := by
  intro pins s σ H x v vl vu lo hi sl Q I rx hs pl pu h
  obtain ⟨a, xs, rfl, hx, q⟩ := h
  cases rx
  obtain ⟨its, r, ht, hz⟩ := I.list hx
  have hlen := r.length
  refine ⟨"list", _, slot_list_getitem.lookup, ht.isList.typeIs, ?_⟩
  refine wpAny_getItem_list_slice ht.isList hs pl pu .none (by simp) ?_ (by rw [List.size_toArray] <;> omega)
  rw [slicePick_cut, ← hlen]
  refine ⟨.ref s.heap.objs.size, _, I.laid (t' := s.toks) (o := .lst (cutV xs lo hi)) (fun b ob q => Heap.get?_push_of_some _ q) (Nat.le_refl _) ?_, rfl, q _ (I.hok.fresh (Nat.le_refl _))⟩
  exact ⟨Nat.le_trans (cutV_length xs lo hi) hz, _, 0, (r.drop (HT.sIx xs.length 0 lo)).take (HT.sIx xs.length xs.length hi - HT.sIx xs.length 0 lo), Heap.get?_push_size _ rfl⟩
theorem call_len_seq : CallR X (.builtin "len") (fun xs H Q => ∃ p ys, xs = [.ref p] ∧ (SqL X.K H p ys ∨ SqT X.K H p ys) ∧ Q (.int ys.length) H) := by
  intro pins s σ H xs us Q I r h
  obtain ⟨p, ys, rfl, hq, q⟩ := h
  obtain ⟨u, rfl, rx⟩ := vals1 r
  cases rx
  have hn := line63
  rcases hq with hq | hq
  · obtain ⟨its, r', pl, hz⟩ := I.list hq
    have hlen := r'.length
    exact Calls.call_len_list pl.isList (by simp only [List.size_toArray] <;> omega) ⟨.int ys.length, H, I.tok _, ⟨s.toks + 1, by rw [List.size_toArray, hlen]⟩, q⟩
  · obtain ⟨its, r', pl, hz⟩ := I.tuple hq
    have hlen := r'.length
    exact len_tuple pl (by simp only [List.size_toArray] <;> omega) ⟨.int ys.length, H, I.tok _, ⟨s.toks + 1, by rw [List.size_toArray, hlen]⟩, q⟩
theorem call_list_of : CallR X (.type "list") (fun xs H Q => ∃ p ys, xs = [.ref p] ∧ (SqL X.K H p ys ∨ SqT X.K H p ys) ∧ ∀ l, H l = none → Q (.ref l) (upd H l (.lst ys))) := by
  intro pins s σ H xs us Q I r h
  obtain ⟨p, ys, rfl, hq, q⟩ := h
  obtain ⟨u, rfl, rx⟩ := vals1 r
  cases rx
  have fin : ∀ (its : List Value), Vals ys its → ys.length ≤ sizeLine → ∀ (h' : Heap) (c' : Nat), (∀ b o', s.heap.get? b = some o' → h'.get? b = some o') →
      h'.get? s.heap.objs.size = some { cls := .type "list", dict := none, data := .seq its.toArray c', slots := #[] } → EP X pins σ Q (.ref s.heap.objs.size) { s with heap := h' } := fun its r' hz h' c' kp e =>
    ⟨.ref s.heap.objs.size, _, I.laid (t' := s.toks) kp (Nat.le_refl _) (show ObjOk X.prog X.w _ h' _ (.lst ys) from ⟨hz, its, c', r', e⟩), rfl, q _ (I.hok.fresh (Nat.le_refl _))⟩
  rcases hq with hq | hq
  · obtain ⟨its, r', pl, hz⟩ := I.list hq
    have hlen := r'.length
    obtain ⟨o, ho, hc, n, hd⟩ := pl.isList
    exact call_list_seq p (.inl rfl) ho hc hd (fun h' c' kp e => fin its r' hz h' c' kp e) (by simp only [List.size_toArray] <;> omega)
  · obtain ⟨its, r', pl, hz⟩ := I.tuple hq
    have hlen := r'.length
    obtain ⟨o, ho, hc, n, hd⟩ := pl
    exact call_list_seq p (.inr rfl) ho hc hd (fun h' c' kp e => fin its r' hz h' c' kp e) (by simp only [List.size_toArray] <;> omega)
def tyV (K : PySem.W.Frag) (T : String) (x : V) (H : Hp) : Prop := match x with
  | .str _ => T = "str"
  | .int _ => T = "int"
  | .ref p => (T = "list" ∧ ∃ xs, SqL K H p xs) ∨ (T = "tuple" ∧ ∃ o, K.lookup p = some o ∧ o.cls = .type "tuple" ∧ o.dict = none) ∨
      (T = "dict" ∧ ((∃ kvs, H p = some (.dK kvs)) ∨ ∃ kvs, H p = some (.dT kvs))) ∨ (T = "set" ∧ ∃ S n, H p = some (.set S n))
  | _ => False
theorem tyV_is {pins : List (Addr × Obj)} {σ : St} {H : Hp} {s : Shared} {T : String} {x : V} {v : Value} (I : Inv X pins σ H s) (r : RelV x v) (ty : tyV X.K T x H) :
    s.TypeIs v T ∧ ∀ a, v = .ref a → ∃ ob, s.heap.get? a = some ob ∧ ob.dict = none := by
  cases x with
  | str z =>
    obtain ⟨t, rfl⟩ := r
    cases (show T = "str" from ty)
    exact ⟨typeIs_str s z t, fun _ e => nomatch e⟩
  | int i =>
    obtain ⟨t, rfl⟩ := r
    cases (show T = "int" from ty)
    exact ⟨typeIs_int s i t, fun _ e => nomatch e⟩
  | ref p =>
    cases r
    rcases ty with ⟨rfl, xs, hq⟩ | ⟨rfl, o, hk, hc, hd⟩ | ⟨rfl, hk⟩ | ⟨rfl, S, n, hk⟩
    · obtain ⟨its, _, pl, _⟩ := I.list hq
      refine ⟨pl.isList.typeIs, fun a e => ?_⟩
      cases e
      obtain ⟨o, n, e, c, hd, _⟩ := pl
      exact ⟨o, e, hd⟩
    · refine ⟨⟨o, I.kIn p o hk, hc⟩, fun a e => ?_⟩
      cases e
      exact ⟨o, I.kIn _ o hk, hd⟩
    · have z : ∃ o, s.heap.get? p = some o ∧ o.ExactDict := by
        rcases hk with ⟨kvs, hk⟩ | ⟨kvs, hk⟩
        · obtain ⟨_, _, _, _, o, _, _, e, ex, _⟩ := I.hok p _ hk
          exact ⟨o, e, ex⟩
        · obtain ⟨_, _, _, _, o, _, _, e, ex, _⟩ := I.hok p _ hk
          exact ⟨o, e, ex⟩
      obtain ⟨o, e, ex⟩ := z
      refine ⟨⟨o, e, ex.1⟩, fun a e2 => ?_⟩
      cases e2
      exact ⟨o, e, ex.2.1⟩
    · obtain ⟨o, _, _, _, e, ex, _⟩ := I.hok p _ hk
      refine ⟨⟨o, e, ex.1⟩, fun a e2 => ?_⟩
      cases e2
      exact ⟨o, e, ex.2.1⟩
  | _ => exact False.elim ty
def tBM (K : PySem.W.Frag) (T : String) (r : V → List V → Hp → VK → Prop) (to : TE) (t : TA) : TE := fun σ H Q => to σ H fun x H1 => tyV K T x H1 ∧ t σ H1 fun xs H2 => r x xs H2 Q
variable {o e : Expr} {es : List Expr} {to : TE} {t : TA} {name : Str} {apos cpos : Pos} {T id : String} {r : V → List V → Hp → VK → Prop}
theorem pe_bm (pa : PlainAttrs T) (slot : Slot T name id) (hty : typeOf (.builtin id) = pure (.type "method_descriptor")) (hm : MtR X id r) (ho : PE X o to) (ha : PA X (e :: es) t)
    (hbase : attributeBase o name X.env (eval o X.env) = eval o X.env := by rfl)
    (hfew : ((backTo cpos (starEach (e :: es) X.env)).all (fun x => !x.1) && (backToKw cpos (keywordEach [] X.env)).all (fun x => x.1.isSome)
      && decide ((e :: es).length + ([] : List Keyword).length + (if ([] : List Keyword).isEmpty then 0 else 1) < 30)) = true := by rfl)
    (hline : (apos.endLine == cpos.line) = true := by rfl) (hs : starEach (e :: es) X.env = (false, eval e X.env) :: starEach es X.env := by rfl) (hplain : (backTo cpos (starEach es X.env)).any (·.1) = false := by rfl) :
    PE X (.Call (.Attribute o name apos) (e :: es) [] cpos) (tBM X.K T r to t) := by
  intro pins s σ H Q I h
  refine wpAny_Call_method_late hbase hfew hline rfl (thn (ho pins s σ H _ I h) fun v s1 ⟨x, H1, I1, r1, ty, q1⟩ => ?_)
  obtain ⟨h1, h2⟩ := tyV_is I1 r1 ty
  refine ⟨T, id, pa, slot, hty, h1, h2, ?_⟩
  have hA := ha cpos pins s1 σ H1 _ I1 q1
  rw [hs] at hA ⊢
  refine Calls.callWith_builtin (by show (false || (backTo cpos (starEach es X.env)).any (·.1)) = false; rw [hplain] <;> rfl) (Calls.evalArgs_plain ?_)
  exact thn hA fun us s2 ⟨vs, H2, I2, r2, q2⟩ => hm pins s2 σ H2 x vs v us Q I2 r1 r2 q2
end
end L2
namespace L2
open PySem PySem.Spec PyProof.Rows
def MtM (X : Cx) (id : String) (r : V → List V → Hp → VK → Prop) : Prop :=
  ∀ (pins : List (Addr × Obj)) (s : Shared) (σ : St) (H : Hp) (x : V) (xs : List V) (v : Value) (us : List Value) (Q : VK), Inv X pins σ H s → RelV x v → Vals xs us → r x xs H Q →
    wpAny (model X.prog X.w) X.A (call (.builtin id) (v :: us)) (EP X pins σ Q) X.xe s
theorem Vals.one : ∀ {x : V} {us : List Value}, Vals [x] us → ∃ u, us = [u] ∧ RelV x u
  | _, _, .cons r .nil => ⟨_, rfl, r⟩
theorem Vals.eraseIdx : ∀ {xs : List V} {us : List Value} (i : Nat), Vals xs us → Vals (xs.eraseIdx i) (us.eraseIdx i)
  | _, _, _, .nil => .nil
  | _, _, 0, .cons _ t => t
  | _, _, i + 1, .cons r t => .cons r (Vals.eraseIdx i t)
theorem Vals.rep {xs : List V} {us : List Value} (h : Vals xs us) : ∀ k : Nat, Vals (List.replicate k xs).flatten (List.replicate k us).flatten
  | 0 => .nil
  | k + 1 => by
    rw [List.replicate_succ, List.replicate_succ, List.flatten_cons, List.flatten_cons]
    exact Vals.append h (Vals.rep h k)
theorem len_erase {α : Type} : ∀ (l : List α) (i : Nat), (l.eraseIdx i).length ≤ l.length
  | [], _ => Nat.le_refl _
  | _ :: _, 0 => Nat.le_succ _
  | _ :: r, i + 1 => Nat.succ_le_succ (len_erase r i)
theorem foldl_rep (its : List Value) : ∀ (k : Nat) (acc : List Value),
    List.foldl (fun x1 x2 => x1 ++ x2) acc.toArray (List.replicate k its.toArray) = (acc ++ (List.replicate k its).flatten).toArray
  | 0, acc => by simp
  | k + 1, acc => by
    have e : acc.toArray ++ its.toArray = (acc ++ its).toArray := by simp
    have e2 : (acc ++ its) ++ (List.replicate k its).flatten = acc ++ (List.replicate (k + 1) its).flatten := by
      rw [List.replicate_succ, List.flatten_cons, List.append_assoc]
    rw [← e2, ← foldl_rep its k (acc ++ its), ← e, List.replicate_succ, List.foldl_cons]
section
variable {X : Cx} {pins : List (Addr × Obj)} {σ : St} {H : Hp} {s : Shared} {l b : Addr} {xs ys zs : List V}
theorem Inv.lset {its its' : List Value} {n : Nat} {f : Array Value → Array Value} {t' : Nat} (I : Inv X pins σ H s) (hH : H l = some (.lst xs))
    (e : s.heap.get? l = some { cls := .type "list", data := .seq its.toArray n }) (hf : f its.toArray = its'.toArray) (hv : Vals ys its') (hz : ys.length ≤ sizeLine) :
    Inv X pins σ (upd H l (.lst ys)) { s with heap := s.heap.update l (Obj.mapSeq f), toks := t' } := by
  have q := PySem.IsL.update e f
  rw [hf] at q
  refine I.write (x := l) (e := l) (by rw [hH]; exact trivial) (.inl rfl) (fun b' u hb hu => (Heap.get?_update_other s.heap (Obj.mapSeq f) (Ne.symm hb)).trans hu) ⟨_, q⟩ ?_
  exact ⟨hz, its', _, hv, q⟩
theorem Inv.lnew {its : List Value} {t' : Nat} (I : Inv X pins σ H s) (hv : Vals ys its) (hz : ys.length ≤ sizeLine) :
    Inv X pins σ (upd H s.heap.objs.size (.lst ys)) { s with heap := s.heap.push { cls := .type "list", data := .seq its.toArray }, toks := t' } :=
  I.laid (fun _ _ q => Heap.get?_push_of_some _ q) (Nat.le_refl _) ⟨hz, its, 0, hv, Heap.get?_push_size _ rfl⟩
theorem Inv.fresh (I : Inv X pins σ H s) : H s.heap.objs.size = none := I.hok.fresh (Nat.le_refl _)
theorem Inv.lstM (I : Inv X pins σ H s) (hH : H l = some (.lst xs)) : xs.length ≤ sizeLine ∧ ∃ (its : List Value) (n : Nat), Vals xs its ∧ xs.length = its.length ∧ s.heap.get? l = some { cls := .type "list", data := .seq its.toArray n } := by
  obtain ⟨z, its, n, r, e⟩ := I.hok l _ hH
  exact ⟨z, its, n, r, r.length, e⟩
theorem notLongL {n : Nat} (h : n ≤ sizeLine) : Builtin.List.listTooLong n = false := by
  unfold Builtin.List.listTooLong
  exact decide_eq_false (by omega)
end
section
variable {X : Cx}
def rAppend : V → List V → Hp → VK → Prop := fun x vs H Q => ∃ l xs y, x = .ref l ∧ vs = [y] ∧ H l = some (.lst xs) ∧ xs.length < sizeLine ∧ Q .non (upd H l (.lst (xs ++ [y])))
theorem mt_append : MtM X "list.append" rAppend := by
  intro pins s σ H x vs v us Q I rx rv h
  obtain ⟨l, xs, y, rfl, rfl, hH, hz, q⟩ := h
  cases rx
  obtain ⟨u, rfl, ru⟩ := rv.one
  obtain ⟨z, its, n, r, hl, e⟩ := I.lstM hH
  refine call_meets F.slot_list_append ⟨_, e, rfl⟩ F.entry_list_append (F.args_list_append_2 _ _) (PySem.list_append l its.toArray n u (by rw [List.size_toArray]; omega)) ⟨e, ?_⟩
  refine ⟨.non, _, I.lset (its' := its ++ [u]) hH e (by simp) (r.append (.cons ru .nil)) ?_, rfl, q⟩
  rw [List.length_append, List.length_singleton]
  omega
def rExtend : V → List V → Hp → VK → Prop := fun x vs H Q => ∃ l b xs zs, x = .ref l ∧ vs = [.ref b] ∧ H l = some (.lst xs) ∧ H b = some (.lst zs) ∧ xs.length + zs.length ≤ sizeLine ∧ Q .non (upd H l (.lst (xs ++ zs)))
theorem mt_extend : MtM X "list.extend" rExtend := by
  intro pins s σ H x vs v us Q I rx rv h
  obtain ⟨l, b, xs, zs, rfl, rfl, hH, hB, hz, q⟩ := h
  cases rx
  obtain ⟨u, rfl, ru⟩ := rv.one
  cases ru
  obtain ⟨z, its, n, r, hl, e⟩ := I.lstM hH
  obtain ⟨z2, its2, n2, r2, hl2, e2⟩ := I.lstM hB
  have hsz : its.toArray.size + its2.toArray.size ≤ sizeLine := by rw [List.size_toArray, List.size_toArray]; omega
  have hlong : ¬ (!its.toArray.isEmpty && Builtin.List.listTooLong (its.toArray.size + its2.toArray.size)) = true := by
    rw [notLongL hsz, Bool.and_false]
    exact Bool.false_ne_true
  refine call_meets F.slot_list_extend ⟨_, e, rfl⟩ F.entry_list_extend (F.args_list_extend_2 _ _)
    (AutoSeq1.list_extend_list_list_0 l its.toArray n b its2.toArray n2 hlong (by rw [List.size_toArray]; omega) (by omega)) ⟨e, e2, ?_⟩
  refine ⟨.non, _, I.lset (its' := its ++ its2) hH e (by simp) (r.append r2) ?_, rfl, q⟩
  rw [List.length_append]
  omega
def rPopAt : V → List V → Hp → VK → Prop := fun x vs H Q => ∃ l xs i k y, x = .ref l ∧ vs = [.int i] ∧ H l = some (.lst xs) ∧ -(2 ^ 63) ≤ i ∧ i < 2 ^ 63 ∧ seqIndex? i xs.length = some k ∧ xs[k]? = some y ∧ Q y (upd H l (.lst (xs.eraseIdx k)))
theorem mt_popAt : MtM X "list.pop" rPopAt := by
  intro pins s σ H x vs v us Q I rx rv h
  obtain ⟨l, xs, i, k, y, rfl, rfl, hH, h1, h2, hk, hy, q⟩ := h
  cases rx
  obtain ⟨u, rfl, ru⟩ := rv.one
  obtain ⟨t, rfl⟩ := ru
  obtain ⟨z, its, n, r, hl, e⟩ := I.lstM hH
  obtain ⟨w, hw, rw'⟩ := r.get hy
  refine call_meets F.slot_list_pop ⟨_, e, rfl⟩ F.entry_list_pop (F.args_list_pop_2 _ _)
    (MeetsSeq.list_pop_at l its.toArray n i t k w (fitsIndex_both h1 h2) (by rw [List.size_toArray, ← hl]; exact hk) (by rw [← Array.getElem?_toList]; exact hw) (by rw [List.size_toArray]; omega)) ⟨e, ?_⟩
  refine ⟨y, _, I.lset (its' := its.eraseIdx k) hH e ?_ (r.eraseIdx k) ?_, rw', q⟩
  · show its.toArray.eraseIdxIfInBounds k = (its.eraseIdx k).toArray
    rw [List.eraseIdxIfInBounds_toArray]
  · have := len_erase xs k
    omega
def rCat : R2 := fun x y H Q => ∃ l b xs zs, x = .ref l ∧ y = .ref b ∧ H l = some (.lst xs) ∧ H b = some (.lst zs) ∧ xs.length + zs.length ≤ sizeLine ∧ ∀ p, H p = none → Q (.ref p) (upd H p (.lst (xs ++ zs)))
theorem op_cat : OpR X (binaryOp .Add) rCat := by
  intro pins s σ H x y v u Q I rx ry h
  obtain ⟨l, b, xs, zs, rfl, rfl, hH, hB, hz, q⟩ := h
  cases rx
  cases ry
  obtain ⟨z, its, n, r, hl, e⟩ := I.lstM hH
  obtain ⟨z2, its2, n2, r2, hl2, e2⟩ := I.lstM hB
  refine PySem.P.add_list e e2 ?_ (by rw [List.size_toArray, List.size_toArray]; omega)
  have ea : its.toArray ++ its2.toArray = (its ++ its2).toArray := by simp
  rw [ea]
  exact ⟨.ref _, _, I.lnew (t' := s.toks) (r.append r2) (by rw [List.length_append]; omega), rfl, q _ I.fresh⟩
def rRep : R2 := fun x y H Q => ∃ l k xs, x = .ref l ∧ y = .int k ∧ H l = some (.lst xs) ∧ -(2 ^ 63) ≤ k ∧ k < 2 ^ 63 ∧ xs.length * k.toNat ≤ sizeLine ∧
  ∀ p, H p = none → Q (.ref p) (upd H p (.lst (List.replicate k.toNat xs).flatten))
theorem len_rep {α : Type} (xs : List α) (k : Nat) : (List.replicate k xs).flatten.length = k * xs.length := by
  induction k with
  | zero => simp
  | succ k ih => rw [List.replicate_succ, List.flatten_cons, List.length_append, ih, Nat.succ_mul, Nat.add_comm]
theorem op_rep : OpR X (binaryOp .Mult) rRep := by
  intro pins s σ H x y v u Q I rx ry h
  obtain ⟨l, k, xs, rfl, rfl, hH, h1, h2, hz, q⟩ := h
  cases rx
  obtain ⟨t, rfl⟩ := ry
  obtain ⟨z, its, n, r, hl, e⟩ := I.lstM hH
  have hlen : its.toArray.size * k.toNat ≤ sizeLine := by rw [List.size_toArray, ← hl]; exact hz
  have hcap : ¬ its.toArray.size * k.toNat > (2 ^ 63 - 1) / 8 := by
    have : (sizeLine : Nat) ≤ (2 ^ 63 - 1) / 8 := by decide
    omega
  have hfit : ¬ (!Builtin.List.listFitsIndex k) = true := by
    rw [fitsIndex_both h1 h2]
    exact Bool.false_ne_true
  have hlong : ¬ Builtin.List.listTooLong (its.toArray.size * k.toNat) = true := by
    rw [notLongL hlen]
    exact Bool.false_ne_true
  have hnew : List.foldl (fun x1 x2 => x1 ++ x2) #[] (List.replicate (if its.toArray.isEmpty = true then 0 else k.toNat) its.toArray) = (List.replicate k.toNat its).flatten.toArray := by
    have f0 : ∀ m : Nat, List.foldl (fun x1 x2 => x1 ++ x2) #[] (List.replicate m its.toArray) = (List.replicate m its).flatten.toArray := fun m => by
      have := foldl_rep its m []
      rw [List.nil_append] at this
      exact this
    rw [f0]
    cases its with
    | nil => simp
    | cons a r' => rw [if_neg (by simp)]
  refine wpAny_binaryOp_repeat_ref (T := "list") (U := "int") (by decide) ⟨_, e, rfl⟩ (fun s' => typeIs_int s' k t) noFill_list_mul F.fills_int_mul F.slot_int_rmul repeat_list F.slot_int_index.lookup
    (call_meets F.slot_int_rmul (typeIs_int s k t) F.entry_int_rmul (F.args_int_rmul_2 _ _) (int___rmul___int_list k t l its.toArray n)
      ⟨e, rfl, ⟨_, e, rfl⟩, call_meets F.slot_list_mul ⟨_, e, rfl⟩ F.entry_list_mul (F.args_list_mul_2 _ _) (AutoListH.list___mul___list_int_3 l its.toArray n k t hfit hcap hlong) ⟨e, ?_⟩⟩)
  rw [hnew]
  exact ⟨.ref _, _, I.lnew (t' := s.toks) (r.rep k.toNat) (by rw [len_rep, Nat.mul_comm]; exact hz), rfl, q _ I.fresh⟩
end
section
variable {prog : Program} {w : World} {A : Around} {E : Value → Shared → Prop} {s : Shared}
set_option maxRecDepth 100000 in
end
section
variable {X : Cx}
end
end L2
namespace L2
open PySem PySem.Spec PyProof.Rows
theorem Vals.ints : ∀ {ns : List Int} {us : List Value}, Vals (ns.map V.int) us → IntsAre us ns
  | [], us, h => by
    rw [List.map_nil] at h
    cases h
    exact IntsAre.nil
  | n :: ns, us, h => by
    rw [List.map_cons] at h
    cases h with
    | cons r t =>
      obtain ⟨k, rfl⟩ := r
      exact IntsAre.cons n k (Vals.ints t)
theorem Vals.bls : ∀ {bs : List Bool} {us : List Value}, Vals (bs.map V.bl) us → us = bs.map Value.bool
  | [], us, h => by
    rw [List.map_nil] at h
    cases h
    rfl
  | b :: bs, us, h => by
    rw [List.map_cons] at h
    cases h with
    | cons r t =>
      cases r
      rw [Vals.bls t, List.map_cons]
theorem Vals.ref1 {a : Addr} {us : List Value} (r : Vals [V.ref a] us) : us = [Value.ref a] := by
  cases r with
  | cons r t =>
    cases t
    cases r
    rfl
section
variable {prog : Program} {w : World} {A : Around} {E : Value → Shared → Prop} {s : Shared} {l : Addr} {its : List Value} {ns : List Int} {Q : Value → Shared → Prop}
theorem sum_raw (hh : A.handled = none) (hl : s.heap.IsList l its.toArray) (hi : IntsAre its ns)
    (h : ∀ h' tk t', (∀ b o, s.heap.get? b = some o → h'.get? b = some o) → Q (.int ns.sum t') { s with heap := h', toks := tk }) : wpAny (model prog w) A (call (.builtin "sum") [.ref l]) Q E s := by
  obtain ⟨xs, e⟩ := hi.allInts.items
  have hn : numsOf (intItems xs).toList = ns := by rw [← e]; exact hi.numsOf
  rw [nums_intItems] at hn
  rw [e] at hl
  refine PySem.sum_intListG hh hl fun h' tk t' hk => ?_
  have := h h' tk t' hk
  rw [preSum_eq, List.take_of_length_le (by simp), hn]; exact this
theorem max_raw (hh : A.handled = none) (hl : s.heap.IsList l its.toArray) (hi : IntsAre its ns) (hne : 0 < ns.length)
    (h : ∀ h' tk M t', (∀ b o, s.heap.get? b = some o → h'.get? b = some o) → M ∈ ns → (∀ a, a ∈ ns → a ≤ M) → Q (.int M t') { s with heap := h', toks := tk }) : wpAny (model prog w) A (call (.builtin "max") [.ref l]) Q E s := by
  obtain ⟨xs, e⟩ := hi.allInts.items
  have hn : numsOf (intItems xs).toList = ns := by rw [← e]; exact hi.numsOf
  rw [nums_intItems] at hn
  subst hn
  rw [e] at hl
  have hsz : 0 < xs.size := by simpa using hne
  refine PySem.max_intList hh hl hsz fun v h' tk hv hk => ?_
  obtain ⟨t, rfl⟩ := intItems_at hv
  obtain ⟨h1, h2⟩ := argBest_gt (numAt xs) (xs.size - 1)
  refine h h' tk _ t hk ?_ fun a ha => ?_
  · rw [numAt_eq]; exact PySem.getD_mem (by rw [List.length_map, Array.length_toList]; omega)
  · obtain ⟨j, hj, rfl⟩ := mem_getD ha
    rw [List.length_map, Array.length_toList] at hj
    rw [← numAt_eq]; exact h2 j (by omega)
theorem min_raw (hh : A.handled = none) (hl : s.heap.IsList l its.toArray) (hi : IntsAre its ns) (hne : 0 < ns.length)
    (h : ∀ h' tk M t', (∀ b o, s.heap.get? b = some o → h'.get? b = some o) → M ∈ ns → (∀ a, a ∈ ns → M ≤ a) → Q (.int M t') { s with heap := h', toks := tk }) : wpAny (model prog w) A (call (.builtin "min") [.ref l]) Q E s := by
  obtain ⟨xs, e⟩ := hi.allInts.items
  have hn : numsOf (intItems xs).toList = ns := by rw [← e]; exact hi.numsOf
  rw [nums_intItems] at hn
  subst hn
  rw [e] at hl
  have hsz : 0 < xs.size := by simpa using hne
  refine PySem.min_intList hh hl hsz fun v h' tk hv hk => ?_
  obtain ⟨t, rfl⟩ := intItems_at hv
  obtain ⟨h1, h2⟩ := argBest_lt (numAt xs) (xs.size - 1)
  refine h h' tk _ t hk ?_ fun a ha => ?_
  · rw [numAt_eq]; exact PySem.getD_mem (by rw [List.length_map, Array.length_toList]; omega)
  · obtain ⟨j, hj, rfl⟩ := mem_getD ha
    rw [List.length_map, Array.length_toList] at hj
    rw [← numAt_eq]; exact h2 j (by omega)
end
section
variable {X : Cx}
def rSum (K : PySem.W.Frag) : List V → Hp → VK → Prop := fun vs H Q => ∃ (a : Addr) (ns : List Int), vs = [V.ref a] ∧ SqL K H a (ns.map V.int) ∧ Q (.int ns.sum) H
def rMin (K : PySem.W.Frag) : List V → Hp → VK → Prop := fun vs H Q => ∃ (a : Addr) (ns : List Int), vs = [V.ref a] ∧ SqL K H a (ns.map V.int) ∧ 0 < ns.length ∧ ∀ m, m ∈ ns → (∀ y, y ∈ ns → m ≤ y) → Q (.int m) H
theorem cr_sum (hc : X.calm = true) : CallR X (.builtin "sum") (rSum X.K) := by
  intro pins s σ H vs us Q I r h
  obtain ⟨a, ns, rfl, hs, q⟩ := h
  obtain ⟨its, rv, hl, _⟩ := I.list hs
  rw [Vals.ref1 r]
  exact sum_raw (I.ok.hd hc) hl.isList rv.ints fun h' tk t' hk => ⟨.int _, H, I.kept hk, ⟨_, rfl⟩, q⟩
theorem cr_min (hc : X.calm = true) : CallR X (.builtin "min") (rMin X.K) := by
  intro pins s σ H vs us Q I r h
  obtain ⟨a, ns, rfl, hs, hne, q⟩ := h
  obtain ⟨its, rv, hl, _⟩ := I.list hs
  rw [Vals.ref1 r]
  exact min_raw (I.ok.hd hc) hl.isList rv.ints hne fun h' tk m t' hk h1 h2 => ⟨.int _, H, I.kept hk, ⟨_, rfl⟩, q m h1 h2⟩
end
section
variable {X : Cx}
end
section
variable {X : Cx}
end
theorem iter_any {prog : Program} {w : World} {A : Around} {E : Value → Shared → Prop} {s : Shared} {l : Addr} {items : Array Value} {Q : Value → Shared → Prop} (hl : s.heap.IsList l items)
    (h : ∀ s₂ : Shared, s₂ = { s with heap := s.heap.push { cls := .type "list_iterator", data := .fields #[.ref l, .int 0 0] } } →
      (s₂.heap.IsListIter s.heap.objs.size l 0 ∧ s₂.heap.IsList l items) → l ≠ s.heap.objs.size → Q (.ref s.heap.objs.size) s₂) : wpAny (model prog w) A (pyIter (.ref l)) Q E s := by
  have hlt : l < s.heap.objs.size := by obtain ⟨_, e, _⟩ := hl; exact Heap.lt_size e
  exact wpAny_pyIter_list hl (h _ rfl ⟨⟨_, Heap.get?_push_size _ rfl, rfl, rfl⟩, hl.push _⟩ (Nat.ne_of_lt hlt))
theorem truth_bools {prog : Program} {w : World} {A : Around} {bs : List Bool} {its : List Value} (e : its = bs.map Value.bool) :
    TruthOf prog w A (fun i v => its.toArray[i]? = some v) (fun i => bs.getD i false) := fun i v s Q E hv hq => by
  have hv' : its[i]? = some v := by simpa using hv
  rw [e, List.getElem?_map] at hv'
  obtain ⟨b, hb, rfl⟩ := Option.map_eq_some_iff.mp hv'
  have hg : bs.getD i false = b := by rw [List.getD_eq_getElem?_getD, hb] <;> rfl
  have hq' : Q (bs.getD i false) s := hq
  rw [hg] at hq'
  exact wpAny_truthy_bool hq'
theorem any_range : ∀ bs : List Bool, (List.range bs.length).any (fun i => bs.getD i false) = bs.any id
  | [] => rfl
  | b :: bs => by
    rw [List.length_cons, List.range_succ_eq_map, List.any_cons, List.any_map, List.any_cons, ← any_range bs]
    all_goals rfl
theorem all_range : ∀ bs : List Bool, (List.range bs.length).all (fun i => bs.getD i false) = bs.all id
  | [] => rfl
  | b :: bs => by
    rw [List.length_cons, List.range_succ_eq_map, List.all_cons, List.all_map, List.all_cons, ← all_range bs]
    all_goals rfl
section
variable {X : Cx}
def rAny (K : PySem.W.Frag) : List V → Hp → VK → Prop := fun vs H Q => ∃ (a : Addr) (bs : List Bool), vs = [V.ref a] ∧ SqL K H a (bs.map V.bl) ∧ Q (.bl (bs.any id)) H
def rAll (K : PySem.W.Frag) : List V → Hp → VK → Prop := fun vs H Q => ∃ (a : Addr) (bs : List Bool), vs = [V.ref a] ∧ SqL K H a (bs.map V.bl) ∧ Q (.bl (bs.all id)) H
theorem cr_any (hc : X.calm = true) : CallR X (.builtin "any") (rAny X.K) := by
  intro pins s σ H vs us Q I r h
  obtain ⟨a, bs, rfl, hs, q⟩ := h
  obtain ⟨its, rv, hl, _⟩ := I.list hs
  rw [Vals.ref1 r]
  have hb := rv.bls
  refine call_any_walk (iter_any hl.isList fun s₂ e2 st hne => ?_)
  subst e2
  refine ⟨_, _, _, _, _, _, _, rfl, Walks.list (A := X.A.in1) (I.ok.hd hc) _ a hne its.toArray, st, truth_bools hb, fun h' tk hk => ?_⟩
  refine ⟨.bl _, H, I.kept fun b o eo => hk b o (fun hmem => ?_) (Heap.get?_push_of_some _ eo), ?_, q⟩
  · rcases List.mem_cons.mp hmem with e1 | hmem
    · exact absurd (e1 ▸ Heap.lt_size eo) (Nat.lt_irrefl _)
    · cases hmem
  · show Value.bool _ = Value.bool _
    rw [← any_range, hb, List.size_toArray, List.length_map]
theorem cr_all (hc : X.calm = true) : CallR X (.builtin "all") (rAll X.K) := by
  intro pins s σ H vs us Q I r h
  obtain ⟨a, bs, rfl, hs, q⟩ := h
  obtain ⟨its, rv, hl, _⟩ := I.list hs
  rw [Vals.ref1 r]
  have hb := rv.bls
  refine call_all_walk (iter_any hl.isList fun s₂ e2 st hne => ?_)
  subst e2
  refine ⟨_, _, _, _, _, _, _, rfl, Walks.list (A := X.A.in1) (I.ok.hd hc) _ a hne its.toArray, st, truth_bools hb, fun h' tk hk => ?_⟩
  refine ⟨.bl _, H, I.kept fun b o eo => hk b o (fun hmem => ?_) (Heap.get?_push_of_some _ eo), ?_, q⟩
  · rcases List.mem_cons.mp hmem with e1 | hmem
    · exact absurd (e1 ▸ Heap.lt_size eo) (Nat.lt_irrefl _)
    · cases hmem
  · show Value.bool _ = Value.bool _
    rw [← all_range, hb, List.size_toArray, List.length_map]
end
section
variable {X : Cx} {pins : List (Addr × Obj)} {σ : St} {H : Hp} {s : Shared}
end
section
variable {X : Cx}
end
end L2
namespace L2
open PySem PySem.Spec PyProof.Rows
abbrev CellAt (h : Heap) (c : Addr) (v : Option Value) : Prop := h.IsCell c v
def relS (scope sc : Scope) : Scope :=
  { scope with names := scope.names.map fun (n, k) => if (k == .free && sc.kind == .function && sc.names.lookup n == some .cell) then (n, .cell) else (n, k) }
def cloFrom (cells : List (Str × Addr)) : List (Str × NameKind) → List (Str × Addr) → List (Str × Addr)
  | [], acc => acc
  | (n, k) :: r, acc => if k == .free then cloFrom cells r ((n, (cells.lookup n).getD 0) :: acc) else cloFrom cells r acc
theorem closure_loop (env : Env) (f : Str × NameKind → List (Str × Addr) → Sem (ForInStep (List (Str × Addr))))
    (hf : ∀ n k c, f (n, k) c = if k == .free then (do let a ← cellOf env n; pure (.yield ((n, a) :: c))) else pure (.yield c)) :
    ∀ (names : List (Str × NameKind)) (acc : List (Str × Addr)), (∀ y ∈ names, y.2 = .free → ∃ c, env.cells.lookup y.1 = some c) → forIn names acc f = pure (cloFrom env.cells names acc)
  | [], acc, _ => by rw [List.forIn_nil]; rfl
  | (n, k) :: r, acc, h => by
    rw [List.forIn_cons, hf]
    have ih := fun acc => closure_loop env f hf r acc fun y hy => h y (List.mem_cons_of_mem _ hy)
    unfold cloFrom
    by_cases hk : (k == NameKind.free) = true
    · rw [if_pos hk, if_pos hk]
      obtain ⟨c, hc⟩ := h (n, k) List.mem_cons_self (by simpa using hk)
      have e : cellOf env n = pure c := by unfold cellOf; rw [hc]
      rw [e]
      have e2 : (env.cells.lookup n).getD 0 = c := by rw [hc]; rfl
      rw [e2]
      exact ih _
    · rw [if_neg hk, if_neg hk]
      exact ih _
theorem closure_ok {scope : Scope} {env : Env} (h : ∀ y ∈ scope.names, y.2 = .free → ∃ c, env.cells.lookup y.1 = some c) : closureFor scope env = pure (cloFrom env.cells scope.names []) := by
  simp only [closureFor]
  rw [closure_loop env _ (fun n k c => rfl) scope.names [] h]
  rfl
theorem mem_lookup {α : Type} : ∀ {l : List (Str × α)} {n : Str} {c : α}, (n, c) ∈ l → ∃ c', l.lookup n = some c'
  | (k, v) :: r, n, c, h => by
    rw [List.lookup_cons]
    cases hb : n == k with
    | true => exact ⟨_, rfl⟩
    | false =>
      rcases List.mem_cons.mp h with e | h
      · cases e; simp at hb
      · exact mem_lookup h
theorem cloFrom_mem {cells : List (Str × Addr)} : ∀ {names : List (Str × NameKind)} {acc : List (Str × Addr)} {n : Str} {c : Addr}, (n, c) ∈ cloFrom cells names acc → (n, c) ∈ acc ∨ ((n, .free) ∈ names ∧ c = (cells.lookup n).getD 0)
  | [], _, _, _, h => .inl h
  | (m, k) :: r, acc, n, c, h => by
    unfold cloFrom at h
    split at h
    · rename_i hk
      have hk : k = .free := by simpa using hk
      rcases cloFrom_mem h with h | ⟨h1, h2⟩
      · rcases List.mem_cons.mp h with e | h
        · cases e; exact .inr ⟨hk ▸ List.mem_cons_self, rfl⟩
        · exact .inl h
      · exact .inr ⟨List.mem_cons_of_mem _ h1, h2⟩
    · rcases cloFrom_mem h with h | ⟨h1, h2⟩
      · exact .inl h
      · exact .inr ⟨List.mem_cons_of_mem _ h1, h2⟩
theorem cloFrom_acc {cells : List (Str × Addr)} : ∀ {names : List (Str × NameKind)} {acc : List (Str × Addr)} {p : Str × Addr}, p ∈ acc → p ∈ cloFrom cells names acc
  | [], _, _, h => h
  | (m, k) :: r, acc, p, h => by
    unfold cloFrom
    split
    · exact cloFrom_acc (List.mem_cons_of_mem _ h)
    · exact cloFrom_acc h
theorem cloFrom_has {cells : List (Str × Addr)} : ∀ {names : List (Str × NameKind)} {acc : List (Str × Addr)} {n : Str}, (n, .free) ∈ names → (n, (cells.lookup n).getD 0) ∈ cloFrom cells names acc
  | (m, k) :: r, acc, n, h => by
    unfold cloFrom
    rcases List.mem_cons.mp h with e | h
    · cases e
      exact cloFrom_acc List.mem_cons_self
    · split
      · exact cloFrom_has h
      · exact cloFrom_has h
theorem cells_mem : ∀ {names : List (Str × NameKind)} {h : Heap} {acc : List (Str × Addr)} {x : Str} {c : Addr}, (x, c) ∈ cellsFrom h.objs.size names acc →
    (x, c) ∈ acc ∨ ((x, .cell) ∈ names ∧ h.objs.size ≤ c ∧ CellAt (pushCells h names) c none)
  | [], _, _, _, _, h => .inl h
  | (n, k) :: r, h, acc, x, c, hm => by
    unfold cellsFrom at hm
    unfold pushCells
    split at hm
    · rename_i hk
      rw [if_pos hk]
      have hk : k = .cell := by simpa using hk
      rw [← Heap.size_push h { cls := .type "cell", data := .cell none }] at hm
      rcases cells_mem hm with hm | ⟨h1, h2, h3⟩
      · rcases List.mem_cons.mp hm with e | hm
        · cases e
          exact .inr ⟨hk ▸ List.mem_cons_self, Nat.le_refl _, _, pushCells_keeps r _ _ _ (Heap.get?_push_size _ rfl), rfl⟩
        · exact .inl hm
      · rw [Heap.size_push] at h2
        exact .inr ⟨List.mem_cons_of_mem _ h1, Nat.le_of_succ_le h2, h3⟩
    · rename_i hk
      rw [if_neg hk]
      rcases cells_mem hm with hm | ⟨h1, h2, h3⟩
      · exact .inl hm
      · exact .inr ⟨List.mem_cons_of_mem _ h1, h2, h3⟩
theorem cells_acc : ∀ {names : List (Str × NameKind)} {n : Nat} {acc : List (Str × Addr)} {p : Str × Addr}, p ∈ acc → p ∈ cellsFrom n names acc
  | [], _, _, _, h => h
  | (m, k) :: r, n, acc, p, h => by
    unfold cellsFrom
    split
    · exact cells_acc (List.mem_cons_of_mem _ h)
    · exact cells_acc h
theorem cells_has : ∀ {names : List (Str × NameKind)} {n : Nat} {acc : List (Str × Addr)} {x : Str}, (x, .cell) ∈ names → ∃ c, (x, c) ∈ cellsFrom n names acc
  | (m, k) :: r, n, acc, x, h => by
    unfold cellsFrom
    rcases List.mem_cons.mp h with e | h
    · cases e
      exact ⟨n, cells_acc List.mem_cons_self⟩
    · split
      · exact cells_has h
      · exact cells_has h
theorem cells_inj : ∀ {names : List (Str × NameKind)} {h : Heap} {acc : List (Str × Addr)} {x y : Str} {c : Addr}, (∀ p ∈ acc, p.2 < h.objs.size) → (∀ x y c, (x, c) ∈ acc → (y, c) ∈ acc → x = y) →
    (x, c) ∈ cellsFrom h.objs.size names acc → (y, c) ∈ cellsFrom h.objs.size names acc → x = y
  | [], _, _, _, _, _, _, hi, h1, h2 => hi _ _ _ h1 h2
  | (n, k) :: r, h, acc, x, y, c, hl, hi, h1, h2 => by
    unfold cellsFrom at h1 h2
    split at h1
    · rename_i hk
      rw [if_pos hk] at h2
      rw [← Heap.size_push h { cls := .type "cell", data := .cell none }] at h1 h2
      refine cells_inj (h := h.push _) (fun p hp => ?_) (fun x y c a b => ?_) h1 h2
      · rw [Heap.size_push]
        rcases List.mem_cons.mp hp with rfl | hp
        · exact Nat.lt_succ_self _
        · exact Nat.lt_succ_of_lt (hl p hp)
      · rcases List.mem_cons.mp a with e | a <;> rcases List.mem_cons.mp b with e' | b
        · cases e; cases e'; rfl
        · cases e; exact absurd (hl _ b) (Nat.lt_irrefl _)
        · cases e'; exact absurd (hl _ a) (Nat.lt_irrefl _)
        · exact hi _ _ _ a b
    · rename_i hk
      rw [if_neg hk] at h2
      exact cells_inj hl hi h1 h2
theorem newEnv_comp {M : Model} {A : Around} {E : Value → Shared → Prop} {s : Shared} {scope : Scope} {globals : Addr} {closure : List (Str × Addr)} {qual : Str} {func : Option Addr} {code : Value} {around : Env} {builtins : Addr} {Q : Env → Shared → Prop}
    (h : Q (newEnv scope s.heap.objs.size globals (cellsFrom (s.heap.objs.size + 1) scope.names closure) qual func code (some around) builtins)
      { s with heap := pushCells (s.heap.push { cls := .type "dict", data := .dict #[] }) scope.names }) :
    wpAny M A (newFunctionEnv scope globals closure [] qual func code (some around) builtins) Q E s := by
  simp only [newFunctionEnv, Option.isSome_some, if_true]
  refine wpAny_bind (wpAny_alloc ?_)
  refine wpAny_bind (wpAny_layCells _ (fun n k c => rfl) scope.names closure _ _ ?_)
  rw [show ({ s with heap := s.heap.push { cls := .type "dict", data := .dict #[] } } : Shared).heap.objs.size = s.heap.objs.size + 1 from Heap.size_push ..]
  rw [List.forIn_nil]
  exact wpAny_bind (wpAny_pure (wpAny_pure h))
theorem lookup_relS {sc : Scope} : ∀ {names : List (Str × NameKind)} {x : Str} {k : NameKind},
    (names.map fun (n, k) => if (k == NameKind.free && sc.kind == .function && sc.names.lookup n == some .cell) then (n, NameKind.cell) else (n, k)).lookup x = some k →
    ∃ k', names.lookup x = some k' ∧ (k = k' ∨ (k' = .free ∧ k = .cell))
  | [], _, _, h => by simp at h
  | (n, k₀) :: r, x, k, h => by
    have ih := @lookup_relS sc r x k
    have h' : List.lookup x ((if (k₀ == NameKind.free && sc.kind == .function && sc.names.lookup n == some .cell) = true then (n, NameKind.cell) else (n, k₀)) :: (r.map _)) = some k := h
    cases hx : x == n with
    | true =>
      simp only [List.lookup_cons, hx]
      by_cases hc : (k₀ == NameKind.free && sc.kind == .function && sc.names.lookup n == some .cell) = true
      · rw [if_pos hc] at h'
        simp only [List.lookup_cons, hx] at h'
        cases h'
        simp only [Bool.and_eq_true, beq_iff_eq] at hc
        exact ⟨k₀, rfl, .inr ⟨hc.1.1, rfl⟩⟩
      · rw [if_neg hc] at h'
        simp only [List.lookup_cons, hx] at h'
        cases h'
        exact ⟨_, rfl, .inl rfl⟩
    | false =>
      simp only [List.lookup_cons, hx]
      by_cases hc : (k₀ == NameKind.free && sc.kind == .function && sc.names.lookup n == some .cell) = true
      · rw [if_pos hc] at h'
        simp only [List.lookup_cons, hx] at h'
        exact ih h'
      · rw [if_neg hc] at h'
        simp only [List.lookup_cons, hx] at h'
        exact ih h'
structure BlkOk (N : List Str) (sc scope : Scope) (own : List (Str × Nat)) : Prop where
  kind : scope.kind = .function
  uniq : ∀ y ∈ scope.names, scope.names.lookup y.1 = some y.2
  ix : ∀ p ∈ own, N[p.2]? = some p.1
  free : ∀ y ∈ scope.names, y.2 = .free → sc.names.lookup y.1 = some .cell ∨ sc.names.lookup y.1 = some .free
  own : ∀ y ∈ scope.names, y.2 = .local ∨ y.2 = .cell → y.1 ∈ own.map (·.1) ∨ y.1 ∉ N
def wipe (σ : St) : List Nat → St
  | [] => σ
  | v :: vs => (wipe σ vs).set v none
theorem wipe_length (σ : St) : ∀ vs : List Nat, (wipe σ vs).length = σ.length
  | [] => rfl
  | v :: vs => by unfold wipe; rw [List.length_set, wipe_length σ vs]
theorem wipe_some {σ : St} {i : Nat} {x : V} : ∀ {vs : List Nat}, (wipe σ vs)[i]? = some (some x) → σ[i]? = some (some x) ∧ i ∉ vs
  | [], h => ⟨h, by simp⟩
  | v :: vs, h => by
    unfold wipe at h
    by_cases hi : v = i
    · subst hi
      by_cases hv : v < (wipe σ vs).length
      · rw [List.getElem?_set_self hv] at h; cases h
      · rw [List.getElem?_eq_none (by simpa using hv)] at h; cases h
    · rw [List.getElem?_set_ne hi] at h
      obtain ⟨h1, h2⟩ := wipe_some h
      exact ⟨h1, by simp only [List.mem_cons, not_or]; exact ⟨fun e => hi e.symm, h2⟩⟩
abbrev Cx.blk (X : Cx) (s : Shared) (H : Hp) (scope : Scope) (cenv : Env) (fp : List Addr) : Cx := { X with s_0 := s, H_0 := H, env := cenv, outer := X.stack, ex := fp, fn := fun x => scope.names.lookup x == some .cell, pn := [], xe := fun _ _ => False }
section
variable {X : Cx} {pins : List (Addr × Obj)} {σ : St} {H : Hp} {s : Shared}
theorem block_start {scope : Scope} {own : List (Str × Nat)} {fp : List Addr} (I : Inv X pins σ H s) (ok : BlkOk X.N X.env.scope scope own) (hN : X.N.Nodup) (hfp : ∀ b ∈ fp, FpOk X pins H b ∧ b < s.heap.objs.size) :
    Inv (X.blk s H scope (compEnvC scope (cellsFrom (s.heap.objs.size + 1) scope.names (cloFrom X.env.cells scope.names [])) s.heap.objs.size X.env) fp) [] (wipe σ (own.map (·.2))) H { s with heap := pushCells (s.heap.push { cls := .type "dict", data := .dict #[] }) scope.names } := by
  have hfree : ∀ y ∈ scope.names, y.2 = .free → ∃ c, X.env.cells.lookup y.1 = some c := fun y hy e => by
    rcases ok.free y hy e with k | k
    · exact I.ok.has _ (.inl k)
    · exact I.ok.has _ (.inr k)
  generalize hcenv : compEnvC scope (cellsFrom (s.heap.objs.size + 1) scope.names (cloFrom X.env.cells scope.names [])) s.heap.objs.size X.env = cenv
  have kp : ∀ b o, s.heap.get? b = some o → (pushCells (s.heap.push { cls := .type "dict", data := .dict #[] }) scope.names).get? b = some o := fun b o e => pushCells_keeps _ _ _ _ (Heap.get?_push_of_some _ e)
  have hL : cenv.locals = s.heap.objs.size := by rw [← hcenv]; rfl
  have hcl : cenv.cells = cellsFrom (s.heap.objs.size + 1) scope.names (cloFrom X.env.cells scope.names []) := by rw [← hcenv]; rfl
  have hsc : cenv.scope = relS scope X.env.scope := by rw [← hcenv]; rfl
  rw [← Heap.size_push s.heap { cls := .type "dict", data := .dict #[] }] at hcl
  have cm : ∀ {y c}, (y, c) ∈ cloFrom X.env.cells scope.names [] → X.env.cells.lookup y = some c ∧ c < s.heap.objs.size := fun {y c} hm => by
    rcases cloFrom_mem hm with hm | ⟨h1, rfl⟩
    · cases hm
    · obtain ⟨c, hc⟩ := hfree _ h1 rfl
      rw [hc]
      obtain ⟨w, z⟩ := I.cell _ _ hc
      exact ⟨rfl, z.lt⟩
  have mem : ∀ {y c}, cenv.cells.lookup y = some c → (X.env.cells.lookup y = some c ∧ c < s.heap.objs.size) ∨ (s.heap.objs.size + 1 ≤ c ∧ CellAt (pushCells (s.heap.push { cls := .type "dict", data := .dict #[] }) scope.names) c none) := fun {y c} e => by
    rw [hcl] at e
    rcases cells_mem (PySem.mem_of_lookup e) with hm | ⟨_, h2, h3⟩
    · exact .inl (cm hm)
    · rw [Heap.size_push] at h2; exact .inr ⟨h2, h3⟩
  have look : ∀ {y}, scope.names.lookup y = some .free → ∃ c, cenv.cells.lookup y = some c ∧ X.env.cells.lookup y = some c := fun {y} hl => by
    have hy : (y, NameKind.free) ∈ scope.names := PySem.mem_of_lookup hl
    obtain ⟨c', e'⟩ := mem_lookup (cells_acc (names := scope.names) (n := (s.heap.push { cls := .type "dict", data := .dict #[] }).objs.size) (cloFrom_has (cells := X.env.cells) (acc := []) hy))
    rw [← hcl] at e'
    refine ⟨c', e', ?_⟩
    rw [hcl] at e'
    rcases cells_mem (PySem.mem_of_lookup e') with hm | ⟨h1, _, _⟩
    · exact (cm hm).1
    · have := ok.uniq _ h1
      rw [hl] at this; cases this
  have okB : (X.blk s H scope cenv fp).Ok := by
    refine ⟨I.ok.mod, by show cenv.scope.kind = _; rw [hsc]; exact ok.kind, by show cenv.globals = _; rw [← hcenv]; exact I.ok.glob, by show cenv.builtins = _; rw [← hcenv]; exact I.ok.blt, by show s.heap.objs.size ≤ cenv.locals; rw [hL]; exact Nat.le_refl _,
      fun y z c e1 e2 => ?_, fun y hy => ?_, fun y c z e => ?_, I.ok.hd, I.ok.frames, .inl rfl, fun b hb => ⟨?_, fun y c e z => ?_⟩, I.bs, Nat.le_trans I.ok.bsz I.sz, fun b o e hb => ?_, fun b hb z => ?_, I.stack, I.stkFree⟩
    · have e1 : cenv.cells.lookup y = some c := e1
      have e2 : cenv.cells.lookup z = some c := e2
      rw [hcl] at e1 e2
      refine cells_inj (fun p hp => ?_) (fun y z c a b => I.ok.inj y z c (cm a).1 (cm b).1) (PySem.mem_of_lookup e1) (PySem.mem_of_lookup e2)
      rw [Heap.size_push]
      exact Nat.lt_succ_of_lt (cm (y := p.1) (c := p.2) hp).2
    · show ∃ c, cenv.cells.lookup y = some c
      have key : ∀ k, cenv.kindOf y = some k → (k = .cell ∨ k = .free) → ∃ c, cenv.cells.lookup y = some c := fun k hk hk' => by
        unfold Env.kindOf at hk
        rw [hsc] at hk
        obtain ⟨k', e, r⟩ := lookup_relS hk
        have : k' = .cell ∨ k' = .free := by
          rcases r with rfl | ⟨rfl, _⟩
          · exact hk'
          · exact .inr rfl
        rcases this with rfl | rfl
        · obtain ⟨c, hm⟩ := cells_has (n := (s.heap.push { cls := .type "dict", data := .dict #[] }).objs.size) (acc := cloFrom X.env.cells scope.names []) (PySem.mem_of_lookup e)
          obtain ⟨c', e'⟩ := mem_lookup hm
          exact ⟨c', by rw [hcl]; exact e'⟩
        · obtain ⟨c, h1, _⟩ := look e
          exact ⟨c, h1⟩
      rcases hy with hy | hy
      · exact key _ hy (.inl rfl)
      · exact key _ hy (.inr rfl)
    · have z : (scope.names.lookup y == some NameKind.cell) = true := z
      have z : scope.names.lookup y = some .cell := by simpa using z
      have e : cenv.cells.lookup y = some c := e
      rw [hcl] at e
      rcases cells_mem (PySem.mem_of_lookup e) with hm | ⟨_, h2, _⟩
      · rcases cloFrom_mem hm with hm | ⟨h1, _⟩
        · cases hm
        · have q := ok.uniq _ h1
          rw [z] at q; cases q
      · rw [Heap.size_push] at h2
        exact Nat.le_of_succ_le h2
    · show b ≠ cenv.locals
      rw [hL]; exact Nat.ne_of_lt (hfp b hb).2
    · have e : cenv.cells.lookup y = some c := e
      rcases mem e with ⟨h1, _⟩ | ⟨h1, _⟩
      · exact (hfp b hb).1.2.2.2.2.1 y c h1 z
      · have h2 : s.heap.objs.size + 1 ≤ b := by rw [← z]; exact h1
        exact absurd (Nat.lt_of_lt_of_le (hfp b hb).2 (Nat.le_of_succ_le h2)) (Nat.lt_irrefl _)
    · rcases (hfp b hb).1.2.2.2.1 with z | z
      · exact I.ok.noex b o e z
      · exact absurd (Nat.lt_of_lt_of_le (Heap.lt_size e) (Nat.le_trans I.ok.bsz z)) (Nat.lt_irrefl _)
    · rcases List.mem_cons.mp (I.stkSub b z) with z | z
      · exact (hfp b hb).1.2.1 z
      · exact (hfp b hb).1.2.2.1 z
  refine ⟨okB, rfl, I.bare, Un.kept kp, ⟨fun _ => none, ?_, fun i y av e1 e2 e3 => ?_⟩, fun y c e => ?_, ?_, fun y c e => ?_, fun p hp => ?_, I.hok.kept kp, by rw [wipe_length]; exact I.len⟩
  · show Heap.Ns _ cenv.locals _
    rw [hL]
    exact Heap.Ns.keeps (Heap.Ns.new ..) fun b o e => pushCells_keeps _ _ _ _ e
  · obtain ⟨e2, hne⟩ := wipe_some e2
    have hfr : scope.names.lookup y = some .free ∧ (cenv.kindOf y = some .cell ∨ cenv.kindOf y = some .free) := by
      have key : ∀ k, cenv.scope.names.lookup y = some k → k = .local ∨ k = .cell ∨ k = .free → scope.names.lookup y = some .free ∧ (cenv.kindOf y = some .cell ∨ cenv.kindOf y = some .free) := fun k hk hk' => by
        have hk0 := hk
        rw [hsc] at hk
        obtain ⟨k', e, r⟩ := lookup_relS hk
        have no : ¬ (k' = .local ∨ k' = .cell) := fun hh => by
          rcases ok.own _ (PySem.mem_of_lookup e) hh with e' | e'
          · obtain ⟨p, hp, hpy⟩ := List.mem_map.mp e'
            have e3 := ok.ix p hp
            have : p.1 = y := hpy
            rw [this] at e3
            exact hne (List.mem_map.mpr ⟨p, hp, nodup_ix hN e3 e1⟩)
          · exact e' (List.mem_of_getElem? e1)
        rcases r with rfl | ⟨rfl, rfl⟩
        · rcases hk' with rfl | rfl | rfl
          · exact absurd (.inl rfl) no
          · exact absurd (.inr rfl) no
          · exact ⟨e, .inr hk0⟩
        · exact ⟨e, .inl hk0⟩
      have e3 : Vis cenv.scope y := e3
      rcases e3 with e3 | e3 | e3
      · exact key _ e3 (.inl rfl)
      · exact key _ e3 (.inr (.inl rfl))
      · exact key _ e3 (.inr (.inr rfl))
    obtain ⟨m, hn, hl⟩ := I.loc
    have hvis : Vis X.env.scope y := (ok.free _ (PySem.mem_of_lookup hfr.1) rfl).elim (fun k => .inr (.inl k)) (fun k => .inr (.inr k))
    obtain ⟨w, r, q⟩ := hl i y av e1 e2 hvis
    refine ⟨w, r, .inr ⟨hfr.2, ?_⟩⟩
    obtain ⟨c, h1, h2⟩ := look hfr.1
    rcases q with ⟨k, _⟩ | ⟨_, c', e', z⟩
    · have k : X.env.scope.names.lookup y = some .local := k
      rcases ok.free _ (PySem.mem_of_lookup hfr.1) rfl with k' | k' <;> rw [show X.env.scope.names.lookup y = _ from k'] at k <;> cases k
    · rw [h2] at e'; cases e'
      exact ⟨c, h1, z.keeps kp⟩
  · have e : cenv.cells.lookup y = some c := e
    rcases mem e with ⟨h1, _⟩ | ⟨_, z⟩
    · obtain ⟨w, z⟩ := I.cell y c h1
      exact ⟨w, z.keeps kp⟩
    · exact ⟨_, z⟩
  · show H cenv.locals = none
    rw [hL]; exact I.hok.fresh (Nat.le_refl _)
  · have e : cenv.cells.lookup y = some c := e
    rcases mem e with ⟨h1, _⟩ | ⟨h1, _⟩
    · exact I.freeC y c h1
    · exact I.hok.fresh (Nat.le_of_succ_le h1)
  · exact absurd (show p ∈ ([] : List (Addr × Obj)) ++ [] from hp) (by simp)
theorem app_ok {E : Value → Shared → Prop} {D : Addr} {xs : List V} {y : V} {v : Value} {Q : Value → Shared → Prop} (I : Inv X pins σ H s) (hD : H D = some (.lst xs)) (hz : xs.length < sizeLine) (r : RelV y v)
    (h : ∀ s', Inv X pins σ (upd H D (.lst (xs ++ [y]))) s' → Q .none s') : wpAny (model X.prog X.w) X.A (call (.builtin "list.append") [.ref D, v]) Q E s := by
  obtain ⟨hz', its, n, ri, e⟩ := I.hok D _ hD
  have hl := ri.length
  refine append_at (hsz := by rw [List.size_toArray]; omega) e fun h' sb ho' => ?_
  refine h { s with heap := h' } (I.write (t' := s.toks) (by rw [hD]; trivial) (.inl rfl) (fun b u hb q => (sb.2 b hb).trans q) ⟨_, ho'⟩ ⟨by rw [List.length_append]; exact hz, its ++ [v], n + 1, ri.append (.cons r .nil), ?_⟩)
  rw [ho']
  simp
def PTs (X : Cx) (ifs : List Expr) (t : TT) : Prop :=
  ∀ (pins : List (Addr × Obj)) (s : Shared) (σ : St) (H : Hp) (Q : Bool → Hp → Prop), Inv X pins σ H s → t σ H Q →
    wpAny (model X.prog X.w) X.A (forIn ifs true fun c r => if r = true then do let ok ← isTrue c X.env (eval c X.env); pure (ForInStep.yield ok) else pure (ForInStep.yield r)) (TP X pins σ Q) X.xe s
def tYes : TT := fun _ H Q => Q true H
theorem pts_nil : PTs X [] tYes := fun _ _ _ H _ I h => wpAny_tests_nil ⟨H, I, h⟩
theorem pts_one {c : Expr} {t : TT} (h : PT X c t) : PTs X [c] t := fun pins s σ H Q I hw => wpAny_tests_one (h pins s σ H Q I hw)
end
theorem thnF {α : Type} {t : Sem α} {Q Q' : α → Shared → Prop} {M : Model} {A : Around} {E : Value → Shared → Prop} {s : Shared} (h : wpAny M A t Q (fun _ _ => False) s) (hQ : ∀ a s, Q a s → Q' a s) : wpAny M A t Q' E s := wpAny_mono h hQ fun _ _ z => False.elim z
theorem compLoop_any {prog : Program} {w : World} {A : Around} {R : Result → Shared → Prop} {s : Shared} {elt target iter : Expr} {ifs : List Expr} {scope : Scope} {pos : Pos} {it acc : Value} {env : Env} (I : Nat → Shared → Prop)
    (turn : ∀ n s, I n s → wpAny (model prog w) A (pyNext it) (fun r s₁ => match r with
      | none => R (.ok .next) s₁
      | some v => wpAny (model prog w) A (letOwnedTupleGo target it v) (fun _ s₁' => wpAny (model prog w) A (assign target env v) (fun _ s₂ =>
          wpAny (model prog w) A (forIn ifs true fun c r => if r = true then do let ok ← isTrue c env (eval c env); pure (ForInStep.yield ok) else pure (ForInStep.yield r)) (fun ok s₃ =>
            if ok = true then wpAny (model prog w) A (eval elt env) (fun x s₄ =>
              wpAny (model prog w) A (call (.builtin "list.append") [acc, x]) (fun _ s₅ => ∃ m, m < n ∧ I m s₅) (notedBy (model prog w) A env fun e s' => R (.error e) s') s₄) (notedBy (model prog w) A env fun e s' => R (.error e) s') s₃
            else ∃ m, m < n ∧ I m s₃) (notedBy (model prog w) A env fun e s' => R (.error e) s') s₂) (notedBy (model prog w) A env fun e s' => R (.error e) s') s₁') (notedBy (model prog w) A env fun e s' => R (.error e) s') s₁) (notedBy (model prog w) A env fun e s' => R (.error e) s') s)
    (n : Nat) (h : I n s) :
    codeAny (model prog w) A (.compLoop (.ListComp elt [⟨target, iter, ifs, 0⟩] scope pos) 0 it acc env) R s := by
  refine codeAny_loop rfl I (fun n s hI => ?_) n h
  show wpAny _ A ((compTurn (.ListComp elt [⟨target, iter, ifs, 0⟩] scope pos) 0 it acc env).onRaise (fun x => do noteFrame x env; theTreesLotGoes x)) _ _ s
  refine wpAny_noted ?_
  rw [compTurn_list]
  refine wpAny_bind (wpAny_standAt (wpAny_bind (wpAny_mono (turn n s hI) (fun r s₁ h₁ => ?_) fun _ _ h' => h')))
  cases r with
  | none => exact wpAny_pure h₁
  | some v =>
    refine wpAny_bind (wpAny_mono h₁ (fun _ s₁' h₁' => ?_) fun _ _ h' => h')
    refine wpAny_bind (wpAny_mono h₁' (fun _ s₂ h₂ => wpAny_bind (wpAny_mono h₂ (fun ok s₃ h₃ => ?_) fun _ _ h' => h')) fun _ _ h' => h')
    cases ok with
    | false => exact wpAny_pure ⟨rfl, h₃⟩
    | true =>
      exact wpAny_bind (wpAny_bind (wpAny_mono h₃ (fun x s₄ h₄ => wpAny_bind (wpAny_mono h₄ (fun _ s₅ h₅ => wpAny_pure (wpAny_pure ⟨rfl, h₅⟩)) fun _ _ h' => h')) fun _ _ h' => h'))
section
variable {X : Cx}
def tLc (wi : TI) (g : TG) (tt : TT) (te : TE) (vs : List Nat) : TE := fun σ H Q => wi σ H fun J H1 => ∀ D, H1 D = none → ∃ W : Nat → Nat → Hp → Prop, (∃ m, W 0 m (upd H1 D (.lst []))) ∧ ∀ i m H, W i m H →
  (J.stop i H ∧ Q (.ref D) H) ∨ (J.go i H ∧ ∃ Nx : Hp → Prop, (∀ H', Nx H' → ∃ m', m' < m ∧ W (i + 1) m' H') ∧ ∀ x H', J.yld i H x H' → g x (wipe σ vs) H' fun σ2 H2 => wipe σ2 vs = wipe σ vs ∧ tt σ2 H2 fun b H3 =>
    if b = true then te σ2 H3 fun y H4 => ∃ acc, H4 D = some (.lst acc) ∧ acc.length < sizeLine ∧ Nx (upd H4 D (.lst (acc ++ [y]))) else Nx H3)
theorem lc_core {pins : List (Addr × Obj)} {s : Shared} {σ : St} {H : Hp} {Q : VK} {elt tg iter : Expr} {ifs : List Expr} {scope : Scope} {own : List (Str × Nat)} {pos pos' : Pos} {wi : TI} {g : TG} {tt : TT} {te : TE} {use : Option (Value → Sem Unit)} {Qf : Value → Shared → Prop}
    (hc : X.calm = true) (hN : X.N.Nodup) (I : Inv X pins σ H s) (hi : PI X tg iter wi) (ok : BlkOk X.N X.env.scope scope own)
    (hg : ∀ (s : Shared) (H : Hp) (C : Addr) (cl : List (Str × Addr)) (fp : List Addr), PG (X.blk s H scope (compEnvC scope cl C X.env) fp) tg g) (ht : ∀ (s : Shared) (H : Hp) (C : Addr) (cl : List (Str × Addr)) (fp : List Addr), PTs (X.blk s H scope (compEnvC scope cl C X.env) fp) ifs tt)
    (he : ∀ (s : Shared) (H : Hp) (C : Addr) (cl : List (Str × Addr)) (fp : List Addr), PE (X.blk s H scope (compEnvC scope cl C X.env) fp) elt te) (hs : ∀ x, foldedSetIterable iter X.env x = pure x)
    (h : tLc wi g tt te (own.map (·.2)) σ H Q)
    (hRR : ∀ D C s' m H', Inv X pins σ H' s' → Q (.ref D) H' → s'.heap.Ns C m → FpOk X pins H' C → compPost (model X.prog X.w) X.A X.xe use Qf (.ref D) C (.ok .next) s') :
    wpAny (model X.prog X.w) X.A (comprehension (.ListComp elt [⟨tg, iter, ifs, 0⟩] scope pos) scope X.env pos' (newList []) false (eval iter X.env) use) Qf X.xe s := by
  have hfree : ∀ y ∈ scope.names, y.2 = .free → ∃ c, X.env.cells.lookup y.1 = some c := fun y hy e => by
    rcases ok.free y hy e with k | k
    · exact I.ok.has _ (.inl k)
    · exact I.ok.has _ (.inr k)
  refine wpAny_comprehension_free (use := use) rfl hs (closure_ok hfree) ok.kind (fun y hy e => by rw [ok.uniq y hy, e])
    (thn (hi pins s σ H _ I h) fun xv s1 hx => thn hx fun itv s2 h2 => ?_)
  obtain ⟨it, fp, tn, J, H2, e, I2, T, st2, f2, q⟩ := h2
  subst e
  refine wpAny_newObj_type (newEnv_comp ?_) (by show 0 ≤ sizeLine; decide)
  generalize hD : s2.heap.objs.size = D
  have hDn : H2 D = none := I2.hok.fresh (Nat.le_of_eq hD)
  obtain ⟨W, ⟨m0, w0⟩, turn⟩ := q D hDn
  generalize hs3 : ({ s2 with heap := s2.heap.push { cls := .type "list", data := .seq ([] : List Value).toArray } } : Shared) = s3
  have I3 : Inv X pins σ (upd H2 D (.lst [])) s3 := by
    rw [← hs3]
    refine I2.laid (t' := s2.toks) (fun b o e => Heap.get?_push_of_some _ e) (Nat.le_of_eq hD) ⟨Nat.zero_le _, [], 0, .nil, ?_⟩
    rw [← hD]
    exact Heap.get?_push_size _ rfl
  have h3 : s3.heap = s2.heap.push { cls := .type "list", data := .seq ([] : List Value).toArray } := by rw [← hs3]
  have sz : ∀ b ∈ fp, b < s2.heap.objs.size := fun b hb => by
    obtain ⟨o, e, _⟩ := T.obj _ _ st2 b hb
    exact Heap.lt_size e
  have f3 : ∀ b ∈ fp, FpOk X pins (upd H2 D (.lst [])) b ∧ b < s3.heap.objs.size := fun b hb => by
    have hlt := sz b hb
    refine ⟨⟨?_, (f2 b hb).2⟩, by rw [h3, Heap.size_push]; exact Nat.lt_succ_of_lt hlt⟩
    rw [upd_ne (by rw [← hD]; exact Nat.ne_of_lt hlt)]
    exact (f2 b hb).1
  have st3 : tn 0 s3.heap := T.keep _ _ _ st2 fun b _ o e => by rw [h3]; exact Heap.get?_push_of_some _ e
  have I4 := block_start I3 ok hN f3
  have pg := hg s3 (upd H2 D (.lst [])) s3.heap.objs.size (cellsFrom (s3.heap.objs.size + 1) scope.names (cloFrom X.env.cells scope.names [])) fp
  have pt := ht s3 (upd H2 D (.lst [])) s3.heap.objs.size (cellsFrom (s3.heap.objs.size + 1) scope.names (cloFrom X.env.cells scope.names [])) fp
  have pe := he s3 (upd H2 D (.lst [])) s3.heap.objs.size (cellsFrom (s3.heap.objs.size + 1) scope.names (cloFrom X.env.cells scope.names [])) fp
  show codeAny _ _ (.compStart (.ListComp elt [⟨tg, iter, ifs, 0⟩] scope pos) 0 (.ref it) (.ref D) (compEnvC scope (cellsFrom (s3.heap.objs.size + 1) scope.names (cloFrom X.env.cells scope.names [])) s3.heap.objs.size X.env)) (compPost (model X.prog X.w) X.A X.xe use Qf (.ref D) s3.heap.objs.size) { s3 with heap := pushCells (s3.heap.push { cls := .type "dict", data := .dict #[] }) scope.names }
  have nfp : ∀ b ∈ fp, (upd H2 D (.lst [])) b = none := fun b hb => (f3 b hb).1.1
  generalize hce : compEnvC scope (cellsFrom (s3.heap.objs.size + 1) scope.names (cloFrom X.env.cells scope.names [])) s3.heap.objs.size X.env = ce at I4 pg pt pe ⊢
  have cL : ce.locals = s3.heap.objs.size := by subst hce; rfl
  generalize hH3 : upd H2 D (.lst []) = H3 at I3 I4 pg pt pe w0 nfp f3
  generalize hs4 : ({ s3 with heap := pushCells (s3.heap.push { cls := .type "dict", data := .dict #[] }) scope.names } : Shared) = s4 at I4 ⊢
  have st4 : tn 0 s4.heap := T.keep _ _ _ st3 fun b _ o e => by rw [← hs4]; exact pushCells_keeps _ _ _ _ (Heap.get?_push_of_some _ e)
  have stat : ∀ {σ' : St} {H' : Hp} {s' : Shared}, Inv (X.blk s3 H3 scope ce fp) [] σ' H' s' → (∀ b ∈ fp, H' b = none) → ∀ b ∈ fp, FpOk (X.blk s3 H3 scope ce fp) [] H' b := fun {σ' H' s'} I' hn b hb =>
    ⟨hn b hb, (I'.ok.exf b hb).1, I'.ok.exfs b hb, .inl hb, fun x c e => (I'.ok.exf b hb).2 x c e, fun p hp => absurd (show p ∈ ([] : List (Addr × Obj)) ++ [] from hp) (by simp)⟩
  have loop : codeAny (model X.prog X.w) X.A (.compLoop (.ListComp elt [⟨tg, iter, ifs, 0⟩] scope pos) 0 (.ref it) (.ref D) ce) (compPost (model X.prog X.w) X.A X.xe use Qf (.ref D) s3.heap.objs.size) s4 := by
    refine compLoop_any (fun n s' => ∃ i H', Inv (X.blk s3 H3 scope ce fp) [] (wipe σ (own.map (·.2))) H' s' ∧ tn i s'.heap ∧ (∀ b ∈ fp, H' b = none) ∧ W i n H') ?_ m0 ⟨0, H3, I4, st4, nfp, w0⟩
    rintro n s5 ⟨i, H5, I5, st5, n5, w5⟩
    rcases turn i n H5 w5 with ⟨stop, qq⟩ | ⟨go, Nx, hNx, step⟩
    · have td := T.done (X.blk s3 H3 scope ce fp) rfl rfl rfl hc i [] s5 _ H5 (fun _ _ => False) I5 (stat I5 n5) st5 stop
      refine thnF td fun r s6 ⟨hr, I6⟩ => ?_
      subst hr
      have I7 : Inv X pins σ H5 s6 := I3.call' (ch := fp) I6.os I6.base I6.hok I6.bare fun b hb => ⟨(f3 b hb).1.2.2.2.1, (f3 b hb).1.2.1, (f3 b hb).1.2.2.2.2.1, (f3 b hb).1.2.2.2.2.2⟩
      have nC : H5 s3.heap.objs.size = none := by
        have z : H5 ce.locals = none := I6.free
        rw [cL] at z
        exact z
      obtain ⟨m, hn, _⟩ := I6.loc
      have hn : s6.heap.Ns ce.locals m := hn
      rw [cL] at hn
      exact hRR D s3.heap.objs.size s6 m H5 I7 qq hn (I3.fpOk (Nat.le_refl _) nC)
    · have ti := T.item (X.blk s3 H3 scope ce fp) rfl rfl rfl hc i [] s5 _ H5 (fun _ _ => False) I5 (stat I5 n5) st5 go
      refine thnF ti fun r s6 ⟨u, hr, h6⟩ => ?_
      subst hr
      refine thnF h6 fun _ s7 ⟨x, H7, I7, r7, y7, st7, n7⟩ => ?_
      have I7' := I7.pinned (stat I7 n7) (T.obj _ _ st7)
      refine thnF (pg _ s7 _ H7 x u _ I7' r7 (step x H7 y7)) fun _ s8 ⟨σ8, H8, I8, hw8, q8⟩ => ?_
      refine thnF (pt _ s8 σ8 H8 _ I8 q8) fun b s9 ⟨H9, I9, q9⟩ => ?_
      have fin : ∀ {s' : Shared} {H' : Hp}, Inv (X.blk s3 H3 scope ce fp) ([] ++ pinsAt fp s7.heap) σ8 H' s' → Nx H' → ∃ m, m < n ∧ ∃ i H', Inv (X.blk s3 H3 scope ce fp) [] (wipe σ (own.map (·.2))) H' s' ∧ tn i s'.heap ∧ (∀ b ∈ fp, H' b = none) ∧ W i m H' := fun {s' H'} I' nx => by
        obtain ⟨m', hm, w'⟩ := hNx H' nx
        have pin' : ∀ b ∈ fp, ∀ o, s7.heap.get? b = some o → s'.heap.get? b = some o ∧ H' b = none := fun b hb o e =>
          let z := I'.pin (b, o) (List.mem_append_right _ (List.mem_append_right _ (mem_pinsAt hb e)))
          ⟨z.1, z.2.1⟩
        have hl : (wipe σ (own.map (·.2))).length = σ8.length := by rw [← hw8, wipe_length]
        refine ⟨m', hm, i + 1, H', (I'.unpinned (pins := [])).weak hl (fun j v e => ?_), T.keep _ _ _ st7 fun b hb o e => (pin' b hb o e).1, fun b hb => ?_, w'⟩
        · rw [← hw8] at e
          exact (wipe_some e).1
        · obtain ⟨o, e, _⟩ := T.obj _ _ st7 b hb
          exact (pin' b hb o e).2
      cases b with
      | false =>
        simp only [Bool.false_eq_true, if_false] at q9 ⊢
        exact fin I9 q9
      | true =>
        simp only [if_true] at q9 ⊢
        refine thnF (pe _ s9 σ8 H9 _ I9 q9) fun z s10 ⟨yv, H10, I10, r10, acc, hD10, hz10, nx⟩ => ?_
        exact app_ok (X := X.blk s3 H3 scope ce fp) I10 hD10 hz10 r10 fun s11 I11 => fin I11 nx
  exact codeAny_compStart_list loop (T.self X.A 0 _ _ _ st4 loop)
theorem pe_lc {elt tg iter : Expr} {ifs : List Expr} {scope : Scope} {own : List (Str × Nat)} {pos : Pos} {wi : TI} {g : TG} {tt : TT} {te : TE} (hc : X.calm = true) (hN : X.N.Nodup) (hi : PI X tg iter wi) (ok : BlkOk X.N X.env.scope scope own)
    (hg : ∀ (s : Shared) (H : Hp) (C : Addr) (cl : List (Str × Addr)) (fp : List Addr), PG (X.blk s H scope (compEnvC scope cl C X.env) fp) tg g) (ht : ∀ (s : Shared) (H : Hp) (C : Addr) (cl : List (Str × Addr)) (fp : List Addr), PTs (X.blk s H scope (compEnvC scope cl C X.env) fp) ifs tt)
    (he : ∀ (s : Shared) (H : Hp) (C : Addr) (cl : List (Str × Addr)) (fp : List Addr), PE (X.blk s H scope (compEnvC scope cl C X.env) fp) elt te) (hs : ∀ x, foldedSetIterable iter X.env x = pure x := by intro _; rfl) :
    PE X (.ListComp elt [⟨tg, iter, ifs, 0⟩] scope pos) (tLc wi g tt te (own.map (·.2))) := by
  intro pins s σ H Q I h
  rw [eval_ListComp]
  refine lc_core hc hN I hi ok hg ht he hs h fun D C s' m H' I' q hn f => ⟨m, hn, fun h'' sb => ?_⟩
  obtain ⟨f0, f1, f2, f3, f4, f5⟩ := f
  exact ⟨.ref D, H', I'.turned (t' := s'.toks) (fun b o hb e => (sb.2 b hb).trans e) f0 f1 f3 f4 f5, rfl, q⟩
theorem ps_setLc {i : Nat} {y : Str} {py : Pos} {elt tg iter : Expr} {ifs : List Expr} {scope : Scope} {own : List (Str × Nat)} {pos spos : Pos} {wi : TI} {g : TG} {tt : TT} {te : TE} (hc : X.calm = true) (hN : X.N.Nodup) (hy : X.N[i]? = some y) (hyl : X.env.scope.names.lookup y = some .local)
    (hsw : swapsWith (.ListComp elt [⟨tg, iter, ifs, 0⟩] scope pos) (some (.Name y py)) spos.line X.env = pure true) (hi : PI X tg iter wi) (ok : BlkOk X.N X.env.scope scope own)
    (hg : ∀ (s : Shared) (H : Hp) (C : Addr) (cl : List (Str × Addr)) (fp : List Addr), PG (X.blk s H scope (compEnvC scope cl C X.env) fp) tg g) (ht : ∀ (s : Shared) (H : Hp) (C : Addr) (cl : List (Str × Addr)) (fp : List Addr), PTs (X.blk s H scope (compEnvC scope cl C X.env) fp) ifs tt)
    (he : ∀ (s : Shared) (H : Hp) (C : Addr) (cl : List (Str × Addr)) (fp : List Addr), PE (X.blk s H scope (compEnvC scope cl C X.env) fp) elt te) (hs : ∀ x, foldedSetIterable iter X.env x = pure x := by intro _; rfl) :
    PS X (.Assign [.Name y py] (.ListComp elt [⟨tg, iter, ifs, 0⟩] scope pos) spos) (tAsg (tLc wi g tt te (own.map (·.2))) (gName i)) := by
  intro pins s σ H D I h
  rw [exec_Assign_Name_used _ _ _ _ hsw]
  refine wpAny_bind (wpAny_standAt (wpAny_bind ?_))
  show wpAny _ X.A (do let _ ← comprehension (.ListComp elt [⟨tg, iter, ifs, 0⟩] scope pos) scope X.env (firstIterPos [⟨tg, iter, ifs, 0⟩] pos) (newList []) false (eval iter X.env) (some (assign (.Name y py) X.env))) _ _ s
  have h : tLc wi g tt te (own.map (·.2)) σ H (fun x H1 => gName i x σ H1 D.nx) := h
  refine wpAny_bind (thn (lc_core (Qf := fun _ s' => SP X pins D .next s') hc hN I hi ok hg ht he hs h fun L C s' m H' I' q hn f => ?_) fun _ s' hq => wpAny_pure (wpAny_pure hq))
  show wpAny _ _ (assign (.Name y py) X.env (.ref L)) _ _ _
  refine wpAny_assign_Name (store_ok2 (v := V.ref L) I' hN hy (.inl hyl) rfl (fun s2 I2 ⟨a, sb, ha⟩ => ?_) (.inr hyl))
  obtain ⟨f0, f1, f2, f3, f4, f5⟩ := f
  have haC : C ≠ a := by
    rcases ha with z | z
    · rw [z]; exact f1
    · exact fun e => f4 y a z e.symm
  refine ⟨m, hn.sameBut sb haC, fun h3 sb3 => ?_⟩
  exact ⟨_, H', I2.turned (t' := s2.toks) (fun b o hb e => (sb3.2 b hb).trans e) f0 f1 f3 f4 f5, q⟩
theorem sw_true {elt : Expr} {gs : List Comprehension} {scope : Scope} {pos py : Pos} {y : Str} {l : Nat} {env : Env} (hk : env.scope.kind = .function) (hy : env.scope.names.lookup y = some .local) (hl : (py.line == pos.line) = true)
    (ha : (scope.names.any fun (n, k) => n == y && (k == .local || k == .cell)) = false) : swapsWith (.ListComp elt gs scope pos) (some (.Name y py)) l env = pure true := by
  have ky : env.kindOf y = some .local := hy
  have hb : env.blockKind = .function := by unfold Env.blockKind; rw [hk]; rfl
  unfold swapsWith
  simp only [hb, ky, ha, Expr.pos, hl]
  rfl
end
theorem lc_range {lo : Int} {n : Nat} {g : TG} {tt : TT} {te : TE} {vs : List Nat} {σ : St} {H1 : Hp} {D : Addr} {Qd : Hp → Prop} (Pv : Nat → Hp → Prop) (h0 : Pv 0 (upd H1 D (.lst [])))
    (hs : ∀ i H, i < n → Pv i H → g (.int (lo + i)) (wipe σ vs) H fun σ2 H2 => wipe σ2 vs = wipe σ vs ∧ tt σ2 H2 fun b H3 =>
      if b = true then te σ2 H3 fun y H4 => ∃ acc, H4 D = some (.lst acc) ∧ acc.length < sizeLine ∧ Pv (i + 1) (upd H4 D (.lst (acc ++ [y]))) else Pv (i + 1) H3) (hd : ∀ H, Pv n H → Qd H) :
    ∃ W : Nat → Nat → Hp → Prop, (∃ m, W 0 m (upd H1 D (.lst []))) ∧ ∀ i m H, W i m H →
      ((Itr lo n).stop i H ∧ Qd H) ∨ ((Itr lo n).go i H ∧ ∃ Nx : Hp → Prop, (∀ H', Nx H' → ∃ m', m' < m ∧ W (i + 1) m' H') ∧ ∀ x H', (Itr lo n).yld i H x H' → g x (wipe σ vs) H' fun σ2 H2 => wipe σ2 vs = wipe σ vs ∧ tt σ2 H2 fun b H3 =>
        if b = true then te σ2 H3 fun y H4 => ∃ acc, H4 D = some (.lst acc) ∧ acc.length < sizeLine ∧ Nx (upd H4 D (.lst (acc ++ [y]))) else Nx H3) := by
  refine ⟨fun i m H => m = n - i ∧ i ≤ n ∧ Pv i H, ⟨n, by simp, Nat.zero_le _, h0⟩, ?_⟩
  rintro i m H ⟨rfl, hi, p⟩
  by_cases hlt : i < n
  · refine .inr ⟨hlt, Pv (i + 1), fun H' p' => ⟨n - (i + 1), by omega, rfl, hlt, p'⟩, fun x H' y => ?_⟩
    obtain ⟨e, y⟩ := y
    subst e y
    exact hs i _ hlt p
  · have e : i = n := by omega
    subst e
    exact .inl ⟨Nat.le_refl _, hd H p⟩
theorem lc_list {K : PySem.W.Frag} {a : Addr} {xs : List V} {g : TG} {tt : TT} {te : TE} {vs : List Nat} {σ : St} {H1 : Hp} {D : Addr} {Qd : Hp → Prop} (Pv : Nat → Hp → Prop) (h0 : Pv 0 (upd H1 D (.lst []))) (hl : ∀ i H, i ≤ xs.length → Pv i H → SqL K H a xs)
    (hs : ∀ i x H, xs[i]? = some x → Pv i H → g x (wipe σ vs) H fun σ2 H2 => wipe σ2 vs = wipe σ vs ∧ tt σ2 H2 fun b H3 =>
      if b = true then te σ2 H3 fun y H4 => ∃ acc, H4 D = some (.lst acc) ∧ acc.length < sizeLine ∧ Pv (i + 1) (upd H4 D (.lst (acc ++ [y]))) else Pv (i + 1) H3) (hd : ∀ H, Pv xs.length H → Qd H) :
    ∃ W : Nat → Nat → Hp → Prop, (∃ m, W 0 m (upd H1 D (.lst []))) ∧ ∀ i m H, W i m H →
      ((Itl K a).stop i H ∧ Qd H) ∨ ((Itl K a).go i H ∧ ∃ Nx : Hp → Prop, (∀ H', Nx H' → ∃ m', m' < m ∧ W (i + 1) m' H') ∧ ∀ x H', (Itl K a).yld i H x H' → g x (wipe σ vs) H' fun σ2 H2 => wipe σ2 vs = wipe σ vs ∧ tt σ2 H2 fun b H3 =>
        if b = true then te σ2 H3 fun y H4 => ∃ acc, H4 D = some (.lst acc) ∧ acc.length < sizeLine ∧ Nx (upd H4 D (.lst (acc ++ [y]))) else Nx H3) := by
  refine ⟨fun i m H => m = xs.length - i ∧ i ≤ xs.length ∧ Pv i H, ⟨xs.length, by simp, Nat.zero_le _, h0⟩, ?_⟩
  rintro i m H ⟨rfl, hi, p⟩
  have q := hl i H hi p
  by_cases hlt : i < xs.length
  · refine .inr ⟨⟨xs, xs[i], q, by simp [hlt]⟩, Pv (i + 1), fun H' p' => ⟨xs.length - (i + 1), by omega, rfl, hlt, p'⟩, fun x H' y => ?_⟩
    obtain ⟨e, y⟩ := y
    subst e
    exact hs i x _ (y xs q) p
  · have e : i = xs.length := by omega
    subst e
    exact .inl ⟨⟨xs, q, Nat.le_refl _⟩, hd H p⟩
def blkC (N : List Str) (sc scope : Scope) (own : List (Str × Nat)) : Bool :=
  (match scope.kind with | .function => true | _ => false) && (scope.names.all fun y => decide (scope.names.lookup y.1 = some y.2)) && (own.all fun p => decide (N[p.2]? = some p.1)) &&
    (scope.names.all fun y => match y.2 with
      | .free => (match sc.names.lookup y.1 with | some .cell => true | some .free => true | _ => false)
      | .local => decide (y.1 ∈ own.map (·.1)) || decide (y.1 ∉ N)
      | .cell => decide (y.1 ∈ own.map (·.1)) || decide (y.1 ∉ N)
      | _ => true)
theorem blkOk_by {N : List Str} {sc scope : Scope} {own : List (Str × Nat)} (h : blkC N sc scope own = true) : BlkOk N sc scope own := by
  unfold blkC at h
  simp only [Bool.and_eq_true, List.all_eq_true, decide_eq_true_eq] at h
  obtain ⟨⟨⟨h1, h2⟩, h3⟩, h4⟩ := h
  refine ⟨?_, h2, h3, fun y hy e => ?_, fun y hy e => ?_⟩
  · split at h1
    · assumption
    · cases h1
  · have q := h4 y hy
    simp only [e] at q
    split at q <;> first | exact .inl (by assumption) | exact .inr (by assumption) | cases q
  · have q := h4 y hy
    rcases e with e | e <;> (simp only [e, Bool.or_eq_true, decide_eq_true_eq] at q; exact q)
end L2
namespace L2
open PySem PySem.Spec PyProof.Rows
section
variable {prog : Program} {w : World} {A : Around} {R : Result → Shared → Prop} {s : Shared} {elt t0 i0 t1 i1 : Expr} {ifs0 ifs1 : List Expr} {scope : Scope} {pos : Pos} {it acc : Value} {env : Env}
end
section
variable {X : Cx}
end
end L2
namespace L2
open PySem PySem.Spec PyProof.Rows
section
variable {κ : Type} [DecidableEq κ]
end
section
variable {P : Program} {w : World} {H : Hp} {h : Heap} {a : Addr}
end
section
variable {X : Cx} {pins : List (Addr × Obj)} {σ : St} {H : Hp} {s : Shared} {a : Addr} {y v : V} {u r : Value} {o : Option V} {A : Around} {E : Value → Shared → Prop}
end
section
variable {X : Cx} {pins : List (Addr × Obj)} {σ : St} {H : Hp} {s : Shared} {a : Addr} {kvs : List (Key × V)} {k : Key} {u : Value} {A : Around} {E : Value → Shared → Prop}
end
section
variable {X : Cx} {o i e value : Expr} {pos pos' tpos : Pos} {td ty tv : TE}
end
section
variable {X : Cx} {pos : Pos}
end
section
variable {X : Cx} {pins : List (Addr × Obj)} {σ : St} {H : Hp} {s : Shared} {a : Addr} {y d : V} {u r : Value} {o : Option V} {A : Around} {E : Value → Shared → Prop}
end
section
variable {X : Cx} {o e f : Expr} {apos cpos : Pos} {td ty tx : TE}
end
section
variable {X : Cx} {pins : List (Addr × Obj)} {σ : St} {H : Hp} {s : Shared} {a : Addr} {kvs : List (Key × V)} {A : Around} {E : Value → Shared → Prop}
end
section
variable {X : Cx} {pins : List (Addr × Obj)} {σ : St} {H : Hp} {s : Shared} {a : Addr} {y : V} {u : Value} {A : Around} {E : Value → Shared → Prop}
end
end L2
namespace L2
open PySem PySem.Spec PyProof.Rows
section
variable {prog : Program} {w : World} {A : Around} {E : Value → Shared → Prop}
end
section
variable {X : Cx}
end
end L2
namespace L2
open PySem PySem.Spec PyProof.Rows
theorem boot_reversed5 : bootBuiltins "reversed" = some (.type "reversed") := by decide +kernel
section
variable {X : Cx} {pins : List (Addr × Obj)} {σ : St} {H : Hp} {s : Shared} {h' : Heap}
theorem Inv.turnedNew {t' : Nat} {ch : List Addr} {T : Addr} {ob : HO} (I : Inv X pins σ H s) (k : ∀ b o, b ∉ ch → s.heap.get? b = some o → h'.get? b = some o) (hf : ∀ b ∈ ch, FpOk X pins H b) (hT : s.heap.objs.size ≤ T)
    (new : ObjOk X.prog X.w (upd H T ob) h' T ob) : Inv X pins σ (upd H T ob) { s with heap := h', toks := t' } := by
  have hn : H T = none := I.hok.fresh hT
  have nit : ∀ b u, H b = some u → b ∉ ch := fun b u e z => by
    have q := (hf b z).1
    rw [q] at e; cases e
  refine I.step (g' := s.gens) (d' := s.drawn) (ch := ch) (fun b hb => ⟨(hf b hb).2.2.2.1, (hf b hb).2.1, (hf b hb).2.2.2.2.1, (hf b hb).2.2.2.2.2⟩) (fun b o _ _ hc e _ => k b o hc e) (fun b o _ _ hc e _ => ⟨o.slots, k b o hc e⟩)
    (fun b o _ e n => ?_) (fun b o hc e => ⟨o, k b o hc e⟩) (fun b xs e => ?_) (fun b o u e => ?_) (fun b ps e => ⟨#[], ?_⟩) (fun m hm => ?_) (fun b u e => ?_) I.bare
  · rw [upd_ne (Nat.ne_of_lt (Nat.lt_of_lt_of_le (Heap.lt_size e) hT))]; exact n
  · rw [upd_ne (ne_of_none e hn)]; exact e
  · rw [upd_ne (ne_of_none e hn)]; exact e
  · rw [upd_ne (ne_of_none e hn), e]; simp
  · obtain ⟨o, es, ep, ho, r⟩ := hm
    exact ⟨o, es, ep, k _ o (fun z => (hf _ z).2.1 rfl) ho, r⟩
  · by_cases hb : b = T
    · subst hb
      rw [upd_same] at e
      cases e
      exact new
    · rw [upd_ne hb] at e
      refine (I.hok b u e).stay (fun c v hc q => k c v ?_ q) (fun c q => by rw [upd_ne (ne_of_none q hn)]; exact q) fun c xs q => by rw [upd_ne (ne_of_none q hn)]; exact q
      rcases hc with z | z
      · rw [z]; exact nit b u e
      · exact nit c _ z
end
section
variable {X : Cx}
theorem pi_one {tg : Expr} {pins : List (Addr × Obj)} {σ : St} {H : Hp} {s : Shared} {R : It → Hp → Prop} {J : It} {tn : Nat → Heap → Prop} {tk : Nat} (I : Inv X pins σ H s) (o : Obj)
    (T : Turn X.prog X.w X.K tg J [s.heap.objs.size] s.heap.objs.size tn) (st : tn 0 (s.heap.push o)) (q : R J H) : PIE X pins σ tg R (.ref s.heap.objs.size) { s with heap := s.heap.push o, toks := tk } := by
  refine ⟨s.heap.objs.size, [s.heap.objs.size], tn, J, H, rfl, I.kept fun b ob e => Heap.get?_push_of_some _ e, T, st, fun b hb => ?_, q⟩
  have e : b = s.heap.objs.size := by simpa using hb
  subst e
  exact I.fpOk (Nat.le_refl _) (I.hok.fresh (Nat.le_refl _))
end
section
variable {X : Cx} {tg : Expr}
end
def Itv (K : PySem.W.Frag) (a : Addr) (n : Nat) : It :=
  ⟨fun i H => i < n ∧ ∃ (xs : List V) (x : V), SqL K H a xs ∧ xs[n - 1 - i]? = some x, fun i H x H' => H' = H ∧ ∀ xs, SqL K H a xs → xs[n - 1 - i]? = some x, fun i _ => n ≤ i⟩
theorem turn_rev {P : Program} {w : World} {K : PySem.W.Frag} {tg : Expr} (a it : Addr) (n : Nat) : Turn P w K tg (Itv K a n) [it] it (fun i h => i ≤ n ∧ h.IsRevIter it a ((n : Int) - 1 - (i : Nat))) where
  mem := by simp
  obj := fun i h st b hb => by
    have e : b = it := by simpa using hb
    subst e
    obtain ⟨_, o, e, c, d⟩ := st
    exact ⟨o, e, fun v z => by rw [d] at z; cases z⟩
  keep := fun i h h' st k => ⟨st.1, st.2.at fun o e => k it (by simp) o e⟩
  item := by
    intro X hP hw hK hc i pins s σ H E I hf st hg
    subst hP hw hK
    obtain ⟨hin, xs, x, hq, hx⟩ := hg
    obtain ⟨its, rv, p, hz⟩ := I.list hq
    obtain ⟨u, hu, ru⟩ := rv.get hx
    obtain ⟨f0, f1, f2, f3, f4, f5⟩ := hf it (by simp)
    obtain ⟨_, hit⟩ := st
    have e1 : (n : Int) - 1 - ((i : Nat) : Int) = ((n - 1 - i : Nat) : Int) := by omega
    rw [e1] at hit
    refine wpAny_pyNext_rev_item hit p.isList (x := u) (by simpa using hu) fun h' st' sb => ?_
    have e2 : ((n - 1 - i : Nat) : Int) - 1 = (n : Int) - 1 - ((i + 1 : Nat) : Int) := by omega
    rw [e2] at st'
    have I1 : Inv X pins σ H { s with heap := h' } := I.turned (t' := s.toks) (fun b o hb e => (sb.2 b hb).trans e) f0 f1 f3 f4 f5
    obtain ⟨o, e, c, d⟩ := id st'
    exact ⟨u, rfl, go_of (s := { s with heap := h' }) e c d (by decide) ⟨x, H, I1, ru, ⟨rfl, fun ys hy => by rw [I.list_inj hy hq]; exact hx⟩, ⟨hin, st'⟩, fun b hb => (hf b hb).1⟩⟩
  done := by
    intro X hP hw hK hc i pins s σ H E I hf st hg
    subst hP hw hK
    obtain ⟨f0, f1, f2, f3, f4, f5⟩ := hf it (by simp)
    obtain ⟨hin, hit⟩ := st
    have hge : n ≤ i := hg
    have e1 : (n : Int) - 1 - ((i : Nat) : Int) = -1 := by omega
    rw [e1] at hit
    exact wpAny_pyNext_rev_end (I.ok.hd hc) hit fun h' eb => ⟨rfl, I.turned (t' := s.toks) (fun b o hb e => eb b o hb e) f0 f1 f3 f4 f5⟩
  self := fun A i s Q E st h => wpAny_pyIter_revIter st.2 h
def iRev (K : PySem.W.Frag) (ta : TA) : TI := fun σ H R => ta σ H fun vs H1 => ∃ (a : Addr) (xs : List V), vs = [.ref a] ∧ SqL K H1 a xs ∧ R (Itv K a xs.length) H1
section
variable {X : Cx} {tg : Expr}
theorem pi_reversed {e : Expr} {ta : TA} {p pos : Pos} (hg : Gl X "reversed") (hm : X.mg "reversed" = none) (ha : PA X [e] ta) (hs : starEach [e] X.env = [(false, eval e X.env)] := by rfl) : PI X tg (.Call (.Name "reversed" p) [e] [] pos) (iRev X.K ta) := by
  intro pins s σ H R I h
  refine Call_ (ld_blt I hg hm boot_reversed5 (PyProof.Rows.callWith_type1 (thn (ha pos pins s σ H _ I h) fun us s1 ⟨vs, H1, I1, r1, q1⟩ => ?_) hs rfl))
  obtain ⟨a, xs, e, hq, q⟩ := q1
  subst e
  cases r1 with
  | cons r rr =>
    cases rr
    cases r
    obtain ⟨its, rv, p', hz⟩ := I1.list hq
    have hl := rv.length
    have e1 : ((its.toArray.size : Nat) : Int) - 1 = (xs.length : Int) - 1 - ((0 : Nat) : Int) := by simp only [List.size_toArray]; omega
    refine call_reversed_list p'.isList (wpAny_pyIter_revIter (l := a) (i := ((its.toArray.size : Nat) : Int) - 1) ⟨_, Heap.get?_push_size _ rfl, rfl, rfl⟩ ?_)
    refine pi_one (tk := s1.toks) I1 _ (turn_rev a _ xs.length) ⟨Nat.zero_le _, ?_⟩ q
    rw [← e1]
    exact ⟨_, Heap.get?_push_size _ rfl, rfl, rfl⟩
end
section
variable {prog : Program} {w : World} {A : Around} {E : Value → Shared → Prop} {s : Shared}
end
section
variable {X : Cx} {pins : List (Addr × Obj)} {σ : St} {H : Hp} {s : Shared} {d : Addr} {o : Obj}
end
section
variable {P : Program} {w : World} {K : PySem.W.Frag} {tg : Expr} {d : Addr} {o : Obj} {es : Array DictEntry} {ep : Nat}
end
section
variable {X : Cx} {tg e : Expr} {td : TE} {apos cpos : Pos}
end
def Ite (K : PySem.W.Frag) (a : Addr) : It :=
  ⟨fun i H => ∃ (xs : List V) (x : V), SqL K H a xs ∧ xs[i]? = some x, fun i H v H' => ∃ T x, v = .ref T ∧ H T = none ∧ H' = upd H T (.tup [.int (i : Nat), x]) ∧ ∀ xs, SqL K H a xs → xs[i]? = some x, fun i H => ∃ xs : List V, SqL K H a xs ∧ xs.length ≤ i⟩
theorem turn_enum {P : Program} {w : World} {K : PySem.W.Frag} {elts : List Expr} {kk : Nat} {tpos : Pos} (a e it : Addr) :
    Turn P w K (.Tuple elts kk tpos) (Ite K a) [e, it] e (fun i h => (∃ old, IsEnum h e it ((i : Nat) : Int) old) ∧ h.IsListIter it a i ∧ e ≠ it) where
  mem := by simp
  obj := fun i h st b hb => by
    obtain ⟨⟨old, he⟩, ⟨o, ho, hc, hd⟩, _⟩ := st
    have e' : b = e ∨ b = it := by simpa using hb
    rcases e' with z | z
    · rw [z]; exact ⟨_, he, fun v q => nomatch q⟩
    · rw [z]; exact ⟨o, ho, fun v q => by rw [hd] at q; cases q⟩
  keep := fun i h h' st k => let ⟨⟨old, he⟩, hi, hne⟩ := st; ⟨⟨old, k e (by simp) _ he⟩, hi.at fun o q => k it (by simp) o q, hne⟩
  item := by
    intro X hP hw hK hc i pins s σ H E I hf st hg
    subst hP hw hK
    obtain ⟨⟨old, he⟩, hit, hne⟩ := st
    obtain ⟨xs, x, hq, hx⟩ := hg
    obtain ⟨its, rv, p, hz⟩ := I.list hq
    obtain ⟨u, hu, ru⟩ := rv.get hx
    have hel : e < s.heap.objs.size := Heap.lt_size he
    have hil : it < s.heap.objs.size := by obtain ⟨_, q, _⟩ := hit; exact Heap.lt_size q
    refine wpAny_pyNext_enum_item he hit p.isList (x := u) (by simpa using hu) hne fun h' ho hit' hT hsz hk => ?_
    refine ⟨_, rfl, wpAny_letOwnedTupleGo_enum (s := { s with heap := h', toks := s.toks + 1 }) ho fun h'' he' sb => ?_⟩
    have hT2 : h''.get? s.heap.objs.size = some { cls := .type "tuple", data := .seq #[.int i s.toks, u] } := (sb.2 _ (Nat.ne_of_gt hel)).trans hT
    have new : ObjOk X.prog X.w (upd H s.heap.objs.size (.tup [.int (i : Nat), x])) h'' s.heap.objs.size (.tup [.int (i : Nat), x]) :=
      ⟨by show 2 ≤ sizeLine; decide, [.int i s.toks, u], .cons ⟨_, rfl⟩ (.cons ru .nil), ⟨_, hT2, rfl, _, rfl⟩⟩
    have I1 : Inv X pins σ (upd H s.heap.objs.size (.tup [.int (i : Nat), x])) { s with heap := h'', toks := s.toks + 1 } :=
      I.turnedNew (ch := [e, it]) (fun b ob hb q => (sb.2 b (fun z => hb (by simp [z]))).trans (hk b ob (fun z => hb (by simp [z])) (fun z => hb (by simp [z])) q)) hf (Nat.le_refl _) new
    refine ⟨.ref s.heap.objs.size, _, I1, rfl, ⟨_, x, rfl, I.hok.fresh (Nat.le_refl _), rfl, fun ys hy => by rw [I.list_inj hy hq]; exact hx⟩, ⟨⟨u, ?_⟩, hit'.at fun o q => (sb.2 it (Ne.symm hne)).trans q, hne⟩, fun b hb => ?_⟩
    · have e1 : ((i + 1 : Nat) : Int) = (i : Int) + 1 := by omega
      rw [e1]; exact he'
    · have hb' : b < s.heap.objs.size := by
        have e' : b = e ∨ b = it := by simpa using hb
        rcases e' with z | z
        · rw [z]; exact hel
        · rw [z]; exact hil
      rw [upd_ne (Nat.ne_of_lt hb')]
      exact (hf b hb).1
  done := by
    intro X hP hw hK hc i pins s σ H E I hf st hg
    subst hP hw hK
    obtain ⟨⟨old, he⟩, hit, hne⟩ := st
    obtain ⟨xs, hq, hx⟩ := hg
    obtain ⟨its, rv, p, hz⟩ := I.list hq
    obtain ⟨f0, f1, f2, f3, f4, f5⟩ := hf it (by simp)
    have hl := rv.length
    exact wpAny_pyNext_enum_end (I.ok.hd hc) he hit p.isList (by simp; omega) fun h' eb => ⟨rfl, I.turned (t' := s.toks) (fun b o hb q => eb b o hb q) f0 f1 f3 f4 f5⟩
  self := fun A i s Q E st h => let ⟨⟨_, he⟩, _⟩ := st; wpAny_pyIter_enum he h
def iEnum (K : PySem.W.Frag) (ta : TA) : TI := fun σ H R => ta σ H fun vs H1 => ∃ a xs, vs = [.ref a] ∧ SqL K H1 a xs ∧ R (Ite K a) H1
theorem pi_enum {X : Cx} {e : Expr} {ta : TA} {p pos tpos : Pos} {elts : List Expr} {kk : Nat} (hg : Gl X "enumerate") (hm : X.mg "enumerate" = none) (ha : PA X [e] ta) (hs : starEach [e] X.env = [(false, eval e X.env)] := by rfl) :
    PI X (.Tuple elts kk tpos) (.Call (.Name "enumerate" p) [e] [] pos) (iEnum X.K ta) := by
  intro pins s σ H R I h
  refine Call_ (ld_blt I hg hm boot_enumerate (PyProof.Rows.callWith_type1 (thn (ha pos pins s σ H _ I h) fun us s1 ⟨vs, H1, I1, r1, q1⟩ => ?_) hs rfl))
  obtain ⟨a, xs, ex, hq, q⟩ := q1
  subst ex
  cases r1 with
  | cons r rr =>
    cases rr
    cases r
    obtain ⟨its, rv, p', hz⟩ := I1.list hq
    refine call_enumerate_list p'.isList fun h' he hit hsz hk => wpAny_pyIter_enum he ?_
    have I2 : Inv X pins σ H1 { s1 with heap := h' } := I1.kept (t' := s1.toks) hk
    refine ⟨s1.heap.objs.size + 1, [s1.heap.objs.size + 1, s1.heap.objs.size], _, _, H1, rfl, I2, turn_enum a (s1.heap.objs.size + 1) s1.heap.objs.size, ⟨⟨.none, he⟩, hit, Nat.succ_ne_self _⟩, fun b hb => ?_, q⟩
    have e' : b = s1.heap.objs.size + 1 ∨ b = s1.heap.objs.size := by simpa using hb
    have hle : s1.heap.objs.size ≤ b := by
      rcases e' with z | z
      · rw [z]; exact Nat.le_add_right _ _
      · rw [z]; exact Nat.le_refl _
    exact I1.fpOk hle (I1.hok.fresh hle)
end L2
section 
namespace Bits
open PySem PyProof.Rows
end Bits
end 
section 
namespace TL
open PySem PySem.Builtin PySem.Builtin.Str PySem.StrLaws
end TL
end 
namespace L2
open PySem PySem.Spec PyProof.Rows
section
variable {X : Cx} {pins : List (Addr × Obj)} {σ : St} {H : Hp} {s : Shared} {Q : VK}
end
section
variable {X : Cx}
end
section
variable {X : Cx} {o e : Expr} {to te : TE}
end
end L2
namespace L2
open PySem PySem.Spec PyProof.Rows
section
variable {X : Cx}
end
end L2
namespace Att
open PySem PySem.W PySem.Calls PyProof.Rows
section
variable {prog : Program} {w : World} {A : Around} {E : Value → Shared → Prop} {s : Shared} {K : Frag}
end
end Att
namespace L2
open PySem PySem.Spec PyProof.Rows
end L2
namespace L2
open PySem PySem.Spec PyProof.Rows
end L2
namespace L2
open PySem PySem.Spec PyProof.Rows
def inClass (s : Stmt) (j : Nat) : Stmt := match s with
  | .ClassDef _ _ _ body _ _ _ _ _ _ _ => body.getD j (.Pass ⟨0, 0, 0, 0⟩)
  | _ => .Pass ⟨0, 0, 0, 0⟩
def defArgs (s : Stmt) : Arguments := match s with
  | .FunctionDef _ a _ _ _ _ _ _ _ _ => a
  | _ => { posonlyargs := [], args := [], vararg := none, kwonlyargs := [], kw_defaults := [], kwarg := none, defaults := [] }
def defBody (s : Stmt) : List Stmt := match s with
  | .FunctionDef _ _ b _ _ _ _ _ _ _ => b
  | _ => []
def defScope (s : Stmt) : Scope := match s with
  | .FunctionDef _ _ _ _ _ _ sc _ _ _ => sc
  | _ => { kind := .function, names := [], isGenerator := false, isCoroutine := false }
abbrev CX0 : CXT := fun _ _ _ _ _ _ => False
abbrev E0 : XK := fun _ _ _ => False
theorem pass0 {X : Cx} : Passes CX0 X E0 := fun _ _ _ _ _ _ _ h => h.elim
structure Fun (K : PySem.W.Frag) (x qual : Str) (st : Stmt) (f : Addr) (fd : FuncData) : Prop where
  ex : ∃ (oc : Value) (od : Option Addr) (kV doc pm : Value) (an : Option Addr) (cdv ct : Value) (osl : Array (Option Value)),
    fd = PySem.W.fnOf x qual (defArgs st) (defBody st) (defScope st) .none kV doc pm an cdv ct ∧ K.lookup f = some ⟨oc, od, .func fd, osl⟩ ∧ PySem.W.codeIn K cdv qual = true
  kp : PySem.W.keepIn K (.ref f) = true
section
variable {P : Program} {w : World} {K : PySem.W.Frag} {mg : Str → Option Value} {base : Heap}
theorem Fun.ok {x qual : Str} {st : Stmt} {f : Addr} {fd : FuncData} {N ps : List Str} {k : Nat} {sp : Sp} (F : Fun K x qual st f fd) (S : FnScope N ps (defScope st)) (len : ∀ vs H Q E, sp vs H Q E → vs.length = ps.length)
    (hbody : ∀ (cdv : Value) (A : Around) (outer : List Env) (s : Shared) (H : Hp) (vs : List V) (Q : VK) (E : XK), Room k (A.deeper (envOfC qual (defScope st) s.heap.objs.size f cdv)) → sp vs H Q E →
      ∃ t, PSs (cxOf CX0 P w K mg base N qual (defScope st) f cdv A outer s H E).nox (defBody st) t ∧ t { nx := fun _ H' => Q .non H', rt := Q } (start N vs) H) : FnOk P w K mg base CX0 (k + 1) f fd ps sp := by
  obtain ⟨oc, od, kV, doc, pm, an, cdv, ct, osl, rfl, lk, hcd⟩ := F.ex
  refine fn_of lk hcd S len fun A outer s H vs Q E hr hsp => ?_
  obtain ⟨t, h, q⟩ := hbody cdv A outer s H vs Q E hr hsp
  exact ⟨t, h.nox, q⟩
theorem Fun.binds {x qual : Str} {st : Stmt} {f : Addr} {fd : FuncData} {ps : List Str} (F : Fun K x qual st f fd)
    (h : ∀ (kV doc pm : Value) (an : Option Addr) (cdv ct : Value) (us : List Value), us.length = ps.length → bindArgs (PySem.W.fnOf x qual (defArgs st) (defBody st) (defScope st) .none kV doc pm an cdv ct) ⟨us, []⟩ = pure (ps.zip us)) : Binds K fd ps [] := by
  obtain ⟨oc, od, kV, doc, pm, an, cdv, ct, osl, rfl, lk, hcd⟩ := F.ex
  exact .all (h kV doc pm an cdv ct)
theorem fun_mk {x qual : Str} {st : Stmt} {f : Addr} {oc : Value} {od an : Option Addr} {osl : Array (Option Value)} {kV doc pm cdv ct : Value} (l : K.lookup f = some ⟨oc, od, .func (PySem.W.fnOf x qual (defArgs st) (defBody st) (defScope st) .none kV doc pm an cdv ct), osl⟩)
    (c : PySem.W.codeIn K cdv qual = true) (k : PySem.W.keepIn K (.ref f) = true) : Fun K x qual st f (PySem.W.fnOf x qual (defArgs st) (defBody st) (defScope st) .none kV doc pm an cdv ct) := ⟨⟨oc, od, kV, doc, pm, an, cdv, ct, osl, rfl, l, c⟩, k⟩
end
section
variable {X : Cx}
theorem pv (i : Nat) {x : Str} {pos : Pos} (hN : X.N[i]? = some x := by rfl) (hv : Vis X.env.scope x := by first | exact Or.inl rfl | exact Or.inr (Or.inl rfl) | exact Or.inr (Or.inr rfl)) (hd : (x == ("__debug__" : Str)) = false := by decide)
    (hcd : (x == ("__classdict__" : Str)) = false := by decide) : PE X (.Name x pos) (tVar i) := pe_var hN hv hd hcd
end
theorem iteF {A B : Prop} (h : B) : if false = true then A else B := by
  rw [if_neg Bool.false_ne_true]
  exact h
theorem iteT {A B : Prop} (h : A) : if true = true then A else B := by
  rw [if_pos rfl]
  exact h
def Same (H H' : Hp) : Prop := ∀ b o, H b = some o → H' b = some o
theorem Same.trans {H H1 H2 : Hp} (a : Same H H1) (b : Same H1 H2) : Same H H2 := fun c o h => b c o (a c o h)
theorem Same.free {H H' : Hp} (e : Same H H') {l : Addr} (h : H' l = Option.none) : H l = Option.none := by
  cases q : H l with
  | none => rfl
  | some o =>
    rw [e l o q] at h
    cases h
theorem Same.seq {K : PySem.W.Frag} {H H' : Hp} {a : Addr} {xs : List V} (e : Same H H') (h : SqL K H a xs) : SqL K H' a xs := by
  rcases h with (h | ⟨o, h⟩) | h
  · exact .inl (.inl (e _ _ h))
  · exact .inl (.inr ⟨o, e _ _ h⟩)
  · exact .inr h
section
variable {κ : Type} [DecidableEq κ]
end
theorem at_of {xs : List V} {z : Int} {j : Nat} {v : V} (e : z = (j : Int)) (h : xs[j]? = some v) : atI xs z = some v := by
  rw [e]
  exact atI_nat h
theorem nd_ix {α : Type} {l : List α} (hN : l.Nodup) {i j : Nat} {x : α} (a : l[i]? = some x) (b : l[j]? = some x) : i = j := by
  obtain ⟨h1, e1⟩ := List.getElem?_eq_some_iff.mp a
  obtain ⟨h2, e2⟩ := List.getElem?_eq_some_iff.mp b
  exact (List.getElem_inj hN).mp (e1.trans e2.symm)
theorem Same.made {H H1 : Hp} {x dx C : Addr} (nx : H x = Option.none) (nd : H dx = Option.none) (k : ∀ b o, (upd (upd H dx (.own x)) x (.ins C dx [])) b = some o → b ≠ x → H1 b = some o) : Same H H1 := fun b o e =>
  k b o (by rw [upd_ne (ne_of_none e nx), upd_ne (ne_of_none e nd)]; exact e) (ne_of_none e nx)
end L2
end
section
section
set_option Elab.async false
set_option linter.all false
set_option maxRecDepth 100000
set_option maxHeartbeats 2000000
namespace L2
open PySem PySem.Spec PyProof.Rows
open PySem.W (WData Codec OpenSpec Well WellAll ReadsW ReadsAllW)
mutual
/-- x stands for the datum d, lists and tuples all the way -/
inductive Dw (K : PySem.W.Frag) (H : Hp) : V → WData → Prop
  | non : Dw K H .non .none
  | bl (b : Bool) : Dw K H (.bl b) (.bool b)
  | int (i : Int) : Dw K H (.int i) (.int i)
  | str (x : Str) : Dw K H (.str x) (.str x)
  | byt (b : Array UInt8) : Dw K H (.byt b) (.bytes b.toList)
  | lst {a : Addr} {xs : List V} {ds : List WData} : SqL K H a xs → DwAll K H xs ds → Dw K H (.ref a) (.list ds)
  | tup {a : Addr} {xs : List V} {ds : List WData} : SqT K H a xs → DwAll K H xs ds → Dw K H (.ref a) (.tuple ds)
inductive DwAll (K : PySem.W.Frag) (H : Hp) : List V → List WData → Prop
  | nil : DwAll K H [] []
  | cons {v : V} {vs : List V} {d : WData} {ds : List WData} : Dw K H v d → DwAll K H vs ds → DwAll K H (v :: vs) (d :: ds)
end
theorem dw_ints {K : PySem.W.Frag} {H : Hp} : ∀ ns : List Int, DwAll K H (ns.map V.int) (ns.map WData.int)
  | [] => .nil
  | n :: r => .cons (.int n) (dw_ints r)
theorem ints_dw {K : PySem.W.Frag} {H : Hp} : ∀ (ns : List Int) (xs : List V), DwAll K H xs (ns.map WData.int) → xs = ns.map V.int
  | [], xs, h => by
    cases h
    rfl
  | n :: r, xs, h => by
    cases h with
    | cons h1 h2 =>
      cases h1
      rw [ints_dw r _ h2] <;> rfl
section
variable {P : Program} {w : World} {K : PySem.W.Frag} {H : Hp} {h : Heap} {R : PySem.W.WRecords} {cl : Str → Option Addr}
theorem sqL_at {a : Addr} {xs : List V} (hok : HOk P w H h) (KX : K.In h) (q : SqL K H a xs) : ∃ (its : List Value) (o : Obj) (n : Nat), Vals xs its ∧ h.get? a = some o ∧ o.cls = .type "list" ∧ o.data = .seq its.toArray n := by
  rcases q with q | ⟨o, its, n, e, hc, _, hd, _, hv⟩
  · obtain ⟨_, its, n, hv, e⟩ := (show ObjOk P w H h a (.lst xs) from q.ok hok)
    exact ⟨its, _, n, hv, e, rfl, rfl⟩
  · exact ⟨its.toList, o, n, hv, KX _ _ e, hc, by simp [hd]⟩
theorem sqT_at {a : Addr} {xs : List V} (hok : HOk P w H h) (KX : K.In h) (q : SqT K H a xs) : ∃ (its : List Value) (o : Obj) (n : Nat), Vals xs its ∧ h.get? a = some o ∧ o.cls = .type "tuple" ∧ o.data = .seq its.toArray n := by
  rcases q with q | ⟨o, its, n, e, hc, hd, _, hv⟩
  · obtain ⟨_, its, hv, o, e, hc, n, hd⟩ := (show ObjOk P w H h a (.tup xs) from q.ok hok)
    exact ⟨its, o, n, hv, e, hc, hd⟩
  · exact ⟨its.toList, o, n, hv, KX _ _ e, hc, by simp [hd]⟩
mutual
theorem Dw.reads (hok : HOk P w H h) (KX : K.In h) : ∀ (d : WData) (v : V) (u : Value), Dw K H v d → RelV v u → ∃ as, ReadsW R cl h u d as
  | .none, _, _, x, r => by
    cases x
    cases r
    exact ⟨_, ReadsW.none⟩
  | .bool b, _, _, x, r => by
    cases x
    cases r
    exact ⟨_, ReadsW.bool b⟩
  | .int i, _, _, x, r => by
    cases x
    obtain ⟨t, rfl⟩ := r
    exact ⟨_, ReadsW.int i t⟩
  | .str s, _, _, x, r => by
    cases x
    obtain ⟨t, rfl⟩ := r
    exact ⟨_, ReadsW.str s t⟩
  | .bytes b, _, _, x, r => by
    cases x
    obtain ⟨t, rfl⟩ := r
    exact ⟨_, ReadsW.bytes _ t⟩
  | .list ds, _, _, x, r => by
    cases x with
    | lst hs ha =>
      cases r
      obtain ⟨its, o, n, rv, ho, hc, hd⟩ := sqL_at hok KX hs
      obtain ⟨as, hr⟩ := Dw.readsAll hok KX ds _ its ha rv
      exact ⟨_, ReadsW.list ho hc hd hr⟩
  | .tuple ds, _, _, x, r => by
    cases x with
    | tup hs ha =>
      cases r
      obtain ⟨its, o, n, rv, ho, hc, hd⟩ := sqT_at hok KX hs
      obtain ⟨as, hr⟩ := Dw.readsAll hok KX ds _ its ha rv
      exact ⟨_, ReadsW.tuple ho hc hd hr⟩
  | .float _, _, _, x, _ => by cases x
  | .dict _, _, _, x, _ => by cases x
  | .bytearray _, _, _, x, _ => by cases x
  | .set _, _, _, x, _ => by cases x
  | .frozenset _, _, _, x, _ => by cases x
  | .obj _ _, _, _, x, _ => by cases x
theorem Dw.readsAll (hok : HOk P w H h) (KX : K.In h) : ∀ (ds : List WData) (vs : List V) (us : List Value), DwAll K H vs ds → Vals vs us → ∃ as, ReadsAllW R cl h us ds as
  | [], _, _, x, r => by
    cases x
    cases r
    exact ⟨_, ReadsAllW.nil⟩
  | d :: ds, _, _, x, r => by
    cases x with
    | cons h1 h2 =>
      cases r with
      | cons r1 r2 =>
        obtain ⟨as, q1⟩ := Dw.reads hok KX d _ _ h1 r1
        obtain ⟨bs, q2⟩ := Dw.readsAll hok KX ds _ _ h2 r2
        exact ⟨_, ReadsAllW.cons q1 q2⟩
end
end
mutual
/-- data that a codec tells -/
def plW : WData → Bool
  | .none => true
  | .bool _ => true
  | .int _ => true
  | .str _ => true
  | .bytes _ => true
  | .list xs => plWs xs
  | .tuple xs => plWs xs
  | _ => false
def plWs : List WData → Bool
  | [] => true
  | x :: r => plW x && plWs r
end
theorem plWs_map {α : Type} {f : α → WData} (h : ∀ a, plW (f a) = true) : ∀ l : List α, plWs (l.map f) = true
  | [] => rfl
  | x :: r => by
    show (plW (f x) && plWs (r.map f)) = true
    rw [h x, plWs_map h r] <;> rfl
theorem pl_enc : ∀ (c : Codec) (a : c.denote), plW (c.enc a) = true
  | .unit, _ => rfl
  | .bool, _ => rfl
  | .int _ _, _ => rfl
  | .nat _ _, _ => rfl
  | .u8, _ => rfl
  | .bytes _ _, _ => rfl
  | .text _ _ _ _, _ => rfl
  | .list _ _ c, a => plWs_map (fun x => pl_enc c x) a
  | .pair c d, a => by
    show (plW (c.enc a.1) && (plW (d.enc a.2) && true)) = true
    rw [pl_enc c a.1, pl_enc d a.2] <;> rfl
  | .triple c d e, a => by
    show (plW (c.enc a.1) && (plW (d.enc a.2.1) && (plW (e.enc a.2.2) && true))) = true
    rw [pl_enc c a.1, pl_enc d a.2.1, pl_enc e a.2.2] <;> rfl
  | .option c, none => rfl
  | .option c, some x => pl_enc c x
theorem pl_encAll : ∀ (cs : List Codec) (a : Codec.denoteAll cs), plWs (Codec.encAll cs a) = true
  | [], _ => rfl
  | c :: cs, a => by
    show (plW (c.enc a.1) && plWs (Codec.encAll cs a.2)) = true
    rw [pl_enc c a.1, pl_encAll cs a.2] <;> rfl
theorem weight_mem : ∀ {xs : List WData} {d : WData}, d ∈ xs → d.weight ≤ WData.weightAll xs
  | [], d, h => absurd h (by simp)
  | x :: r, d, h => by
    show d.weight ≤ x.weight + 1 + WData.weightAll r
    rcases List.mem_cons.mp h with e | m
    · rw [e]
      omega
    · have z := weight_mem m
      omega
def toV : Value → V
  | .none => .non
  | .bool b => .bl b
  | .int i _ => .int i
  | .str x _ => .str x
  | .bytes b _ => .byt b
  | .ref a => .ref a
  | _ => .non
def OkU (A : List Addr) : Value → Prop
  | .none => True
  | .bool _ => True
  | .int _ _ => True
  | .str _ _ => True
  | .bytes _ _ => True
  | .ref a => a ∈ A
  | _ => False
theorem OkU.mono {A B : List Addr} (h : ∀ a ∈ A, a ∈ B) : ∀ {u : Value}, OkU A u → OkU B u := fun {u} x => by
  cases u with
  | ref a => exact h a x
  | none => trivial
  | bool b => trivial
  | int i t => trivial
  | str s t => trivial
  | bytes b t => trivial
  | _ => exact False.elim x
theorem relV_toV {A : List Addr} {u : Value} (x : OkU A u) : RelV (toV u) u := by
  cases u with
  | ref a => rfl
  | none => rfl
  | bool b => rfl
  | int i t => exact ⟨t, rfl⟩
  | str s t => exact ⟨t, rfl⟩
  | bytes b t => exact ⟨t, rfl⟩
  | _ => exact False.elim x
theorem vals_toV {A : List Addr} : ∀ {vs : List Value}, (∀ u ∈ vs, OkU A u) → Vals (vs.map toV) vs
  | [], _ => .nil
  | u :: r, h => .cons (relV_toV (h u (List.mem_cons_self ..))) (vals_toV fun x hx => h x (List.mem_cons_of_mem _ hx))
def ArgOb (h : Heap) (A : List Addr) (a : Addr) : Prop := ∃ vs : List Value, vs.length ≤ sizeLine ∧ (∀ u ∈ vs, OkU A u) ∧
  (h.get? a = some { cls := .type "list", data := .seq vs.toArray } ∨ h.get? a = some { cls := .type "tuple", data := .seq vs.toArray })
theorem ArgOb.mono {h : Heap} {A B : List Addr} {a : Addr} (k : ∀ a ∈ A, a ∈ B) (x : ArgOb h A a) : ArgOb h B a := by
  obtain ⟨vs, h1, h2, h3⟩ := x
  exact ⟨vs, h1, fun u hu => (h2 u hu).mono k, h3⟩
theorem wellAll_len {P : Params} {h : Heap} : ∀ {vs : List Value} {ds : List WData}, WellAll P h vs ds → vs.length = ds.length
  | _, _, .nil => rfl
  | _, _, .cons _ b => by
    show _ + 1 = _ + 1
    rw [wellAll_len b]
theorem well_list {P : Params} {h : Heap} {v : Value} {ds : List WData} (x : Well P h v (.list ds)) : ∃ (a : Addr) (vs : List Value), v = .ref a ∧ h.get? a = some { cls := .type "list", data := .seq vs.toArray } ∧ WellAll P h vs ds := by
  cases x with
  | list ho hall => exact ⟨_, _, rfl, ho, hall⟩
theorem well_tuple {P : Params} {h : Heap} {v : Value} {ds : List WData} (x : Well P h v (.tuple ds)) : ∃ (a : Addr) (vs : List Value), v = .ref a ∧ h.get? a = some { cls := .type "tuple", data := .seq vs.toArray } ∧ WellAll P h vs ds := by
  cases x with
  | tuple ho hall => exact ⟨_, _, rfl, ho, hall⟩
theorem well_cons {P : Params} {h : Heap} {us : List Value} {d : WData} {ds : List WData} (x : WellAll P h us (d :: ds)) : ∃ (v : Value) (vs : List Value), us = v :: vs ∧ Well P h v d ∧ WellAll P h vs ds := by
  cases x with
  | cons a b => exact ⟨_, _, rfl, a, b⟩
theorem line_of {n : Nat} (h : n ≤ 1048576) : n ≤ sizeLine := Nat.le_trans h (by decide)
section
variable {P : Params} {h : Heap}
mutual
theorem area_one : ∀ (d : WData) (v : Value), Well P h v d → plW d = true → d.weight ≤ 1048576 → ∃ A : List Addr, OkU A v ∧ ∀ a ∈ A, ArgOb h A a
  | .none, _, x, _, _ => by
    cases x
    exact ⟨[], trivial, fun a m => absurd m (by simp)⟩
  | .bool b, _, x, _, _ => by
    cases x
    exact ⟨[], trivial, fun a m => absurd m (by simp)⟩
  | .int i, _, x, _, _ => by
    cases x
    exact ⟨[], trivial, fun a m => absurd m (by simp)⟩
  | .str s, _, x, _, _ => by
    cases x
    exact ⟨[], trivial, fun a m => absurd m (by simp)⟩
  | .bytes b, _, x, _, _ => by
    cases x
    exact ⟨[], trivial, fun a m => absurd m (by simp)⟩
  | .list ds, _, x, p, z => by
    obtain ⟨a, vs, rfl, ho, hall⟩ := well_list x
    have z2 : WData.weightAll ds ≤ 1048576 := z
    obtain ⟨A, h1, h2⟩ := area_all ds _ hall p fun d hd => Nat.le_trans (weight_mem hd) z2
    have k : ∀ b ∈ A, b ∈ a :: A := fun b hb => List.mem_cons_of_mem _ hb
    refine ⟨a :: A, List.mem_cons_self .., fun b hb => ?_⟩
    rcases List.mem_cons.mp hb with e | m
    · rw [e]
      exact ⟨vs, line_of (by rw [wellAll_len hall]; exact Nat.le_trans (PySem.W.length_le_weightAllW ds) z2), fun u hu => (h1 u hu).mono k, .inl ho⟩
    · exact (h2 b m).mono k
  | .tuple ds, _, x, p, z => by
    obtain ⟨a, vs, rfl, ho, hall⟩ := well_tuple x
    have z2 : WData.weightAll ds ≤ 1048576 := z
    obtain ⟨A, h1, h2⟩ := area_all ds _ hall p fun d hd => Nat.le_trans (weight_mem hd) z2
    have k : ∀ b ∈ A, b ∈ a :: A := fun b hb => List.mem_cons_of_mem _ hb
    refine ⟨a :: A, List.mem_cons_self .., fun b hb => ?_⟩
    rcases List.mem_cons.mp hb with e | m
    · rw [e]
      exact ⟨vs, line_of (by rw [wellAll_len hall]; exact Nat.le_trans (PySem.W.length_le_weightAllW ds) z2), fun u hu => (h1 u hu).mono k, .inr ho⟩
    · exact (h2 b m).mono k
  | .float _, _, _, p, _ => Bool.noConfusion (show false = true from p)
  | .dict _, _, _, p, _ => Bool.noConfusion (show false = true from p)
  | .bytearray _, _, _, p, _ => Bool.noConfusion (show false = true from p)
  | .set _, _, _, p, _ => Bool.noConfusion (show false = true from p)
  | .frozenset _, _, _, p, _ => Bool.noConfusion (show false = true from p)
  | .obj _ _, _, _, p, _ => Bool.noConfusion (show false = true from p)
theorem area_all : ∀ (ds : List WData) (vs : List Value), WellAll P h vs ds → plWs ds = true → (∀ d ∈ ds, d.weight ≤ 1048576) → ∃ A : List Addr, (∀ u ∈ vs, OkU A u) ∧ ∀ a ∈ A, ArgOb h A a
  | [], _, x, _, _ => by
    cases x
    exact ⟨[], fun u m => absurd m (by simp), fun a m => absurd m (by simp)⟩
  | d :: ds, _, x, p, z => by
    obtain ⟨v, vs, rfl, x1, x2⟩ := well_cons x
    have q : plW d = true ∧ plWs ds = true := Bool.and_eq_true_iff.mp p
    obtain ⟨A, a1, a2⟩ := area_one d v x1 q.1 (z d (List.mem_cons_self ..))
    obtain ⟨B, b1, b2⟩ := area_all ds vs x2 q.2 fun e he => z e (List.mem_cons_of_mem _ he)
    have kA : ∀ b ∈ A, b ∈ A ++ B := fun b hb => List.mem_append.mpr (.inl hb)
    have kB : ∀ b ∈ B, b ∈ A ++ B := fun b hb => List.mem_append.mpr (.inr hb)
    refine ⟨A ++ B, fun u hu => ?_, fun b hb => ?_⟩
    · rcases List.mem_cons.mp hu with e | m
      · rw [e]
        exact a1.mono kA
      · exact (b1 u m).mono kB
    · rcases List.mem_append.mp hb with m | m
      · exact (a2 b m).mono kA
      · exact (b2 b m).mono kB
end
end
def hoOf (o : Obj) : Option HO := match o.data with
  | .seq vs _ => if (o.cls == Value.type "list") = true then some (.frz o (.lst (vs.toList.map toV))) else some (.frz o (.tup (vs.toList.map toV)))
  | _ => none
def argH (K : PySem.W.Frag) (h : Heap) (A : List Addr) : Hp := fun b => if b ∈ A then (if (K.lookup b).isNone = true then (h.get? b).bind hoOf else none) else none
def OnlyF (H : Hp) : Prop := ∀ b, H b = none ∨ ∃ o u, H b = some (.frz o u)
theorem hoOf_lst (vs : List Value) : hoOf { cls := .type "list", data := .seq vs.toArray } = some (.frz { cls := .type "list", data := .seq vs.toArray } (.lst (vs.map toV))) := by
  show (if (Value.type "list" == Value.type "list") = true then some (HO.frz { cls := .type "list", data := .seq vs.toArray } (.lst (vs.toArray.toList.map toV))) else some (HO.frz { cls := .type "list", data := .seq vs.toArray } (.tup (vs.toArray.toList.map toV)))) = _
  rw [if_pos (beq_self_eq_true _)]
theorem hoOf_tup (vs : List Value) : hoOf { cls := .type "tuple", data := .seq vs.toArray } = some (.frz { cls := .type "tuple", data := .seq vs.toArray } (.tup (vs.map toV))) := by
  show (if (Value.type "tuple" == Value.type "list") = true then some (HO.frz { cls := .type "tuple", data := .seq vs.toArray } (.lst (vs.toArray.toList.map toV))) else some (HO.frz { cls := .type "tuple", data := .seq vs.toArray } (.tup (vs.toArray.toList.map toV)))) = _
  rw [if_neg (by decide)]
section
variable {P : Program} {w : World} {K : PySem.W.Frag} {h : Heap} {A : List Addr}
theorem argH_at {b : Addr} {o : Obj} (hb : b ∈ A) (hk : K.lookup b = none) (e : h.get? b = some o) : argH K h A b = hoOf o := by
  unfold argH
  rw [if_pos hb, hk, if_pos (show (none : Option Obj).isNone = true from rfl), e] <;> rfl
theorem of_argH {b : Addr} {u : HO} (q : argH K h A b = some u) : b ∈ A ∧ K.lookup b = none := by
  unfold argH at q
  by_cases hb : b ∈ A
  · rw [if_pos hb] at q
    cases hk : K.lookup b with
    | none => exact ⟨hb, rfl⟩
    | some o =>
      rw [hk, if_neg (by simp)] at q
      cases q
  · rw [if_neg hb] at q
    cases q
theorem argH_is (ar : ∀ a ∈ A, ArgOb h A a) {b : Addr} {u : HO} (q : argH K h A b = some u) : K.lookup b = none ∧ ∃ vs : List Value, vs.length ≤ sizeLine ∧ (∀ u ∈ vs, OkU A u) ∧
    ((h.get? b = some { cls := .type "list", data := .seq vs.toArray } ∧ u = .frz { cls := .type "list", data := .seq vs.toArray } (.lst (vs.map toV))) ∨
     (h.get? b = some { cls := .type "tuple", data := .seq vs.toArray } ∧ u = .frz { cls := .type "tuple", data := .seq vs.toArray } (.tup (vs.map toV)))) := by
  obtain ⟨hb, hk⟩ := of_argH q
  obtain ⟨vs, h1, h2, h3⟩ := ar b hb
  refine ⟨hk, vs, h1, h2, ?_⟩
  rcases h3 with e | e
  · rw [argH_at hb hk e, hoOf_lst] at q
    exact .inl ⟨e, (Option.some.inj q).symm⟩
  · rw [argH_at hb hk e, hoOf_tup] at q
    exact .inr ⟨e, (Option.some.inj q).symm⟩
theorem argH_only (ar : ∀ a ∈ A, ArgOb h A a) : OnlyF (argH K h A) := fun b => by
  cases q : argH K h A b with
  | none => exact .inl rfl
  | some u =>
    obtain ⟨_, vs, _, _, ⟨_, e⟩ | ⟨_, e⟩⟩ := argH_is ar q
    · exact .inr ⟨_, _, by rw [e]⟩
    · exact .inr ⟨_, _, by rw [e]⟩
theorem argH_ok (ar : ∀ a ∈ A, ArgOb h A a) : HOk P w (argH K h A) h := fun b u q => by
  obtain ⟨_, vs, h1, h2, ⟨e, rfl⟩ | ⟨e, rfl⟩⟩ := argH_is ar q
  · exact ⟨e, by rw [List.length_map]; exact h1, vs, _, vals_toV h2, e⟩
  · exact ⟨e, by rw [List.length_map]; exact h1, vs, vals_toV h2, _, e, rfl, _, rfl⟩
theorem seq_inj {c c' : Value} {vs us : List Value} (e : (some { cls := c, data := .seq vs.toArray } : Option Obj) = some { cls := c', data := .seq us.toArray }) : c = c' ∧ vs = us := by
  have e1 := Option.some.inj e
  have e2 : c = c' := congrArg Obj.cls e1
  have e3 : Data.seq vs.toArray = Data.seq us.toArray := congrArg Obj.data e1
  injection e3 with e4
  refine ⟨e2, ?_⟩
  have e5 := congrArg Array.toList e4
  simpa using e5
theorem argL (KX : K.In h) (ar : ∀ a ∈ A, ArgOb h A a) {a : Addr} {vs : List Value} (ha : a ∈ A) (e : h.get? a = some { cls := .type "list", data := .seq vs.toArray }) : (∀ u ∈ vs, OkU A u) ∧ SqL K (argH K h A) a (vs.map toV) := by
  obtain ⟨us, h1, h2, h3⟩ := ar a ha
  have hu : us = vs := by
    rcases h3 with q | q
    · rw [e] at q
      exact (seq_inj q).2.symm
    · rw [e] at q
      exact absurd (Value.type.inj (seq_inj q).1) (by decide)
  subst hu
  refine ⟨h2, ?_⟩
  cases hk : K.lookup a with
  | none => exact .inl (.inr ⟨_, by rw [argH_at ha hk e, hoOf_lst]⟩)
  | some o =>
    have e2 := KX a o hk
    rw [e] at e2
    obtain rfl := Option.some.inj e2
    exact .inr ⟨_, us.toArray, _, hk, rfl, rfl, rfl, by rw [List.size_toArray]; exact h1, by simpa using vals_toV h2⟩
theorem argT (KX : K.In h) (ar : ∀ a ∈ A, ArgOb h A a) {a : Addr} {vs : List Value} (ha : a ∈ A) (e : h.get? a = some { cls := .type "tuple", data := .seq vs.toArray }) : (∀ u ∈ vs, OkU A u) ∧ SqT K (argH K h A) a (vs.map toV) := by
  obtain ⟨us, h1, h2, h3⟩ := ar a ha
  have hu : us = vs := by
    rcases h3 with q | q
    · rw [e] at q
      exact absurd (Value.type.inj (seq_inj q).1) (by decide)
    · rw [e] at q
      exact (seq_inj q).2.symm
  subst hu
  refine ⟨h2, ?_⟩
  cases hk : K.lookup a with
  | none => exact .inl (.inr ⟨_, by rw [argH_at ha hk e, hoOf_tup]⟩)
  | some o =>
    have e2 := KX a o hk
    rw [e] at e2
    obtain rfl := Option.some.inj e2
    exact .inr ⟨_, us.toArray, _, hk, rfl, rfl, by rw [List.size_toArray]; exact h1, by simpa using vals_toV h2⟩
mutual
theorem dw_one {Pm : Params} (KX : K.In h) (ar : ∀ a ∈ A, ArgOb h A a) : ∀ (d : WData) (v : Value), Well Pm h v d → plW d = true → OkU A v → Dw K (argH K h A) (toV v) d
  | .none, _, x, _, _ => by
    cases x
    exact .non
  | .bool b, _, x, _, _ => by
    cases x
    exact .bl b
  | .int i, _, x, _, _ => by
    cases x
    exact .int i
  | .str s, _, x, _, _ => by
    cases x
    exact .str s
  | .bytes b, _, x, _, _ => by
    cases x
    have z := Dw.byt (K := K) (H := argH K h A) b.toArray
    exact z
  | .list ds, _, x, p, hu => by
    obtain ⟨a, vs, rfl, ho, hall⟩ := well_list x
    obtain ⟨h2, hs⟩ := argL KX ar hu ho
    exact .lst hs (dw_all KX ar ds _ hall p h2)
  | .tuple ds, _, x, p, hu => by
    obtain ⟨a, vs, rfl, ho, hall⟩ := well_tuple x
    obtain ⟨h2, hs⟩ := argT KX ar hu ho
    exact .tup hs (dw_all KX ar ds _ hall p h2)
  | .float _, _, _, p, _ => Bool.noConfusion (show false = true from p)
  | .dict _, _, _, p, _ => Bool.noConfusion (show false = true from p)
  | .bytearray _, _, _, p, _ => Bool.noConfusion (show false = true from p)
  | .set _, _, _, p, _ => Bool.noConfusion (show false = true from p)
  | .frozenset _, _, _, p, _ => Bool.noConfusion (show false = true from p)
  | .obj _ _, _, _, p, _ => Bool.noConfusion (show false = true from p)
theorem dw_all {Pm : Params} (KX : K.In h) (ar : ∀ a ∈ A, ArgOb h A a) : ∀ (ds : List WData) (vs : List Value), WellAll Pm h vs ds → plWs ds = true → (∀ u ∈ vs, OkU A u) → DwAll K (argH K h A) (vs.map toV) ds
  | [], _, x, _, _ => by
    cases x
    exact .nil
  | d :: ds, _, x, p, hu => by
    obtain ⟨v, vs, rfl, x1, x2⟩ := well_cons x
    have q : plW d = true ∧ plWs ds = true := Bool.and_eq_true_iff.mp p
    exact .cons (dw_one KX ar d v x1 q.1 (hu _ (List.mem_cons_self ..))) (dw_all KX ar ds vs x2 q.2 fun u m => hu u (List.mem_cons_of_mem _ m))
end
end
theorem layable_weight {ds : List WData} (h : WData.layableAll ds = true) : ∀ d ∈ ds, d.weight ≤ 1048576 := fun d hd =>
  (PySem.W.layableW_iff.mp (List.all_eq_true.mp h d hd)).2.2
theorem encAll_len : ∀ (cs : List Codec) (a : Codec.denoteAll cs), (Codec.encAll cs a).length = cs.length
  | [], _ => rfl
  | c :: cs, a => by
    show (Codec.encAll cs a.2).length + 1 = cs.length + 1
    rw [encAll_len cs a.2]
end L2
end
end
section
namespace My
open Kv365
theorem ahead_irrefl : ∀ l : List Nat, ahead l l = false
  | [] => rfl
  | x :: l => by simp [ahead, ahead_irrefl l]
theorem ahead_trans : ∀ {a b c : List Nat}, ahead a b = true → ahead b c = true → ahead a c = true
  | [], [], _, h, _ => by simp [ahead] at h
  | [], _ :: _, [], _, h => by simp [ahead] at h
  | [], _ :: _, _ :: _, _, _ => rfl
  | _ :: _, [], _, h, _ => by simp [ahead] at h
  | _ :: _, _ :: _, [], _, h => by simp [ahead] at h
  | x :: a, y :: b, z :: c, h, h' => by
    simp only [ahead, Bool.or_eq_true, Bool.and_eq_true, decide_eq_true_eq, beq_iff_eq] at h h' ⊢
    rcases h with h | ⟨h, k⟩ <;> rcases h' with h' | ⟨h', k'⟩
    · left; omega
    · left; omega
    · left; omega
    · right; exact ⟨by omega, ahead_trans k k'⟩
theorem ahead_total : ∀ (a b : List Nat), ahead a b = false → ahead b a = false → a = b
  | [], [], _, _ => rfl
  | [], _ :: _, h, _ => by simp [ahead] at h
  | _ :: _, [], _, h => by simp [ahead] at h
  | x :: a, y :: b, h, h' => by
    simp only [ahead, Bool.or_eq_false_iff, Bool.and_eq_false_iff, decide_eq_false_iff_not, beq_eq_false_iff_ne] at h h'
    have e : x = y := by omega
    subst e
    rcases h.2 with q | q
    · exact absurd rfl q
    · rcases h'.2 with q' | q'
      · exact absurd rfl q'
      · rw [ahead_total a b q q']
theorem ahead_cons (s : Nat) (a b : List Nat) : ahead (s :: a) (s :: b) = ahead a b := by simp [ahead]
def better (w : List Nat → Nat) (m c : List Nat) : Prop := w m < w c ∨ (w m = w c ∧ ahead m c = true)
instance (w : List Nat → Nat) (m c : List Nat) : Decidable (better w m c) := by unfold better; exact inferInstance
theorem better_irrefl (w : List Nat → Nat) (m : List Nat) : ¬ better w m m := by
  rintro (h | ⟨_, h⟩)
  · omega
  · rw [ahead_irrefl] at h; cases h
theorem better_trans {w : List Nat → Nat} {a b c : List Nat} (h : better w a b) (k : better w b c) : better w a c := by
  rcases h with h | ⟨h, h'⟩ <;> rcases k with k | ⟨k, k'⟩
  · left; omega
  · left; omega
  · left; omega
  · right; exact ⟨by omega, ahead_trans h' k'⟩
theorem better_total {w : List Nat → Nat} {a b : List Nat} (h : ¬ better w a b) (k : ¬ better w b a) : a = b := by
  unfold better at h k
  have e : w a = w b := by
    rcases Nat.lt_trichotomy (w a) (w b) with q | q | q
    · exact absurd (.inl q) h
    · exact q
    · exact absurd (.inl q) k
  refine ahead_total a b ?_ ?_
  · cases q : ahead a b with
    | false => rfl
    | true => exact absurd (.inr ⟨e, q⟩) h
  · cases q : ahead b a with
    | false => rfl
    | true => exact absurd (.inr ⟨e.symm, q⟩) k
theorem nbetter_trans {w : List Nat → Nat} {a b c : List Nat} (h : ¬ better w a b) (k : ¬ better w b c) : ¬ better w a c := by
  intro q
  by_cases e : better w b a
  · exact k (better_trans e q)
  · have := better_total h e
    subst this
    exact k q
def pick (w : List Nat → Nat) (b : Option (List Nat)) (m : List Nat) : Option (List Nat) := match b with
  | none => some m
  | some c => if w m < w c ∨ (w m = w c ∧ ahead m c = true) then some m else some c
theorem least_eq (w : List Nat → Nat) (ok : List Nat → Bool) (l : List (List Nat)) : least w ok l = (l.filter ok).foldl (pick w) none := rfl
theorem pick_fold (w : List Nat → Nat) : ∀ (l : List (List Nat)) (c : List Nat), ∃ m, l.foldl (pick w) (some c) = some m ∧ (m = c ∨ m ∈ l) ∧ ¬ better w c m ∧ ∀ x ∈ l, ¬ better w x m
  | [], c => ⟨c, rfl, .inl rfl, better_irrefl w c, fun _ h => nomatch h⟩
  | x :: l, c => by
    rw [List.foldl_cons]
    by_cases q : better w x c
    · have e : pick w (some c) x = some x := by
        unfold pick; exact if_pos q
      rw [e]
      obtain ⟨m, h1, h2, h3, h4⟩ := pick_fold w l x
      refine ⟨m, h1, .inr ?_, ?_, ?_⟩
      · rcases h2 with rfl | h2
        · exact List.mem_cons_self
        · exact List.mem_cons_of_mem _ h2
      · intro z
        exact h3 (better_trans q z)
      · intro y hy
        rcases List.mem_cons.mp hy with rfl | hy
        · exact h3
        · exact h4 y hy
    · have e : pick w (some c) x = some c := by
        unfold pick; exact if_neg q
      rw [e]
      obtain ⟨m, h1, h2, h3, h4⟩ := pick_fold w l c
      refine ⟨m, h1, ?_, h3, ?_⟩
      · rcases h2 with rfl | h2
        · exact .inl rfl
        · exact .inr (List.mem_cons_of_mem _ h2)
      · intro y hy
        rcases List.mem_cons.mp hy with rfl | hy
        · exact nbetter_trans q h3
        · exact h4 y hy
theorem least_none {w : List Nat → Nat} {ok : List Nat → Bool} {l : List (List Nat)} : least w ok l = none ↔ ∀ m ∈ l, ok m = false := by
  rw [least_eq]
  constructor
  · intro h m hm
    cases q : ok m with
    | false => rfl
    | true =>
      have : m ∈ l.filter ok := List.mem_filter.mpr ⟨hm, q⟩
      cases e : l.filter ok with
      | nil => rw [e] at this; cases this
      | cons x r =>
        rw [e, List.foldl_cons] at h
        obtain ⟨m', h1, _⟩ := pick_fold w r x
        have h2 : r.foldl (pick w) (some x) = none := h
        rw [h1] at h2; cases h2
  · intro h
    have e : l.filter ok = [] := List.filter_eq_nil_iff.mpr fun m hm => by rw [h m hm]; simp
    rw [e]; rfl
theorem least_some {w : List Nat → Nat} {ok : List Nat → Bool} {l : List (List Nat)} {m : List Nat} (h : least w ok l = some m) : m ∈ l ∧ ok m = true ∧ ∀ c ∈ l, ok c = true → ¬ better w c m := by
  rw [least_eq] at h
  cases e : l.filter ok with
  | nil => rw [e] at h; cases h
  | cons x r =>
    rw [e, List.foldl_cons] at h
    obtain ⟨m', h1, h2, h3, h4⟩ := pick_fold w r x
    have h5 : r.foldl (pick w) (some x) = some m := h
    rw [h1] at h5
    cases h5
    have hm : m ∈ l.filter ok := by
      rw [e]
      rcases h2 with rfl | h2
      · exact List.mem_cons_self
      · exact List.mem_cons_of_mem _ h2
    refine ⟨(List.mem_filter.mp hm).1, (List.mem_filter.mp hm).2, fun c hc hok => ?_⟩
    have hc' : c ∈ l.filter ok := List.mem_filter.mpr ⟨hc, hok⟩
    rw [e] at hc'
    rcases List.mem_cons.mp hc' with rfl | hc'
    · exact h3
    · exact h4 c hc'
theorem least_is {w : List Nat → Nat} {ok : List Nat → Bool} {l : List (List Nat)} {m : List Nat} (hm : m ∈ l) (hok : ok m = true) (hb : ∀ c ∈ l, ok c = true → ¬ better w c m) : least w ok l = some m := by
  cases e : least w ok l with
  | none => rw [least_none.mp e m hm] at hok; cases hok
  | some c =>
    obtain ⟨h1, h2, h3⟩ := least_some e
    rw [better_total (h3 m hm hok) (hb c h1 h2)]
theorem least_congr {w w' : List Nat → Nat} {ok ok' : List Nat → Bool} {l : List (List Nat)} (hw : ∀ m ∈ l, w m = w' m) (ho : ∀ m ∈ l, ok m = ok' m) : least w ok l = least w' ok' l := by
  cases e : least w ok l with
  | none =>
    exact (least_none.mpr fun m hm => by rw [← ho m hm]; exact least_none.mp e m hm).symm
  | some m =>
    obtain ⟨h1, h2, h3⟩ := least_some e
    refine (least_is h1 (by rw [← ho m h1]; exact h2) fun c hc hok => ?_).symm
    have := h3 c hc (by rw [ho c hc]; exact hok)
    intro q
    apply this
    unfold better at q ⊢
    rw [hw c hc, hw m h1]; exact q
theorem mem_sets : ∀ {l m : List Nat}, m ∈ sets l ↔ m.Sublist l
  | [], m => by simp [sets]
  | s :: l, m => by
    simp only [sets, List.mem_append, List.mem_map]
    constructor
    · rintro (⟨r, hr, rfl⟩ | h)
      · exact (mem_sets.mp hr).cons_cons s
      · exact (mem_sets.mp h).cons s
    · intro h
      cases h with
      | cons _ h => exact .inr (mem_sets.mpr h)
      | cons_cons _ h => exact .inl ⟨_, mem_sets.mpr h, rfl⟩
def skip (L : List Low) (left right : Int) : Bool := L.any fun l => decide (left < (l.from_ : Int)) && decide ((l.to_ : Int) < right)
def okFrom (L : List Low) (n : Nat) : Int → List Nat → Bool
  | a, [] => !skip L a n
  | a, b :: r => !skip L a b && okFrom L n b r
def headN (n : Nat) : List Nat → Nat
  | [] => n
  | b :: _ => b
def chain (L : List Low) (n : Nat) : List Nat → Bool
  | [] => true
  | b :: r => okFrom L n b r
theorem okFrom_eq (L : List Low) (n : Nat) (a : Int) (r : List Nat) : okFrom L n a r = (!skip L a (headN n r) && chain L n r) := by
  cases r with
  | nil => simp [okFrom, headN, chain]
  | cons b r => simp [okFrom, headN, chain]
theorem okFrom_hits {L : List Low} {n : Nat} (hL : ∀ l ∈ L, l.from_ ≤ l.to_ ∧ l.to_ < n) : ∀ (r : List Nat) (a : Int), (∀ b ∈ r, a < (b : Int)) → r.Pairwise (· < ·) →
    (okFrom L n a r = true ↔ ∀ l ∈ L, a < (l.from_ : Int) → r.any l.has = true)
  | [], a, _, _ => by
    simp only [okFrom, skip, Bool.not_eq_true', List.any_eq_false, Bool.and_eq_true, decide_eq_true_eq, List.any_nil]
    constructor
    · intro h l hl ha
      exact absurd ⟨ha, by have := (hL l hl).2; omega⟩ (h l hl)
    · intro h l hl ⟨ha, _⟩
      exact absurd (h l hl ha) (by simp)
  | b :: r, a, hab, hs => by
    have ih := okFrom_hits hL r b (fun c hc => by have := (List.pairwise_cons.mp hs).1 c hc; omega) (List.pairwise_cons.mp hs).2
    have hb : a < (b : Int) := hab b List.mem_cons_self
    simp only [okFrom, Bool.and_eq_true, ih, skip, Bool.not_eq_true', List.any_eq_false, decide_eq_true_eq]
    constructor
    · rintro ⟨h1, h2⟩ l hl ha
      rw [List.any_cons, Bool.or_eq_true]
      by_cases q : (b : Int) < (l.from_ : Int)
      · exact .inr (h2 l hl q)
      · left
        have := h1 l hl
        unfold Low.has
        rw [Bool.and_eq_true, decide_eq_true_eq, decide_eq_true_eq]
        omega
    · intro h
      refine ⟨fun l hl ⟨q1, q2⟩ => ?_, fun l hl q => ?_⟩
      · have := h l hl q1
        obtain ⟨c, hc, hh⟩ := List.any_eq_true.mp this
        unfold Low.has at hh
        rw [Bool.and_eq_true, decide_eq_true_eq, decide_eq_true_eq] at hh
        rcases List.mem_cons.mp hc with rfl | hc
        · omega
        · have := (List.pairwise_cons.mp hs).1 c hc
          omega
      · have := h l hl (by omega)
        rw [List.any_cons, Bool.or_eq_true] at this
        rcases this with q' | q'
        · unfold Low.has at q'
          rw [Bool.and_eq_true, decide_eq_true_eq, decide_eq_true_eq] at q'
          omega
        · exact q'
structure Tail where
  cost : Nat
  row : List Nat
  first : Nat
def tailLt (t u : Tail) : Bool := decide (t.cost < u.cost) || (t.cost == u.cost && (ahead t.row u.row || (t.row == u.row && decide (t.first < u.first))))
def minTail : List Tail → Option Tail
  | [] => none
  | t :: l => some (l.foldl (fun b t => if tailLt t b then t else b) t)
def fitting (L : List Low) (tails : List Tail) (a : Int) : List Tail := tails.filter fun t => !skip L a t.first
def bestBehind (L : List Low) (tails : List Tail) (a : Int) : Option Tail := minTail (fitting L tails a)
def stepTails (L : List Low) (costs : List Nat) (tails : List Tail) (s : Nat) : List Tail := match bestBehind L tails s with
  | none => tails
  | some b => tails ++ [⟨costs.getD s 0 + b.cost, s :: b.row, s⟩]
def allTails (L : List Low) (n : Nat) (costs : List Nat) (free : List Nat) : List Tail := free.reverse.foldl (stepTails L costs) [⟨0, [], n⟩]
def leastRow (L : List Low) (n : Nat) (costs : List Nat) (free : List Nat) : Option Tail := bestBehind L (allTails L n costs free) (-1)
def costOf (costs : List Nat) (m : List Nat) : Nat := (m.map fun s => costs.getD s 0).sum
theorem minTail_none {l : List Tail} : minTail l = none ↔ l = [] := by
  cases l with
  | nil => simp [minTail]
  | cons t l => simp [minTail]
theorem minTail_fold (w : List Nat → Nat) : ∀ (l : List Tail) (b : Tail), b.cost = w b.row → (∀ t ∈ l, t.cost = w t.row) → ∃ m, l.foldl (fun b t => if tailLt t b then t else b) b = m ∧ (m = b ∨ m ∈ l) ∧ ¬ better w b.row m.row ∧ ∀ t ∈ l, ¬ better w t.row m.row
  | [], b, _, _ => ⟨b, rfl, .inl rfl, better_irrefl _ _, fun _ h => nomatch h⟩
  | t :: l, b, hb, hl => by
    rw [List.foldl_cons]
    have ht := hl t List.mem_cons_self
    by_cases q : tailLt t b = true
    · rw [if_pos q]
      obtain ⟨m, h1, h2, h3, h4⟩ := minTail_fold w l t ht fun u hu => hl u (List.mem_cons_of_mem _ hu)
      refine ⟨m, h1, .inr ?_, ?_, ?_⟩
      · rcases h2 with rfl | h2
        · exact List.mem_cons_self
        · exact List.mem_cons_of_mem _ h2
      · refine nbetter_trans (b := t.row) ?_ h3
        unfold tailLt at q
        simp only [Bool.or_eq_true, Bool.and_eq_true, decide_eq_true_eq, beq_iff_eq] at q
        intro z
        rcases q with q | ⟨q, q' | ⟨q', _⟩⟩
        · rcases z with z | ⟨z, _⟩ <;> omega
        · rcases z with z | ⟨z, z'⟩
          · omega
          · have := ahead_trans q' z'
            rw [ahead_irrefl] at this; cases this
        · rw [q'] at z; exact better_irrefl _ _ z
      · intro u hu
        rcases List.mem_cons.mp hu with rfl | hu
        · exact h3
        · exact h4 u hu
    · rw [if_neg q]
      obtain ⟨m, h1, h2, h3, h4⟩ := minTail_fold w l b hb fun u hu => hl u (List.mem_cons_of_mem _ hu)
      refine ⟨m, h1, ?_, h3, ?_⟩
      · rcases h2 with rfl | h2
        · exact .inl rfl
        · exact .inr (List.mem_cons_of_mem _ h2)
      · intro u hu
        rcases List.mem_cons.mp hu with rfl | hu
        · refine nbetter_trans (b := b.row) ?_ h3
          intro z
          apply q
          unfold tailLt
          simp only [Bool.or_eq_true, Bool.and_eq_true, decide_eq_true_eq, beq_iff_eq]
          rcases z with z | ⟨z, z'⟩
          · left; omega
          · right; exact ⟨by omega, .inl z'⟩
        · exact h4 u hu
theorem minTail_some {w : List Nat → Nat} {l : List Tail} {m : Tail} (hl : ∀ t ∈ l, t.cost = w t.row) (h : minTail l = some m) : m ∈ l ∧ ∀ t ∈ l, ¬ better w t.row m.row := by
  cases l with
  | nil => cases h
  | cons t l =>
    obtain ⟨m', h1, h2, h3, h4⟩ := minTail_fold w l t (hl t List.mem_cons_self) fun u hu => hl u (List.mem_cons_of_mem _ hu)
    have e : m' = m := by
      have h' : some (l.foldl (fun b t => if tailLt t b then t else b) t) = some m := h
      rw [h1] at h'
      exact Option.some.inj h'
    subst e
    refine ⟨?_, fun u hu => ?_⟩
    · rcases h2 with rfl | h2
      · exact List.mem_cons_self
      · exact List.mem_cons_of_mem _ h2
    · rcases List.mem_cons.mp hu with rfl | hu
      · exact h3
      · exact h4 u hu
structure TailsOk (L : List Low) (n : Nat) (costs : List Nat) (S : List Nat) (tails : List Tail) : Prop where
  cost : ∀ t ∈ tails, t.cost = costOf costs t.row
  sub : ∀ t ∈ tails, t.row.Sublist S
  chn : ∀ t ∈ tails, chain L n t.row = true
  fst : ∀ t ∈ tails, t.first = headN n t.row
  all : ∀ r : List Nat, r.Sublist S → chain L n r = true → ∃ t ∈ tails, t.first = headN n r ∧ ¬ better (costOf costs) r t.row
theorem TailsOk.best_none {L : List Low} {n : Nat} {costs S : List Nat} {tails : List Tail} (T : TailsOk L n costs S tails) {a : Int} (h : bestBehind L tails a = none) : ∀ r : List Nat, r.Sublist S → okFrom L n a r = false := by
  intro r hr
  cases q : okFrom L n a r with
  | false => rfl
  | true =>
    rw [okFrom_eq, Bool.and_eq_true] at q
    obtain ⟨t, h1, h2, _⟩ := T.all r hr q.2
    have h3 : t ∈ fitting L tails a := List.mem_filter.mpr ⟨h1, by rw [h2]; exact q.1⟩
    rw [minTail_none.mp h] at h3
    cases h3
theorem TailsOk.best_some {L : List Low} {n : Nat} {costs S : List Nat} {tails : List Tail} (T : TailsOk L n costs S tails) {a : Int} {b : Tail} (h : bestBehind L tails a = some b) :
    b ∈ tails ∧ okFrom L n a b.row = true ∧ ∀ r : List Nat, r.Sublist S → okFrom L n a r = true → ¬ better (costOf costs) r b.row := by
  obtain ⟨h1, h2⟩ := minTail_some (w := costOf costs) (l := fitting L tails a) (fun t ht => T.cost t (List.mem_filter.mp ht).1) h
  obtain ⟨h3, h4⟩ := List.mem_filter.mp h1
  refine ⟨h3, ?_, fun r hr q => ?_⟩
  · rw [okFrom_eq, Bool.and_eq_true, ← T.fst b h3]
    exact ⟨h4, T.chn b h3⟩
  · rw [okFrom_eq, Bool.and_eq_true] at q
    obtain ⟨t, k1, k2, k3⟩ := T.all r hr q.2
    exact nbetter_trans k3 (h2 t (List.mem_filter.mpr ⟨k1, by rw [k2]; exact q.1⟩))
theorem costOf_cons (costs : List Nat) (s : Nat) (m : List Nat) : costOf costs (s :: m) = costs.getD s 0 + costOf costs m := by
  unfold costOf; rw [List.map_cons, List.sum_cons]
theorem better_cons {costs : List Nat} {s : Nat} {a b : List Nat} : better (costOf costs) (s :: a) (s :: b) ↔ better (costOf costs) a b := by
  unfold better
  rw [costOf_cons, costOf_cons, ahead_cons]
  constructor
  · rintro (h | ⟨h, k⟩)
    · left; omega
    · right; exact ⟨by omega, k⟩
  · rintro (h | ⟨h, k⟩)
    · left; omega
    · right; exact ⟨by omega, k⟩
theorem TailsOk.start (L : List Low) (n : Nat) (costs : List Nat) : TailsOk L n costs [] [⟨0, [], n⟩] := by
  refine ⟨?_, ?_, ?_, ?_, ?_⟩
  · intro t ht; rw [List.mem_singleton.mp ht]; rfl
  · intro t ht; rw [List.mem_singleton.mp ht]; exact List.Sublist.refl _
  · intro t ht; rw [List.mem_singleton.mp ht]; rfl
  · intro t ht; rw [List.mem_singleton.mp ht]; rfl
  · intro r hr _
    rw [List.sublist_nil.mp hr]
    exact ⟨_, List.mem_singleton.mpr rfl, rfl, better_irrefl _ _⟩
theorem TailsOk.step {L : List Low} {n : Nat} {costs S : List Nat} {tails : List Tail} (T : TailsOk L n costs S tails) (s : Nat) : TailsOk L n costs (s :: S) (stepTails L costs tails s) := by
  unfold stepTails
  cases e : bestBehind L tails s with
  | none =>
    refine ⟨T.cost, fun t ht => (T.sub t ht).cons s, T.chn, T.fst, fun r hr hc => ?_⟩
    cases hr with
    | cons _ hr => exact T.all r hr hc
    | cons_cons _ hr =>
      have q := T.best_none e _ hr
      have hc' : okFrom L n s _ = true := hc
      rw [q] at hc'; cases hc'
  | some b =>
    obtain ⟨h1, h2, h3⟩ := T.best_some e
    have mem : ∀ t, t ∈ tails ++ [(⟨costs.getD s 0 + b.cost, s :: b.row, s⟩ : Tail)] → t ∈ tails ∨ t = ⟨costs.getD s 0 + b.cost, s :: b.row, s⟩ := fun t ht => by
      rcases List.mem_append.mp ht with q | q
      · exact .inl q
      · exact .inr (List.mem_singleton.mp q)
    refine ⟨?_, ?_, ?_, ?_, ?_⟩
    · intro t ht
      rcases mem t ht with q | rfl
      · exact T.cost t q
      · show _ = costOf costs (s :: b.row)
        rw [costOf_cons, ← T.cost b h1]
    · intro t ht
      rcases mem t ht with q | rfl
      · exact (T.sub t q).cons s
      · exact (T.sub b h1).cons_cons s
    · intro t ht
      rcases mem t ht with q | rfl
      · exact T.chn t q
      · exact h2
    · intro t ht
      rcases mem t ht with q | rfl
      · exact T.fst t q
      · rfl
    · intro r hr hc
      cases hr with
      | cons _ hr =>
        obtain ⟨t, k1, k2, k3⟩ := T.all r hr hc
        exact ⟨t, List.mem_append_left _ k1, k2, k3⟩
      | cons_cons _ hr =>
        refine ⟨_, List.mem_append_right _ (List.mem_singleton.mpr rfl), rfl, ?_⟩
        show ¬ better (costOf costs) (s :: _) (s :: b.row)
        rw [better_cons]
        exact h3 _ hr hc
theorem allTails_ok (L : List Low) (n : Nat) (costs : List Nat) : ∀ S : List Nat, TailsOk L n costs S (allTails L n costs S)
  | [] => TailsOk.start L n costs
  | s :: S => by
    have e : allTails L n costs (s :: S) = stepTails L costs (allTails L n costs S) s := by
      unfold allTails
      rw [List.reverse_cons, List.foldl_append]
      rfl
    rw [e]
    exact (allTails_ok L n costs S).step s
theorem leastRow_eq {L : List Low} {n : Nat} {costs free : List Nat} (hL : ∀ l ∈ L, l.from_ ≤ l.to_ ∧ l.to_ < n) (hf : free.Pairwise (· < ·)) :
    (leastRow L n costs free).map (fun t => (t.cost, t.row)) = (least (costOf costs) (fun m => L.all fun l => m.any l.has) (sets free)).map fun m => (costOf costs m, m) := by
  have T := allTails_ok L n costs free
  have hk : ∀ m : List Nat, m.Sublist free → (okFrom L n (-1) m = true ↔ (L.all fun l => m.any l.has) = true) := fun m hm => by
    rw [okFrom_hits hL m (-1) (fun b _ => by omega) (hf.sublist hm), List.all_eq_true]
    constructor
    · intro h l hl; exact h l hl (by omega)
    · intro h l hl _; exact h l hl
  unfold leastRow
  cases e : bestBehind L (allTails L n costs free) (-1) with
  | none =>
    have : least (costOf costs) (fun m => L.all fun l => m.any l.has) (sets free) = none := least_none.mpr fun m hm => by
      have hs := mem_sets.mp hm
      have q := T.best_none e m hs
      cases z : (L.all fun l => m.any l.has) with
      | false => rfl
      | true => rw [(hk m hs).mpr z] at q; cases q
    rw [this]; rfl
  | some b =>
    obtain ⟨h1, h2, h3⟩ := T.best_some e
    have hs := T.sub b h1
    have : least (costOf costs) (fun m => L.all fun l => m.any l.has) (sets free) = some b.row := least_is (mem_sets.mpr hs) ((hk _ hs).mp h2) fun c hc hok => h3 c (mem_sets.mp hc) ((hk c (mem_sets.mp hc)).mpr hok)
    rw [this]
    show some (b.cost, b.row) = some (costOf costs b.row, b.row)
    rw [T.cost b h1]
end My
end
section
namespace My
open Kv365
structure Wf (a : Abs) : Prop where
  n2 : 2 ≤ a.n
  n12 : a.n ≤ 12
  rk : ∀ r ∈ a.rocks, r < a.n
  rnd : a.rocks.Nodup
  pl : a.price.length = a.n
  pb : ∀ p ∈ a.price, 1 ≤ p ∧ p ≤ 9
  ll : a.lows.length ≤ 8
  lb : ∀ l ∈ a.lows, l.from_ ≤ l.to_ ∧ l.to_ < a.n ∧ 1 ≤ l.water ∧ l.water ≤ 20
theorem Wf.begun {n : Nat} (h2 : 2 ≤ n) (h12 : n ≤ 12) : Wf (begun n) :=
  ⟨h2, h12, fun _ h => (nomatch h), List.nodup_nil, List.length_replicate, fun p hp => (by rw [(List.mem_replicate.mp hp).2]; omega), Nat.zero_le _, fun _ h => (nomatch h)⟩
theorem mem_set_of {α : Type} {l : List α} {i : Nat} {x y : α} (h : y ∈ l.set i x) : y ∈ l ∨ y = x := List.mem_or_eq_of_mem_set h
theorem Wf.dropped {a : Abs} (W : Wf a) (i : Nat) : Wf { a with lows := a.lows.eraseIdx i } :=
  ⟨W.n2, W.n12, W.rk, W.rnd, W.pl, W.pb, Nat.le_trans (List.length_eraseIdx_le _ _) W.ll, fun l hl => W.lb l (List.mem_of_mem_eraseIdx hl)⟩
theorem Wf.rocked {a : Abs} (W : Wf a) {s : Nat} (hs : s < a.n) (h : a.rocks.contains s = false) : Wf { a with rocks := s :: a.rocks } := by
  refine ⟨W.n2, W.n12, fun r hr => ?_, List.nodup_cons.mpr ⟨fun z => ?_, W.rnd⟩, W.pl, W.pb, W.ll, W.lb⟩
  · rcases List.mem_cons.mp hr with rfl | hr
    · exact hs
    · exact W.rk r hr
  · rw [List.contains_iff_mem.mpr z] at h; cases h
theorem Wf.does {a : Abs} (W : Wf a) (c : Call) : Wf (a.does c).1 := by
  cases c with
  | begin_ n =>
    simp only [Abs.does]
    split
    · exact W
    · exact Wf.begun (by omega) (by omega)
  | low x y q =>
    simp only [Abs.does]
    split
    · exact W
    · split
      · exact W
      · refine ⟨W.n2, W.n12, W.rk, W.rnd, W.pl, W.pb, by show (a.lows ++ [_]).length ≤ 8; rw [List.length_append]; show _ + 1 ≤ 8; omega, fun l hl => ?_⟩
        rcases List.mem_append.mp hl with hl | hl
        · exact W.lb l hl
        · rw [List.mem_singleton.mp hl]
          show x ≤ y ∧ y < a.n ∧ 1 ≤ q ∧ q ≤ 20
          omega
  | drop i =>
    simp only [Abs.does]
    split
    · exact W
    · exact W.dropped i
  | water i q =>
    simp only [Abs.does]
    split
    · exact W
    · split
      · exact W
      · refine ⟨W.n2, W.n12, W.rk, W.rnd, W.pl, W.pb, by rw [List.length_modify]; exact W.ll, fun l hl => ?_⟩
        rename_i h1 h2
        obtain ⟨j, hj, e⟩ := List.mem_iff_getElem.mp hl
        rw [List.getElem_modify] at e
        have hj' : j < a.lows.length := by rw [List.length_modify] at hj; exact hj
        have hb := W.lb _ (List.getElem_mem hj')
        subst e
        split
        · exact ⟨hb.1, hb.2.1, by show 1 ≤ q; omega, by show q ≤ 20; omega⟩
        · exact hb
  | rock s =>
    simp only [Abs.does]
    split
    · exact W
    · split
      · exact W
      · rename_i h1 h2
        exact W.rocked (by omega) (by simpa using h2)
  | norock s =>
    simp only [Abs.does]
    split
    · exact W
    · split
      · exact W
      · exact ⟨W.n2, W.n12, fun r hr => W.rk r (List.mem_filter.mp hr).1, W.rnd.filter _, W.pl, W.pb, W.ll, W.lb⟩
  | price s c =>
    simp only [Abs.does]
    split
    · exact W
    · split
      · exact W
      · refine ⟨W.n2, W.n12, W.rk, W.rnd, by rw [List.length_set]; exact W.pl, fun p hp => ?_, W.ll, W.lb⟩
        rcases mem_set_of hp with hp | rfl
        · exact W.pb p hp
        · omega
  | fewest => simp only [Abs.does, Abs.one]; split <;> exact W
  | apart => simp only [Abs.does]; split <;> exact W
  | cheapest => simp only [Abs.does]; split <;> exact W
  | pays => simp only [Abs.does]; split <;> exact W
  | hits m => simp only [Abs.does]; split <;> exact W
  | missed m => simp only [Abs.does]; split <;> exact W
  | carries k m => simp only [Abs.does]; split <;> exact W
  | why k m =>
    simp only [Abs.does]
    split
    · exact W
    · split <;> exact W
  | share k m =>
    simp only [Abs.does]
    split
    · exact W
    · split <;> exact W
  | leastroom m =>
    simp only [Abs.does]
    split
    · exact W
    · split <;> exact W
  | fewestfor k =>
    simp only [Abs.does, Abs.one]
    split
    · exact W
    · split <;> exact W
  | without i =>
    simp only [Abs.does]
    split
    · exact W
    · split <;> exact W
  | ifrock s =>
    simp only [Abs.does]
    split
    · exact W
    · split <;> exact W
  | at_ s => simp only [Abs.does]; split <;> exact W
  | look i => simp only [Abs.does]; split <;> exact W
  | byend => exact W
  | state => exact W
def WfO : State → Prop
  | none => True
  | some a => Wf a
theorem WfO.act {s : State} (W : WfO s) (c : Call) : WfO (act s c).1 := by
  cases s with
  | some a => exact Wf.does (show Wf a from W) c
  | none =>
    cases c with
    | begin_ n =>
      show WfO (if ((begun 2).does (.begin_ n)).2.ret < 0 then ((none : State), ((begun 2).does (.begin_ n)).2) else (some ((begun 2).does (.begin_ n)).1, ((begun 2).does (.begin_ n)).2)).1
      split
      · trivial
      · exact Wf.does (Wf.begun (by omega) (by omega)) _
    | _ => trivial
theorem mem_free {a : Abs} {s : Nat} : s ∈ a.free ↔ s < a.n ∧ a.rocks.contains s = false := by
  unfold Abs.free
  rw [List.mem_filter, List.mem_range]
  simp
theorem free_sorted (a : Abs) : a.free.Pairwise (· < ·) := List.pairwise_lt_range.filter _
theorem free_nodup (a : Abs) : a.free.Nodup := (free_sorted a).imp fun h => Nat.ne_of_lt h
theorem free_contains (a : Abs) (s : Nat) : a.free.contains s = (decide (s < a.n) && !a.rocks.contains s) := by
  rw [Bool.eq_iff_iff, List.contains_iff_mem, mem_free]
  simp
theorem hits_mono {a : Abs} {m m' : List Nat} (hs : ∀ s ∈ m, s ∈ m') (h : a.hits m = true) : a.hits m' = true := by
  unfold Abs.hits at h ⊢
  rw [List.all_eq_true] at h ⊢
  intro l hl
  obtain ⟨s, h1, h2⟩ := List.any_eq_true.mp (h l hl)
  exact List.any_eq_true.mpr ⟨s, hs s h1, h2⟩
theorem fewest_none (a : Abs) : a.fewest.isNone = !a.hits a.free := by
  unfold Abs.fewest
  cases e : least List.length a.hits (sets a.free) with
  | none =>
    have := least_none.mp e a.free (mem_sets.mpr (List.Sublist.refl _))
    rw [this]; rfl
  | some m =>
    obtain ⟨h1, h2, _⟩ := least_some e
    have := hits_mono (fun s hs => (mem_sets.mp h1).subset hs) h2
    rw [this]; rfl
theorem costOf_ones {n : Nat} {m : List Nat} (h : ∀ s ∈ m, s < n) : costOf (List.replicate n 1) m = m.length := by
  induction m with
  | nil => rfl
  | cons s m ih =>
    rw [costOf_cons, ih fun t ht => h t (List.mem_cons_of_mem _ ht), List.length_cons]
    have hs := h s List.mem_cons_self
    have : (List.replicate n 1).getD s 0 = 1 := by
      rw [List.getD_eq_getElem?_getD, List.getElem?_replicate, if_pos hs]; rfl
    omega
theorem leastRow_cheapest {a : Abs} (W : Wf a) : (leastRow a.lows a.n a.price a.free).map (fun t => (t.cost, t.row)) = a.cheapest.map fun m => (a.cost m, m) :=
  leastRow_eq (fun l hl => ⟨(W.lb l hl).1, (W.lb l hl).2.1⟩) (free_sorted a)
theorem leastRow_fewest {a : Abs} (hl : ∀ l ∈ a.lows, l.from_ ≤ l.to_ ∧ l.to_ < a.n) : (leastRow a.lows a.n (List.replicate a.n 1) a.free).map (fun t => t.row) = a.fewest := by
  have h := leastRow_eq (costs := List.replicate a.n 1) hl (free_sorted a)
  have e : least (costOf (List.replicate a.n 1)) (fun m => a.lows.all fun l => m.any l.has) (sets a.free) = a.fewest :=
    least_congr (fun m hm => costOf_ones fun s hs => (mem_free.mp ((mem_sets.mp hm).subset hs)).1) fun m _ => rfl
  rw [e] at h
  have h2 := congrArg (Option.map Prod.snd) h
  rw [Option.map_map, Option.map_map] at h2
  refine Eq.trans h2 ?_
  show Option.map id a.fewest = a.fewest
  rw [Option.map_id]; rfl
def endLe (a : Abs) (i j : Nat) : Bool := decide ((a.low i).to_ < (a.low j).to_) || ((a.low i).to_ == (a.low j).to_ && decide (i ≤ j))
theorem endLe_iff {a : Abs} {i j : Nat} : endLe a i j = true ↔ (a.low i).to_ < (a.low j).to_ ∨ ((a.low i).to_ = (a.low j).to_ ∧ i ≤ j) := by
  unfold endLe
  simp only [Bool.or_eq_true, Bool.and_eq_true, decide_eq_true_eq, beq_iff_eq]
theorem byEnd_eq (a : Abs) : a.byEnd = a.ids.mergeSort (endLe a) := rfl
theorem endLe_trans (a : Abs) (i j k : Nat) (h : endLe a i j = true) (h' : endLe a j k = true) : endLe a i k = true := by
  rw [endLe_iff] at h h' ⊢; omega
theorem endLe_total (a : Abs) (i j : Nat) : (endLe a i j || endLe a j i) = true := by
  rw [Bool.or_eq_true, endLe_iff, endLe_iff]; omega
theorem byEnd_perm (a : Abs) : a.byEnd.Perm a.ids := List.mergeSort_perm _ _
theorem byEnd_sorted (a : Abs) : a.byEnd.Pairwise (fun i j => endLe a i j = true) := by
  rw [byEnd_eq]; exact List.pairwise_mergeSort (endLe_trans a) (endLe_total a) _
theorem byEnd_is {a : Abs} {l : List Nat} (hp : l.Perm a.ids) (hs : l.Pairwise fun i j => endLe a i j = true) : l = a.byEnd := by
  refine List.Perm.eq_of_pairwise (le := fun i j => endLe a i j = true) ?_ hs (byEnd_sorted a) (hp.trans (byEnd_perm a).symm)
  intro i j _ _ h h'
  rw [endLe_iff] at h h'; omega
theorem mem_byEnd {a : Abs} {i : Nat} : i ∈ a.byEnd ↔ i < a.lows.length := by
  rw [(byEnd_perm a).mem_iff]; unfold Abs.ids; rw [List.mem_range]
theorem byEnd_nodup (a : Abs) : a.byEnd.Nodup := (byEnd_perm a).nodup_iff.mpr List.nodup_range
theorem byEnd_length (a : Abs) : a.byEnd.length = a.lows.length := by rw [(byEnd_perm a).length_eq]; unfold Abs.ids; rw [List.length_range]
theorem low_mem {a : Abs} {i : Nat} (h : i < a.lows.length) : a.low i ∈ a.lows := by
  unfold Abs.low
  rw [List.getD_eq_getElem?_getD, List.getElem?_eq_getElem h]
  exact List.getElem_mem h
theorem low_at {a : Abs} {i : Nat} {l : Low} (h : a.lows[i]? = some l) : a.low i = l := by
  unfold Abs.low
  rw [List.getD_eq_getElem?_getD, h]; rfl
theorem parted_eq (a : Abs) (i j : Nat) : a.parted j i = !((a.free.filter (a.low j).has).any (a.low i).has) := by
  unfold Abs.parted
  rw [Bool.eq_iff_iff, List.all_eq_true, Bool.not_eq_true', List.any_eq_false]
  constructor
  · intro h s hs
    obtain ⟨h1, h2⟩ := List.mem_filter.mp hs
    have := h s h1
    rw [h2, Bool.true_and] at this
    intro z; rw [z] at this; cases this
  · intro h s hs
    cases e : (a.low j).has s with
    | false => rfl
    | true =>
      have := h s (List.mem_filter.mpr ⟨hs, e⟩)
      cases e' : (a.low i).has s with
      | false => rfl
      | true => exact absurd e' this
def apartStep (a : Abs) (t : List Nat) (i : Nat) : List Nat := if t.all fun j => a.parted j i then t ++ [i] else t
def minN : List Nat → Nat
  | [] => 0
  | x :: l => l.foldl min x
def lessAt (p : Nat) (left : List Nat) (s : Nat) : List Nat := left.set s (left.getD s 0 - p)
def payStep (a : Abs) (st : List Nat × List Nat) (i : Nat) : List Nat × List Nat :=
  let sites := a.free.filter (a.low i).has
  let p := minN (sites.map fun s => st.1.getD s 0)
  (sites.foldl (lessAt p) st.1, st.2.set i p)
theorem foldl_min_start : ∀ (l : List Nat) (x c : Nat), x ≤ c → l.foldl min (min c x) = l.foldl min x := fun l x c h => by
  rw [Nat.min_eq_right h]
theorem minN_spec {l : List Nat} (hn : l ≠ []) (hb : ∀ x ∈ l, x ≤ 1000) : l.foldl min 1000 = minN l := by
  cases l with
  | nil => exact absurd rfl hn
  | cons x l =>
    show l.foldl min (min 1000 x) = l.foldl min x
    exact foldl_min_start l x 1000 (hb x List.mem_cons_self)
theorem lessAt_fold : ∀ (sites : List Nat) (p : Nat) (left : List Nat), sites.Nodup → ∀ s, (sites.foldl (lessAt p) left).getD s 0 = if s ∈ sites ∧ s < left.length then left.getD s 0 - p else left.getD s 0
  | [], p, left, _, s => by simp
  | t :: sites, p, left, hn, s => by
    rw [List.foldl_cons, lessAt_fold sites p _ (List.nodup_cons.mp hn).2 s]
    have hl : (lessAt p left t).length = left.length := by unfold lessAt; rw [List.length_set]
    have hg : (lessAt p left t).getD s 0 = if s = t ∧ s < left.length then left.getD s 0 - p else left.getD s 0 := by
      unfold lessAt
      rw [List.getD_eq_getElem?_getD, List.getElem?_set]
      by_cases q : t = s
      · subst q
        rw [if_pos rfl]
        by_cases q' : t < left.length
        · rw [if_pos q', if_pos ⟨rfl, q'⟩]; rfl
        · rw [if_neg q', if_neg (fun z => q' z.2), List.getD_eq_getElem?_getD, List.getElem?_eq_none (by omega)]
      · rw [if_neg q, if_neg (fun z => q z.1.symm), List.getD_eq_getElem?_getD]
    rw [hl, hg]
    by_cases q : s = t
    · subst q
      have hs : s ∉ sites := (List.nodup_cons.mp hn).1
      rw [if_neg (fun z => hs z.1)]
      simp
    · have q' : ¬ (s = t ∧ s < left.length) := fun z => q z.1
      by_cases q2 : s ∈ sites
      · simp only [if_neg q', List.mem_cons, q2, or_true]
      · simp only [List.mem_cons, q2, q, or_false, false_and, if_false]
theorem lessAt_fold_length (p : Nat) : ∀ (sites left : List Nat), (sites.foldl (lessAt p) left).length = left.length
  | [], _ => rfl
  | t :: sites, left => by
    rw [List.foldl_cons, lessAt_fold_length p sites]; unfold lessAt; rw [List.length_set]
def specP (a : Abs) (i : Nat) (left : List Nat) : Nat := ((a.free.filter (a.low i).has).map fun s => left.getD s 0).foldl min 1000
def specLeft (a : Abs) (i : Nat) (left : List Nat) : List Nat := left.zipIdx.map fun x => if (a.low i).has x.2 then x.1 - specP a i left else x.1
theorem pays_cons (a : Abs) (i : Nat) (l left : List Nat) : a.pays (i :: l) left = (i, specP a i left) :: a.pays l (specLeft a i left) := rfl
theorem specLeft_getD (a : Abs) (i : Nat) (left : List Nat) {s : Nat} (hs : s < left.length) : (specLeft a i left).getD s 0 = if (a.low i).has s then left.getD s 0 - specP a i left else left.getD s 0 := by
  unfold specLeft
  rw [List.getD_eq_getElem?_getD, List.getElem?_map, List.getElem?_zipIdx, List.getElem?_eq_getElem hs]
  simp [List.getD_eq_getElem?_getD, List.getElem?_eq_getElem hs]
theorem specLeft_length (a : Abs) (i : Nat) (left : List Nat) : (specLeft a i left).length = left.length := by
  unfold specLeft; simp
structure PayInv (a : Abs) (left left' : List Nat) : Prop where
  len : left.length = a.n
  len' : left'.length = a.n
  eq : ∀ s ∈ a.free, left.getD s 0 = left'.getD s 0
  le : ∀ s ∈ a.free, left.getD s 0 ≤ 9
theorem PayInv.p {a : Abs} {left left' : List Nat} (I : PayInv a left left') {i : Nat} (hn : a.free.filter (a.low i).has ≠ []) : specP a i left' = minN ((a.free.filter (a.low i).has).map fun s => left.getD s 0) := by
  have e : ((a.free.filter (a.low i).has).map fun s => left'.getD s 0) = ((a.free.filter (a.low i).has).map fun s => left.getD s 0) :=
    List.map_congr_left fun s hs => (I.eq s (List.mem_filter.mp hs).1).symm
  unfold specP
  rw [e]
  refine minN_spec (fun z => hn (List.map_eq_nil_iff.mp z)) fun x hx => ?_
  obtain ⟨s, hs, rfl⟩ := List.mem_map.mp hx
  have := I.le s (List.mem_filter.mp hs).1
  omega
theorem PayInv.step {a : Abs} {left left' paid : List Nat} (I : PayInv a left left') {i : Nat} (hn : a.free.filter (a.low i).has ≠ []) : PayInv a (payStep a (left, paid) i).1 (specLeft a i left') := by
  have hp := I.p hn
  have key : ∀ s ∈ a.free, (payStep a (left, paid) i).1.getD s 0 = if (a.low i).has s then left.getD s 0 - specP a i left' else left.getD s 0 := fun s hs => by
    show ((a.free.filter (a.low i).has).foldl (lessAt _) left).getD s 0 = _
    rw [lessAt_fold _ _ _ ((free_nodup a).filter _) s, hp]
    have hlt : s < left.length := by rw [I.len]; exact (mem_free.mp hs).1
    by_cases q : (a.low i).has s = true
    · rw [if_pos ⟨List.mem_filter.mpr ⟨hs, q⟩, hlt⟩, if_pos q]
    · rw [if_neg (fun z => q (List.mem_filter.mp z.1).2), if_neg q]
  refine ⟨?_, (specLeft_length a i left').trans I.len', fun s hs => ?_, fun s hs => ?_⟩
  · show ((a.free.filter (a.low i).has).foldl (lessAt _) left).length = _
    rw [lessAt_fold_length, I.len]
  · have hlt : s < left'.length := by rw [I.len']; exact (mem_free.mp hs).1
    rw [key s hs, specLeft_getD a i left' hlt, I.eq s hs]
  · rw [key s hs]
    have := I.le s hs
    split <;> omega
def lookN (l : List (Nat × Nat)) (j : Nat) : Option Nat := (l.find? fun x => x.1 == j).map Prod.snd
theorem pay_fold {a : Abs} (hh : ∀ i < a.lows.length, a.free.filter (a.low i).has ≠ []) : ∀ (l left left' paid : List Nat), PayInv a left left' → l.Nodup → (∀ i ∈ l, i < a.lows.length) → paid.length = a.lows.length →
    ∀ j < a.lows.length, (l.foldl (payStep a) (left, paid)).2[j]? = some ((lookN (a.pays l left') j).getD (paid.getD j 0))
  | [], left, left', paid, _, _, _, hlen, j, hj => by
    show paid[j]? = some (paid.getD j 0)
    rw [List.getD_eq_getElem?_getD, List.getElem?_eq_getElem (by omega)]; rfl
  | i :: l, left, left', paid, I, hn, hl, hlen, j, hj => by
    have hne := hh i (hl i List.mem_cons_self)
    have I' := I.step (paid := paid) hne
    have hs : payStep a (left, paid) i = ((payStep a (left, paid) i).1, paid.set i (specP a i left')) := by
      rw [I.p hne]; rfl
    rw [List.foldl_cons, hs]
    have ih := pay_fold hh l (payStep a (left, paid) i).1 (specLeft a i left') (paid.set i (specP a i left')) I' (List.nodup_cons.mp hn).2 (fun k hk => hl k (List.mem_cons_of_mem _ hk)) (by rw [List.length_set]; exact hlen) j hj
    rw [ih, pays_cons]
    congr 1
    unfold lookN
    rw [List.find?_cons]
    by_cases q : i = j
    · subst q
      have hno : (a.pays l (specLeft a i left')).find? (fun x => x.1 == i) = none := by
        rw [List.find?_eq_none]
        intro x hx
        have : ∀ (l left : List Nat) (x : Nat × Nat), x ∈ a.pays l left → x.1 ∈ l := fun l => by
          induction l with
          | nil => intro _ x hx; cases hx
          | cons k l ih =>
            intro left x hx
            rw [pays_cons] at hx
            rcases List.mem_cons.mp hx with rfl | hx
            · exact List.mem_cons_self
            · exact List.mem_cons_of_mem _ (ih _ x hx)
        have := this _ _ x hx
        intro z
        rw [eq_of_beq z] at this
        exact (List.nodup_cons.mp hn).1 this
      rw [hno]
      simp only [beq_self_eq_true, Option.map_none, Option.getD_none, Option.map_some, Option.getD_some]
      rw [List.getD_eq_getElem?_getD, List.getElem?_set_self (by omega)]; rfl
    · have : ((i, specP a i left').1 == j) = false := by simpa using q
      rw [this]
      simp only
      rw [List.getD_eq_getElem?_getD, List.getElem?_set_ne q, ← List.getD_eq_getElem?_getD]
def payAll (a : Abs) : List Nat := (a.byEnd.foldl (payStep a) (a.price, List.replicate a.lows.length 0)).2
theorem payStep_len (a : Abs) : ∀ (l : List Nat) (st : List Nat × List Nat), (l.foldl (payStep a) st).2.length = st.2.length
  | [], _ => rfl
  | i :: l, st => by
    rw [List.foldl_cons, payStep_len a l]
    show (st.2.set i _).length = _
    rw [List.length_set]
theorem has_free {a : Abs} (h : a.hits a.free = true) {i : Nat} (hi : i < a.lows.length) : a.free.filter (a.low i).has ≠ [] := by
  have := List.all_eq_true.mp h _ (low_mem hi)
  obtain ⟨s, h1, h2⟩ := List.any_eq_true.mp this
  intro z
  have : s ∈ a.free.filter (a.low i).has := List.mem_filter.mpr ⟨h1, h2⟩
  rw [z] at this; cases this
theorem payAll_eq {a : Abs} (W : Wf a) (h : a.hits a.free = true) : payAll a = a.paid := by
  have I : PayInv a a.price a.price := ⟨W.pl, W.pl, fun _ _ => rfl, fun s hs => by
    have hlt : s < a.price.length := by rw [W.pl]; exact (mem_free.mp hs).1
    rw [List.getD_eq_getElem?_getD, List.getElem?_eq_getElem hlt]
    exact (W.pb _ (List.getElem_mem hlt)).2⟩
  refine List.ext_getElem? fun j => ?_
  unfold payAll Abs.paid
  by_cases hj : j < a.lows.length
  · rw [pay_fold (fun i hi => has_free h hi) a.byEnd a.price a.price _ I (byEnd_nodup a) (fun i hi => mem_byEnd.mp hi) List.length_replicate j hj]
    unfold Abs.ids
    rw [List.getElem?_map, List.getElem?_range hj]
    show some _ = some _
    congr 1
    unfold lookN
    have : (List.replicate a.lows.length 0).getD j 0 = 0 := by
      rw [List.getD_eq_getElem?_getD, List.getElem?_replicate]; split <;> rfl
    rw [this]
  · rw [List.getElem?_eq_none (by rw [payStep_len, List.length_replicate]; omega), List.getElem?_eq_none (by unfold Abs.ids; rw [List.length_map, List.length_range]; omega)]
end My
end
section
namespace My
open Kv365
def due (s : State) (f : Nat) (rest : List Int) : List Int := match PyFlat.calls PyKv365.shape f rest with
  | none => []
  | some cs => PyFlat.told (PyFlat.played Kv365Neutral.step s (cs.map PyKv365.whole))
def fine (f : Nat) (rest : List Int) : Prop := (PyFlat.calls PyKv365.shape f rest).isSome = true
theorem answers_due {l : List Int} (h : fine l.length l) : PyKv365.answers l = due none l.length l := by
  unfold fine at h
  unfold PyKv365.answers PyKv365.calls due
  cases e : PyFlat.calls PyKv365.shape l.length l with
  | none => rfl
  | some cs => rfl
theorem asked_fine {l : List Int} (h : PyKv365.answers_asked l = true) : fine l.length l ∧ (PyKv365.answers l).length ≤ 10000000 := by
  unfold PyKv365.answers_asked at h
  unfold fine
  cases e : PyFlat.calls PyKv365.shape l.length l with
  | none => rw [e] at h; cases h
  | some cs =>
    rw [e] at h
    simp only [Bool.and_eq_true] at h
    exact ⟨rfl, by simpa [PyFlat.short] using h.2⟩
theorem due_nil (s : State) (f : Nat) : due s f [] = [] := by
  unfold due
  cases f <;> rfl
theorem shape_out {p : Int} (h : ¬ (0 ≤ p ∧ p < 24)) : PyKv365.shape p = none := by
  unfold PyKv365.shape
  repeat rw [if_neg (by omega)]
theorem shape_all : ∀ k : Fin 24, ((PyKv365.shape (k.val : Int)).map fun x => decide (x.1 ≤ 3 ∧ x.2 ≤ 1)) = some true := by decide
theorem shape_kinds {p : Int} {n k : Nat} (h : PyKv365.shape p = some (n, k)) : 0 ≤ p ∧ p < 24 ∧ n ≤ 3 ∧ k ≤ 1 := by
  by_cases q : 0 ≤ p ∧ p < 24
  · refine ⟨q.1, q.2, ?_⟩
    have := shape_all ⟨p.toNat, by omega⟩
    have e : ((p.toNat : Nat) : Int) = p := Int.toNat_of_nonneg q.1
    simp only [e, h, Option.map_some] at this
    exact of_decide_eq_true (Option.some.inj this)
  · rw [shape_out q] at h; cases h
theorem fine_cons {f : Nat} {p : Int} {r : List Int} (h : fine f (p :: r)) : ∃ (n k g : Nat), f = g + 1 ∧ PyKv365.shape p = some (n, k) ∧ n ≤ r.length ∧
    ((k = 0 ∧ fine g (r.drop n) ∧ ∀ s, due s f (p :: r) = PyFlat.told [(Kv365Neutral.step s (PyKv365.whole [p :: r.take n])).2] ++ due (Kv365Neutral.step s (PyKv365.whole [p :: r.take n])).1 g (r.drop n)) ∨
     (k = 1 ∧ ∃ (m : Nat) (r2 : List Int), r.drop n = (m : Int) :: r2 ∧ m ≤ r2.length ∧ fine g (r2.drop m) ∧
        ∀ s, due s f (p :: r) = PyFlat.told [(Kv365Neutral.step s (PyKv365.whole [p :: r.take n, r2.take m])).2] ++ due (Kv365Neutral.step s (PyKv365.whole [p :: r.take n, r2.take m])).1 g (r2.drop m))) := by
  unfold fine at h
  cases f with
  | zero => cases h
  | succ g =>
    cases e1 : PyKv365.shape p with
    | none =>
      have : PyFlat.calls PyKv365.shape (g + 1) (p :: r) = none := by
        rw [PyFlat.calls, PyFlat.call, e1]
      rw [this] at h; cases h
    | some nk =>
      obtain ⟨n, k⟩ := nk
      have hk := (shape_kinds e1).2.2.2
      by_cases hn : r.length < n
      · have : PyFlat.calls PyKv365.shape (g + 1) (p :: r) = none := by
          rw [PyFlat.calls, PyFlat.call, e1]; simp only [if_pos hn]
        rw [this] at h; cases h
      · refine ⟨n, k, g, rfl, rfl, by omega, ?_⟩
        match k, hk with
        | 0, _ =>
          have hc : PyFlat.calls PyKv365.shape (g + 1) (p :: r) = match PyFlat.calls PyKv365.shape g (r.drop n) with
              | none => none
              | some cs => some ([p :: r.take n] :: cs) := by
            rw [PyFlat.calls, PyFlat.call, e1]; simp only [if_neg hn]; rfl
          cases e2 : PyFlat.calls PyKv365.shape g (r.drop n) with
          | none => rw [hc, e2] at h; cases h
          | some cs =>
            refine .inl ⟨rfl, by unfold fine; rw [e2]; rfl, fun s => ?_⟩
            unfold due
            rw [hc, e2]
            show PyFlat.told (_ :: _) = PyFlat.told [_] ++ PyFlat.told _
            unfold PyFlat.told
            rw [List.flatMap_cons, List.flatMap_cons, List.flatMap_nil, List.append_nil]
        | 1, _ =>
          cases e3 : r.drop n with
          | nil =>
            have : PyFlat.calls PyKv365.shape (g + 1) (p :: r) = none := by
              rw [PyFlat.calls, PyFlat.call, e1]; simp only [if_neg hn]; rw [e3]; rfl
            rw [this] at h; cases h
          | cons m r2 =>
            by_cases hm : 0 ≤ m ∧ m.toNat ≤ r2.length
            · have hc : PyFlat.calls PyKv365.shape (g + 1) (p :: r) = match PyFlat.calls PyKv365.shape g (r2.drop m.toNat) with
                  | none => none
                  | some cs => some ([p :: r.take n, r2.take m.toNat] :: cs) := by
                rw [PyFlat.calls, PyFlat.call, e1]; simp only [if_neg hn]; rw [e3]
                simp only [PyFlat.rows, PyFlat.row, if_pos hm]
                rfl
              cases e2 : PyFlat.calls PyKv365.shape g (r2.drop m.toNat) with
              | none => rw [hc, e2] at h; cases h
              | some cs =>
                refine .inr ⟨rfl, m.toNat, r2, by rw [Int.toNat_of_nonneg hm.1], hm.2, by unfold fine; rw [e2]; rfl, fun s => ?_⟩
                unfold due
                rw [hc, e2]
                show PyFlat.told (_ :: _) = PyFlat.told [_] ++ PyFlat.told _
                unfold PyFlat.told
                rw [List.flatMap_cons, List.flatMap_cons, List.flatMap_nil, List.append_nil]
            · have : PyFlat.calls PyKv365.shape (g + 1) (p :: r) = none := by
                rw [PyFlat.calls, PyFlat.call, e1]; simp only [if_neg hn]; rw [e3]
                simp only [PyFlat.rows, PyFlat.row, if_neg hm]
              rw [this] at h; cases h
end My
end
section
namespace My
open Kv365
theorem mem_windows {a : Abs} {w : Nat × Nat} : w ∈ a.windows ↔ w.1 < a.n ∧ w.2 < a.n ∧ w.1 ≤ w.2 := by
  unfold Abs.windows
  rw [List.mem_flatMap]
  constructor
  · rintro ⟨x, hx, h⟩
    obtain ⟨y, hy, rfl⟩ := List.mem_map.mp h
    obtain ⟨h1, h2⟩ := List.mem_filter.mp hy
    exact ⟨List.mem_range.mp hx, List.mem_range.mp h1, of_decide_eq_true h2⟩
  · rintro ⟨h1, h2, h3⟩
    exact ⟨w.1, List.mem_range.mpr h1, List.mem_map.mpr ⟨w.2, List.mem_filter.mpr ⟨List.mem_range.mpr h2, decide_eq_true h3⟩, rfl⟩⟩
theorem carries_iff {a : Abs} {k : Nat} {m : List Nat} : a.carries k m = true ↔ ∀ x y, x ≤ y → y < a.n → a.within x y ≤ room k m x y := by
  unfold Abs.carries Abs.tooMuch
  rw [Option.isNone_iff_eq_none, List.find?_eq_none]
  constructor
  · intro h x y hxy hy
    have := h (x, y) (mem_windows.mpr ⟨Nat.lt_of_le_of_lt hxy hy, hy, hxy⟩)
    simp only [decide_eq_true_eq] at this
    omega
  · intro h w hw
    obtain ⟨h1, h2, h3⟩ := mem_windows.mp hw
    have := h w.1 w.2 h3 h2
    simp only [decide_eq_true_eq]
    omega
theorem room_mono_m {m m' : List Nat} (h : m.Sublist m') (k x y : Nat) : room k m x y ≤ room k m' x y := Nat.mul_le_mul_left _ (h.filter _).length_le
theorem carries_mono_m {a : Abs} {k : Nat} {m m' : List Nat} (h : m.Sublist m') (c : a.carries k m = true) : a.carries k m' = true :=
  carries_iff.mpr fun x y h1 h2 => Nat.le_trans (carries_iff.mp c x y h1 h2) (room_mono_m h k x y)
theorem fewestFor_none (a : Abs) (k : Nat) : (a.fewestFor k).isNone = !a.carries k a.free := by
  unfold Abs.fewestFor
  cases e : least List.length (a.carries k) (sets a.free) with
  | none =>
    have := least_none.mp e a.free (mem_sets.mpr (List.Sublist.refl _))
    rw [this]; rfl
  | some m =>
    obtain ⟨h1, h2, _⟩ := least_some e
    have := carries_mono_m (mem_sets.mp h1) h2
    rw [this]; rfl
theorem sum_le_mul {l : List Nat} {c : Nat} (h : ∀ x ∈ l, x ≤ c) : l.sum ≤ c * l.length := by
  induction l with
  | nil => simp
  | cons x l ih =>
    have h1 := h x List.mem_cons_self
    have h2 := ih fun y hy => h y (List.mem_cons_of_mem _ hy)
    rw [List.sum_cons, List.length_cons, Nat.mul_succ]
    omega
theorem within_le {a : Abs} (W : Wf a) (x y : Nat) : a.within x y ≤ 160 := by
  unfold Abs.within
  have h : ∀ q ∈ (a.lows.filter fun l => decide (x ≤ l.from_) && decide (l.to_ ≤ y)).map Low.water, q ≤ 20 := fun q hq => by
    obtain ⟨l, hl, rfl⟩ := List.mem_map.mp hq
    have := W.lb l (List.mem_filter.mp hl).1
    omega
  have h2 := sum_le_mul h
  rw [List.length_map] at h2
  have h3 := List.length_filter_le (fun l : Low => decide (x ≤ l.from_) && decide (l.to_ ≤ y)) a.lows
  have h4 := W.ll
  omega
theorem leastRoom_some {a : Abs} {m : List Nat} {k : Nat} (h1 : 1 ≤ k) (h2 : k ≤ 160) (c : a.carries k m = true) (h : ∀ j, 1 ≤ j → j < k → a.carries j m = false) : a.leastRoom m = some k := by
  unfold Abs.leastRoom
  rw [List.find?_eq_some_iff_getElem]
  refine ⟨by simp [h1, c], k, by rw [List.length_range]; omega, by rw [List.getElem_range], fun j hj => ?_⟩
  rw [List.getElem_range]
  by_cases z : 1 ≤ j
  · simp [h j z hj]
  · simp [z]
theorem filter_le_range (n x : Nat) : (List.range n).filter (fun y => decide (x ≤ y)) = (List.range (n - x)).map fun j => x + j := by
  refine List.Perm.eq_of_pairwise (le := fun i j : Nat => i < j) (fun i j _ _ h h' => by omega) ((List.pairwise_lt_range).filter _) ?_ ?_
  · rw [List.pairwise_map]
    exact (List.pairwise_lt_range).imp fun h => by omega
  · refine (List.perm_ext_iff_of_nodup (List.nodup_range.filter _) ?_).mpr fun y => ?_
    · rw [List.nodup_iff_pairwise_ne, List.pairwise_map]
      exact (List.pairwise_lt_range).imp fun h => by omega
    · rw [List.mem_filter, List.mem_range, List.mem_map, decide_eq_true_eq]
      constructor
      · rintro ⟨h1, h2⟩
        exact ⟨y - x, List.mem_range.mpr (by omega), by omega⟩
      · rintro ⟨j, hj, rfl⟩
        have := List.mem_range.mp hj
        omega
structure Pour where
  room : Nat
  left : List Nat
  told : List (Nat × Nat × Nat)
def pourAmt (a : Abs) (s : Nat) (st : Pour) (i : Nat) : Nat := if (a.low i).has s then min st.room (st.left.getD i 0) else 0
def pourStep (a : Abs) (s : Nat) (st : Pour) (i : Nat) : Pour :=
  let x := pourAmt a s st i
  ⟨st.room - x, st.left.set i (st.left.getD i 0 - x), if x = 0 then st.told else st.told ++ [(i, s, x)]⟩
def pourRow (a : Abs) (s k : Nat) (l : List Nat) (left : List Nat) (told : List (Nat × Nat × Nat)) : Pour := l.foldl (pourStep a s) ⟨k, left, told⟩
def withLeft (a : Abs) (left : List Nat) (i : Nat) : Nat × Low := (i, { a.low i with water := left.getD i 0 })
theorem getD_set_ne {l : List Nat} {i j v : Nat} (h : i ≠ j) : (l.set i v).getD j 0 = l.getD j 0 := by
  rw [List.getD_eq_getElem?_getD, List.getElem?_set_ne h, ← List.getD_eq_getElem?_getD]
theorem getD_set_eq {l : List Nat} {i v : Nat} (h : i < l.length) : (l.set i v).getD i 0 = v := by
  rw [List.getD_eq_getElem?_getD, List.getElem?_set_self h]; rfl
theorem pourRow_left_out (a : Abs) (s : Nat) : ∀ (l : List Nat) (st : Pour) (j : Nat), j ∉ l → (l.foldl (pourStep a s) st).left.getD j 0 = st.left.getD j 0
  | [], _, _, _ => rfl
  | i :: l, st, j, h => by
    rw [List.foldl_cons, pourRow_left_out a s l _ j (fun z => h (List.mem_cons_of_mem _ z))]
    exact getD_set_ne fun z => h (by rw [z]; exact List.mem_cons_self)
theorem pourStep_len (a : Abs) (s : Nat) : ∀ (l : List Nat) (st : Pour), (l.foldl (pourStep a s) st).left.length = st.left.length
  | [], _ => rfl
  | i :: l, st => by
    rw [List.foldl_cons, pourStep_len a s l]
    show (st.left.set i _).length = _
    rw [List.length_set]
theorem pour_eq (a : Abs) (s : Nat) : ∀ (l : List Nat) (st : Pour), l.Nodup → (∀ i ∈ l, i < st.left.length) →
    (pour s st.room (l.map (withLeft a st.left))).1 = l.map (withLeft a (l.foldl (pourStep a s) st).left) ∧ (l.foldl (pourStep a s) st).told = st.told ++ (pour s st.room (l.map (withLeft a st.left))).2
  | [], st, _, _ => ⟨rfl, by rw [List.map_nil]; show st.told = st.told ++ []; rw [List.append_nil]⟩
  | i :: l, st, hn, hl => by
    have hni := (List.nodup_cons.mp hn).1
    have hi := hl i List.mem_cons_self
    have hx : (if ({ a.low i with water := st.left.getD i 0 } : Low).has s then min st.room (st.left.getD i 0) else 0) = pourAmt a s st i := rfl
    have em : l.map (withLeft a st.left) = l.map (withLeft a (pourStep a s st i).left) := List.map_congr_left fun j hj => by
      unfold withLeft
      rw [show (pourStep a s st i).left.getD j 0 = st.left.getD j 0 from getD_set_ne fun z => hni (by rw [z]; exact hj)]
    obtain ⟨h1, h2⟩ := pour_eq a s l (pourStep a s st i) (List.nodup_cons.mp hn).2 fun j hj => by
      show j < (st.left.set i _).length
      rw [List.length_set]; exact hl j (List.mem_cons_of_mem _ hj)
    have e1 : (pourStep a s st i).room = st.room - pourAmt a s st i := rfl
    rw [← em, e1] at h1 h2
    rw [List.map_cons, List.map_cons, List.foldl_cons]
    have hp : pour s st.room (withLeft a st.left i :: l.map (withLeft a st.left)) = ((i, { a.low i with water := st.left.getD i 0 - pourAmt a s st i }) :: (pour s (st.room - pourAmt a s st i) (l.map (withLeft a st.left))).1, if pourAmt a s st i = 0 then (pour s (st.room - pourAmt a s st i) (l.map (withLeft a st.left))).2 else (i, s, pourAmt a s st i) :: (pour s (st.room - pourAmt a s st i) (l.map (withLeft a st.left))).2) := rfl
    rw [hp]
    refine ⟨?_, ?_⟩
    · show _ :: _ = _ :: _
      rw [h1]
      congr 1
      unfold withLeft
      rw [pourRow_left_out a s l _ i hni, show (pourStep a s st i).left.getD i 0 = st.left.getD i 0 - pourAmt a s st i from getD_set_eq hi]
    · rw [h2]
      show (if pourAmt a s st i = 0 then st.told else st.told ++ [(i, s, pourAmt a s st i)]) ++ _ = _
      by_cases z : pourAmt a s st i = 0
      · rw [if_pos z]; simp only [if_pos z]
      · rw [if_neg z]; simp only [if_neg z]; rw [List.append_assoc]; rfl
def shareAll (a : Abs) (k : Nat) (m : List Nat) : List Nat × List (Nat × Nat × Nat) := m.foldl (fun st s => let p := pourRow a s k a.byEnd st.1 st.2; (p.left, p.told)) (a.lows.map Low.water, [])
theorem pours_eq (a : Abs) (k : Nat) : ∀ (m left : List Nat) (told : List (Nat × Nat × Nat)), left.length = a.lows.length →
    (m.foldl (fun st s => let p := pourRow a s k a.byEnd st.1 st.2; (p.left, p.told)) (left, told)).2 = told ++ pours k m (a.byEnd.map (withLeft a left))
  | [], left, told, _ => by show told = told ++ []; rw [List.append_nil]
  | s :: m, left, told, hl => by
    rw [List.foldl_cons]
    obtain ⟨h1, h2⟩ := pour_eq a s a.byEnd ⟨k, left, told⟩ (byEnd_nodup a) fun i hi => by show i < left.length; rw [hl]; exact mem_byEnd.mp hi
    have h3 := pours_eq a k m (pourRow a s k a.byEnd left told).left (pourRow a s k a.byEnd left told).told (by rw [show (pourRow a s k a.byEnd left told).left.length = left.length from pourStep_len a s _ _, hl])
    show (m.foldl _ ((pourRow a s k a.byEnd left told).left, (pourRow a s k a.byEnd left told).told)).2 = _
    rw [h3]
    show _ = told ++ ((pour s k (a.byEnd.map (withLeft a left))).2 ++ pours k m (pour s k (a.byEnd.map (withLeft a left))).1)
    have h1' : (pour s k (a.byEnd.map (withLeft a left))).1 = a.byEnd.map (withLeft a (pourRow a s k a.byEnd left told).left) := h1
    have h2' : (pourRow a s k a.byEnd left told).told = told ++ (pour s k (a.byEnd.map (withLeft a left))).2 := h2
    rw [h1', h2', List.append_assoc]
theorem share_eq (a : Abs) (k : Nat) (m : List Nat) : (shareAll a k m).2 = a.share k m := by
  unfold shareAll Abs.share
  rw [pours_eq a k m _ [] (by rw [List.length_map]), List.nil_append]
  congr 1
  refine List.map_congr_left fun i hi => ?_
  unfold withLeft
  have hi' := mem_byEnd.mp hi
  have : (a.lows.map Low.water).getD i 0 = (a.low i).water := by
    unfold Abs.low
    rw [List.getD_eq_getElem?_getD, List.getElem?_map, List.getD_eq_getElem?_getD, List.getElem?_eq_getElem hi']; rfl
  rw [this]
end My
end
section
namespace My
open Kv365
def cnt (m : List Nat) (x y : Nat) : Nat := (m.filter fun s => decide (x ≤ s) && decide (s ≤ y)).length
theorem room_eq (k : Nat) (m : List Nat) (x y : Nat) : room k m x y = k * cnt m x y := rfl
structure Span where
  a : Nat
  b : Nat
  flow : Nat
  count : Nat
def spanOf (a : Abs) (m : List Nat) (x y : Nat) : Span := ⟨x, y, a.within x y, cnt m x y⟩
def rowSpans (a : Abs) (m : List Nat) (x : Nat) : List Span := (List.range (a.n - x)).map fun j => spanOf a m x (x + j)
def spansOf (a : Abs) (m : List Nat) : List Span := (List.range a.n).flatMap (rowSpans a m)
theorem spans_windows (a : Abs) (m : List Nat) : spansOf a m = a.windows.map fun w => spanOf a m w.1 w.2 := by
  unfold spansOf Abs.windows rowSpans
  rw [List.map_flatMap]
  congr 1
  funext x
  rw [filter_le_range, List.map_map, List.map_map]
  rfl
theorem mem_spans {a : Abs} {m : List Nat} {s : Span} (h : s ∈ spansOf a m) : s.a ≤ s.b ∧ s.b < a.n ∧ s.flow = a.within s.a s.b ∧ s.count = cnt m s.a s.b := by
  rw [spans_windows] at h
  obtain ⟨w, hw, rfl⟩ := List.mem_map.mp h
  obtain ⟨h1, h2, h3⟩ := mem_windows.mp hw
  exact ⟨h3, h2, rfl, rfl⟩
theorem spans_mem {a : Abs} (m : List Nat) {x y : Nat} (h1 : x ≤ y) (h2 : y < a.n) : spanOf a m x y ∈ spansOf a m := by
  rw [spans_windows]
  exact List.mem_map.mpr ⟨(x, y), mem_windows.mpr ⟨Nat.lt_of_le_of_lt h1 h2, h2, h1⟩, rfl⟩
theorem within_two (a : Abs) (x y : Nat) : a.within x y = (((a.lows.filter fun l => decide (x ≤ l.from_)).filter fun l => decide (l.to_ ≤ y)).map Low.water).sum := by
  unfold Abs.within
  rw [List.filter_filter]
  congr 2
  refine List.filter_congr fun l _ => ?_
  rw [Bool.and_comm]
theorem cnt_two (m : List Nat) (x y : Nat) : cnt m x y = ((m.filter fun s => decide (x ≤ s)).filter fun s => decide (s ≤ y)).length := by
  unfold cnt
  rw [List.filter_filter]
  congr 1
  refine List.filter_congr fun l _ => ?_
  rw [Bool.and_comm]
def tooM (k : Nat) (s : Span) : Bool := decide (k * s.count < s.flow)
theorem find_map' {α β : Type} (f : α → β) (p : β → Bool) : ∀ l : List α, (l.map f).find? p = (l.find? (p ∘ f)).map f
  | [] => rfl
  | x :: l => by
    rw [List.map_cons, List.find?_cons, List.find?_cons, find_map' f p l]
    show (match p (f x) with | true => some (f x) | false => _) = Option.map f (match p (f x) with | true => some x | false => _)
    cases p (f x) <;> rfl
theorem tooMuch_spans (a : Abs) (k : Nat) (m : List Nat) : (spansOf a m).find? (tooM k) = (a.tooMuch k m).map fun w => spanOf a m w.1 w.2 := by
  rw [spans_windows, find_map']
  rfl
theorem cnt_le (m : List Nat) (x y : Nat) : cnt m x y ≤ m.length := List.length_filter_le _ _
def roomStep (st : Option Nat) (s : Span) : Option Nat := match st with
  | none => none
  | some k => if 0 < s.flow ∧ s.count = 0 then none else if k * s.count < s.flow then some ((s.flow + s.count - 1) / s.count) else some k
theorem ceil_le {f c k : Nat} (hc : 0 < c) : (f + c - 1) / c ≤ k ↔ f ≤ k * c := by
  rw [← Nat.lt_succ_iff, Nat.div_lt_iff_lt_mul hc, Nat.succ_mul]
  omega
def fits (k : Nat) (s : Span) : Prop := s.flow ≤ k * s.count
theorem roomStep_some {k : Nat} {s : Span} {k' : Nat} (h : roomStep (some k) s = some k') : k ≤ k' ∧ (∀ j, k' ≤ j ↔ (k ≤ j ∧ fits j s)) ∧ (k' = k ∨ k' ≤ s.flow) := by
  unfold roomStep at h
  simp only at h
  split at h
  · cases h
  · rename_i h1
    split at h
    · rename_i h2
      cases h
      have hc : 0 < s.count := by
        apply Nat.pos_of_ne_zero
        intro z
        exact h1 ⟨by omega, z⟩
      have key : ∀ j, (s.flow + s.count - 1) / s.count ≤ j ↔ s.flow ≤ j * s.count := fun j => ceil_le hc
      have hk : k < (s.flow + s.count - 1) / s.count := by
        apply Nat.lt_of_not_le
        intro z
        have := (key k).mp z
        omega
      refine ⟨Nat.le_of_lt hk, fun j => ⟨fun hj => ⟨by omega, (key j).mp hj⟩, fun hj => (key j).mpr hj.2⟩, .inr ?_⟩
      apply (key s.flow).mpr
      exact Nat.le_mul_of_pos_right _ hc
    · rename_i h2
      cases h
      refine ⟨Nat.le_refl _, fun j => ⟨fun hj => ⟨hj, ?_⟩, fun hj => hj.1⟩, .inl rfl⟩
      unfold fits
      have := Nat.mul_le_mul_right s.count hj
      omega
theorem roomStep_none {k : Nat} {s : Span} (h : roomStep (some k) s = none) : ∀ j, ¬ fits j s := by
  unfold roomStep at h
  simp only at h
  split at h
  · rename_i h1
    intro j z
    unfold fits at z
    rw [h1.2, Nat.mul_zero] at z
    omega
  · split at h <;> cases h
theorem room_none : ∀ l : List Span, l.foldl roomStep none = none
  | [] => rfl
  | _ :: l => room_none l
theorem room_fold : ∀ (l : List Span) (k : Nat), (∃ k', l.foldl roomStep (some k) = some k' ∧ k ≤ k' ∧ (∀ j, k' ≤ j ↔ (k ≤ j ∧ ∀ s ∈ l, fits j s)) ∧ (k' = k ∨ ∃ s ∈ l, k' ≤ s.flow)) ∨ (l.foldl roomStep (some k) = none ∧ ∀ j, ¬ ∀ s ∈ l, fits j s)
  | [], k => .inl ⟨k, rfl, Nat.le_refl _, fun j => ⟨fun h => ⟨h, fun _ z => (nomatch z)⟩, fun h => h.1⟩, .inl rfl⟩
  | s :: l, k => by
    rw [List.foldl_cons]
    cases e : roomStep (some k) s with
    | none =>
      right
      refine ⟨room_none l, fun j z => ?_⟩
      exact roomStep_none e j (z s List.mem_cons_self)
    | some k1 =>
      obtain ⟨a1, a2, a3⟩ := roomStep_some e
      rcases room_fold l k1 with ⟨k', h1, h2, h3, h4⟩ | ⟨h1, h2⟩
      · left
        refine ⟨k', h1, Nat.le_trans a1 h2, fun j => ?_, ?_⟩
        · rw [h3 j, a2 j]
          constructor
          · rintro ⟨⟨b1, b2⟩, b3⟩
            refine ⟨b1, fun t ht => ?_⟩
            rcases List.mem_cons.mp ht with rfl | ht
            · exact b2
            · exact b3 t ht
          · rintro ⟨b1, b2⟩
            exact ⟨⟨b1, b2 s List.mem_cons_self⟩, fun t ht => b2 t (List.mem_cons_of_mem _ ht)⟩
        · rcases h4 with h4 | ⟨t, ht, h4⟩
          · rcases a3 with a3 | a3
            · exact .inl (h4.trans a3)
            · exact .inr ⟨s, List.mem_cons_self, by omega⟩
          · exact .inr ⟨t, List.mem_cons_of_mem _ ht, h4⟩
      · right
        exact ⟨h1, fun j z => h2 j fun t ht => z t (List.mem_cons_of_mem _ ht)⟩
theorem carries_fits {a : Abs} {k : Nat} {m : List Nat} : a.carries k m = true ↔ ∀ s ∈ spansOf a m, fits k s := by
  rw [carries_iff]
  constructor
  · intro h s hs
    obtain ⟨h1, h2, h3, h4⟩ := mem_spans hs
    unfold fits
    rw [h3, h4]
    exact h s.a s.b h1 h2
  · intro h x y h1 h2
    exact h _ (spans_mem m h1 h2)
theorem leastRoom_fold {a : Abs} (W : Wf a) (m : List Nat) : (spansOf a m).foldl roomStep (some 1) = a.leastRoom m := by
  rcases room_fold (spansOf a m) 1 with ⟨k', h1, h2, h3, h4⟩ | ⟨h1, h2⟩
  · rw [h1]
    have hk : k' ≤ 160 := by
      rcases h4 with h4 | ⟨s, hs, h4⟩
      · omega
      · obtain ⟨_, _, h5, _⟩ := mem_spans hs
        have := within_le W s.a s.b
        omega
    refine (leastRoom_some h2 hk (carries_fits.mpr ((h3 k').mp (Nat.le_refl _)).2) fun j hj1 hj2 => ?_).symm
    cases q : a.carries j m with
    | false => rfl
    | true =>
      have := (h3 j).mpr ⟨hj1, carries_fits.mp q⟩
      omega
  · rw [h1]
    cases e : a.leastRoom m with
    | none => rfl
    | some k =>
      unfold Abs.leastRoom at e
      have := List.find?_some e
      rw [Bool.and_eq_true] at this
      exact absurd (carries_fits.mp this.2) (h2 k)
theorem room_bound {a : Abs} (W : Wf a) {m : List Nat} {l : List Span} {k : Nat} (hl : ∀ s ∈ l, s ∈ spansOf a m) (h : l.foldl roomStep (some 1) = some k) : 1 ≤ k ∧ k ≤ 160 := by
  rcases room_fold l 1 with ⟨k', h1, h2, h3, h4⟩ | ⟨h1, h2⟩
  · rw [h1] at h
    cases h
    refine ⟨h2, ?_⟩
    rcases h4 with h4 | ⟨s, hs, h4⟩
    · omega
    · obtain ⟨_, _, h5, _⟩ := mem_spans (hl s hs)
      have := within_le W s.a s.b
      omega
  · rw [h1] at h; cases h
def leaveStep (ok : List Nat → Bool) (row : List Nat) (s : Nat) : List Nat := if ok (row.filter fun x => x != s) then row.filter fun x => x != s else row
def leaveOut (ok : List Nat → Bool) (free : List Nat) : List Nat := free.reverse.foldl (leaveStep ok) free
structure LeaveOk (ok : List Nat → Bool) (pre t row kept : List Nat) : Prop where
  eq : row = pre ++ kept
  sub : kept.Sublist t
  good : ok row = true
  need : ∀ (l r : List Nat) (s : Nat), kept = l ++ s :: r → ok ((pre ++ t).filter (fun x => decide (x < s)) ++ r) = false
theorem filter_ne_of {l : List Nat} {s : Nat} (h : ∀ x ∈ l, x ≠ s) : l.filter (fun x => x != s) = l := by
  rw [List.filter_eq_self]
  intro x hx
  simpa using h x hx
theorem leave_step {ok : List Nat → Bool} {pre t row kept : List Nat} {s : Nat} (h : LeaveOk ok (pre ++ [s]) t row kept) (hs : (pre ++ s :: t).Pairwise (· < ·)) : ∃ kept', LeaveOk ok pre (s :: t) (leaveStep ok row s) kept' := by
  obtain ⟨e, sub, good, need⟩ := h
  have hp := List.pairwise_append.mp hs
  have h1 : ∀ x ∈ pre, x < s := fun x hx => hp.2.2 x hx s List.mem_cons_self
  have h2 : ∀ x ∈ t, s < x := (List.pairwise_cons.mp hp.2.1).1
  have ea : pre ++ [s] ++ t = pre ++ s :: t := by rw [List.append_assoc]; rfl
  rw [ea] at need
  have ef : row.filter (fun x => x != s) = pre ++ kept := by
    rw [e, List.filter_append, List.filter_append, filter_ne_of (fun x hx => Nat.ne_of_lt (h1 x hx)), filter_ne_of (fun x hx => Nat.ne_of_gt (h2 x (sub.subset hx)))]
    simp
  have el : (pre ++ s :: t).filter (fun x => decide (x < s)) = pre := by
    rw [List.filter_append, List.filter_eq_self.mpr fun x hx => decide_eq_true (h1 x hx), List.filter_eq_nil_iff.mpr, List.append_nil]
    intro x hx z
    have z := of_decide_eq_true z
    rcases List.mem_cons.mp hx with q | q
    · omega
    · have := h2 x q; omega
  unfold leaveStep
  rw [ef]
  cases q : ok (pre ++ kept) with
  | true =>
    rw [if_pos rfl]
    exact ⟨kept, rfl, sub.cons s, q, need⟩
  | false =>
    rw [if_neg Bool.false_ne_true]
    refine ⟨s :: kept, by rw [e, List.append_assoc]; rfl, sub.cons_cons s, good, fun l r x hx => ?_⟩
    cases l with
    | nil =>
      have ex : s = x := (List.cons.inj hx).1
      have er : kept = r := (List.cons.inj hx).2
      subst ex er
      rw [el]; exact q
    | cons l0 l => exact need l r x (List.cons.inj hx).2
theorem leave_all {ok : List Nat → Bool} : ∀ (n : Nat) (pre t row kept : List Nat), pre.length = n → LeaveOk ok pre t row kept → (pre ++ t).Pairwise (· < ·) → ∃ kept', LeaveOk ok [] (pre ++ t) (pre.reverse.foldl (leaveStep ok) row) kept'
  | 0, pre, t, row, kept, hn, h, _ => by
    have e : pre = [] := List.length_eq_zero_iff.mp hn
    subst e
    exact ⟨kept, h⟩
  | n + 1, pre, t, row, kept, hn, h, hs => by
    have hne : pre ≠ [] := fun z => by rw [z] at hn; cases hn
    have ep : pre = pre.dropLast ++ [pre.getLast hne] := (List.dropLast_concat_getLast hne).symm
    generalize pre.getLast hne = s at ep
    generalize hq : pre.dropLast = q at ep
    have hql : q.length = n := by rw [← hq, List.length_dropLast, hn]; rfl
    subst ep
    have hs' : (q ++ s :: t).Pairwise (· < ·) := by rw [List.append_assoc] at hs; exact hs
    obtain ⟨k1, h1⟩ := leave_step h hs'
    obtain ⟨k2, h2⟩ := leave_all n q (s :: t) _ k1 hql h1 hs'
    refine ⟨k2, ?_⟩
    rw [List.reverse_append, List.foldl_append, List.append_assoc]
    exact h2
theorem leaveOut_ok {ok : List Nat → Bool} {free : List Nat} (hs : free.Pairwise (· < ·)) (h : ok free = true) : LeaveOk ok [] free (leaveOut ok free) (leaveOut ok free) := by
  have h0 : LeaveOk ok free [] free [] := ⟨by rw [List.append_nil], List.Sublist.refl _, h, fun l r s z => by cases l <;> cases z⟩
  obtain ⟨k, hk⟩ := leave_all free.length free [] free [] rfl h0 (by rw [List.append_nil]; exact hs)
  rw [List.append_nil] at hk
  have e : leaveOut ok free = k := hk.eq
  have hk' : LeaveOk ok [] free (leaveOut ok free) k := hk
  rw [← e] at hk'
  exact hk'
def above (p : Nat) (l : List Nat) : Nat := (l.filter fun s => decide (p ≤ s)).length
theorem above_cons (p x : Nat) (l : List Nat) : above p (x :: l) = (if p ≤ x then 1 else 0) + above p l := by
  unfold above
  rw [List.filter_cons]
  by_cases h : p ≤ x
  · rw [if_pos (decide_eq_true h), if_pos h, List.length_cons]; omega
  · rw [if_neg (by rw [decide_eq_false h]; exact Bool.false_ne_true), if_neg h]; omega
theorem cnt_cons (x : Nat) (l : List Nat) (a b : Nat) : cnt (x :: l) a b = (if a ≤ x ∧ x ≤ b then 1 else 0) + cnt l a b := by
  unfold cnt
  rw [List.filter_cons]
  by_cases h : a ≤ x ∧ x ≤ b
  · rw [if_pos (by simp [h]), if_pos h, List.length_cons]; omega
  · rw [if_neg (by simpa using h), if_neg h]; omega
theorem cnt_append (l m : List Nat) (a b : Nat) : cnt (l ++ m) a b = cnt l a b + cnt m a b := by
  unfold cnt; rw [List.filter_append, List.length_append]
theorem above_split (p y : Nat) (h : p ≤ y) : ∀ l : List Nat, above p l = cnt l p y + above (y + 1) l
  | [] => rfl
  | x :: l => by
    rw [above_cons, above_cons, cnt_cons, above_split p y h l]
    split <;> split <;> split <;> omega
theorem cnt_split (p : Nat) {x y : Nat} (hx : x ≤ p) : ∀ l : List Nat, cnt l x y = cnt (l.filter fun s => decide (s < p)) x y + cnt l p y
  | [] => rfl
  | s :: l => by
    rw [cnt_cons, cnt_cons, cnt_split p hx l]
    by_cases h : s < p
    · rw [List.filter_cons_of_pos (by simpa using h), cnt_cons]
      split <;> split <;> omega
    · rw [List.filter_cons_of_neg (by simpa using h)]
      split <;> split <;> omega
theorem cnt_zero {l : List Nat} {a b : Nat} (h : ∀ x ∈ l, ¬ (a ≤ x ∧ x ≤ b)) : cnt l a b = 0 := by
  unfold cnt
  rw [List.filter_eq_nil_iff.mpr]
  · rfl
  · intro x hx
    have := h x hx
    simpa using this
theorem cnt_sub {l m : List Nat} (h : l.Sublist m) (a b : Nat) : cnt l a b ≤ cnt m a b := (h.filter _).length_le
theorem above_zero {l : List Nat} {p : Nat} (h : ∀ x ∈ l, x < p) : above p l = 0 := by
  unfold above
  rw [List.filter_eq_nil_iff.mpr]
  · rfl
  · intro x hx
    have := h x hx
    simp only [decide_eq_true_eq]
    omega
theorem above_all {l : List Nat} {p : Nat} (h : ∀ x ∈ l, p ≤ x) : above p l = l.length := by
  unfold above
  rw [List.filter_eq_self.mpr fun x hx => decide_eq_true (h x hx)]
theorem above_step {l : List Nat} {p : Nat} (h : p ∉ l) : above p l = above (p + 1) l := by
  unfold above
  congr 1
  refine List.filter_congr fun x hx => ?_
  have : x ≠ p := fun z => h (by rw [← z]; exact hx)
  congr 1; apply propext; omega
theorem above_mono {l : List Nat} {p q : Nat} (h : p ≤ q) : above q l ≤ above p l := by
  induction l with
  | nil => exact Nat.le_refl _
  | cons x l ih =>
    rw [above_cons, above_cons]
    split <;> split <;> omega
theorem leave_above {a : Abs} {k : Nat} {R S : List Nat} (hR : LeaveOk (a.carries k) [] a.free R R) (hS : S.Sublist a.free) (cS : a.carries k S = true) : ∀ (d p : Nat), a.n - p = d → above p R ≤ above p S := by
  intro d
  induction d using Nat.strongRecOn with
  | _ d ih =>
  intro p hd
  have hlt : ∀ x ∈ R, x < a.n := fun x hx => (mem_free.mp (hR.sub.subset hx)).1
  by_cases hp : p ∈ R
  · have hpn := hlt p hp
    obtain ⟨l, r, e⟩ := List.append_of_mem hp
    have hso : R.Pairwise (· < ·) := (free_sorted a).sublist hR.sub
    rw [e] at hso
    have hpw := List.pairwise_append.mp hso
    have hl : ∀ x ∈ l, x < p := fun x hx => hpw.2.2 x hx p List.mem_cons_self
    have hr : ∀ x ∈ r, p < x := (List.pairwise_cons.mp hpw.2.1).1
    have bad := hR.need l r p e
    rw [List.nil_append] at bad
    have : ∃ x y, x ≤ y ∧ y < a.n ∧ room k (a.free.filter (fun x => decide (x < p)) ++ r) x y < a.within x y := by
      apply Classical.byContradiction
      intro z
      have : a.carries k (a.free.filter (fun x => decide (x < p)) ++ r) = true := carries_iff.mpr fun x y h1 h2 => by
        apply Nat.le_of_not_lt
        intro q
        exact z ⟨x, y, h1, h2, q⟩
      rw [bad] at this; cases this
    obtain ⟨x, y, hxy, hyn, hw⟩ := this
    have h1 := carries_iff.mp cS x y hxy hyn
    have h2 := carries_iff.mp hR.good x y hxy hyn
    rw [room_eq] at hw h1 h2
    have h3 : cnt (a.free.filter (fun x => decide (x < p)) ++ r) x y < cnt S x y := Nat.lt_of_mul_lt_mul_left (Nat.lt_of_lt_of_le hw h1)
    have h4 : cnt (a.free.filter (fun x => decide (x < p)) ++ r) x y < cnt R x y := Nat.lt_of_mul_lt_mul_left (Nat.lt_of_lt_of_le hw h2)
    rw [cnt_append] at h3 h4
    rw [e, cnt_append, cnt_cons] at h4
    have hxp : x ≤ p := by
      apply Nat.le_of_not_lt
      intro z
      rw [cnt_zero (l := l) (fun s hs q => by have := hl s hs; omega), if_neg (by omega)] at h4
      omega
    rw [cnt_split p hxp S] at h3
    have h5 := cnt_sub (hS.filter fun s => decide (s < p)) x y
    have h6 : cnt r x y < cnt S p y := by omega
    have hpy : p ≤ y := by
      apply Nat.le_of_not_lt
      intro z
      rw [cnt_zero (l := S) (fun s hs q => by omega)] at h6
      omega
    have h7 : cnt R p y = 1 + cnt r x y := by
      rw [e, cnt_append, cnt_cons, cnt_zero (l := l) (fun s hs q => by have := hl s hs; omega), if_pos (by omega)]
      have : cnt r p y = cnt r x y := by
        unfold cnt
        congr 1
        refine List.filter_congr fun s hs => ?_
        have := hr s hs
        rw [decide_eq_true (show p ≤ s by omega), decide_eq_true (show x ≤ s by omega)]
      omega
    have h8 := ih (a.n - (y + 1)) (by omega) (y + 1) rfl
    rw [above_split p y hpy R, above_split p y hpy S]
    omega
  · by_cases hpn : p < a.n
    · rw [above_step hp]
      have h8 := ih (a.n - (p + 1)) (by omega) (p + 1) rfl
      exact Nat.le_trans h8 (above_mono (Nat.le_succ p))
    · rw [above_zero fun x hx => by have := hlt x hx; omega]
      exact Nat.zero_le _
theorem above_ahead : ∀ (R S : List Nat), R.Pairwise (· < ·) → S.Pairwise (· < ·) → R.length = S.length → (∀ p, above p R ≤ above p S) → ahead S R = false
  | [], [], _, _, _, _ => rfl
  | [], _ :: _, _, _, h, _ => by cases h
  | _ :: _, [], _, _, h, _ => by cases h
  | r :: R, s :: S, hR, hS, hl, h => by
    have h1 : r ≤ s := by
      apply Nat.le_of_not_lt
      intro z
      have h2 := h (s + 1)
      rw [above_all (l := r :: R) (fun x hx => by
        rcases List.mem_cons.mp hx with q | q
        · omega
        · have := (List.pairwise_cons.mp hR).1 x q; omega)] at h2
      have h3 : above (s + 1) (s :: S) ≤ S.length := by
        rw [above_cons, if_neg (by omega)]
        have : above (s + 1) S ≤ S.length := List.length_filter_le _ _
        omega
      rw [hl, List.length_cons] at h2
      omega
    show (decide (s < r) || (s == r && ahead S R)) = false
    rw [decide_eq_false (by omega), Bool.false_or]
    by_cases e : s = r
    · subst e
      rw [above_ahead R S (List.pairwise_cons.mp hR).2 (List.pairwise_cons.mp hS).2 (by simpa using hl) fun p => by
        have := h p
        rw [above_cons, above_cons] at this
        omega]
      simp
    · rw [beq_eq_false_iff_ne.mpr e, Bool.false_and]
theorem fewestFor_leave {a : Abs} {k : Nat} (h : a.carries k a.free = true) : a.fewestFor k = some (leaveOut (a.carries k) a.free) := by
  have L := leaveOut_ok (free_sorted a) h
  unfold Abs.fewestFor
  refine least_is (mem_sets.mpr L.sub) L.good fun c hc hok => ?_
  have hcs := mem_sets.mp hc
  have key := fun p => leave_above L hcs hok (a.n - p) p rfl
  have h0 : (leaveOut (a.carries k) a.free).length ≤ c.length := by
    have := key 0
    rw [above_all (fun _ _ => Nat.zero_le _), above_all (fun _ _ => Nat.zero_le _)] at this
    exact this
  rintro (q | ⟨q1, q2⟩)
  · omega
  · rw [above_ahead _ _ ((free_sorted a).sublist L.sub) ((free_sorted a).sublist hcs) q1.symm key] at q2
    cases q2
def leaveAt (ok : List Nat → Bool) (free : List Nat) (i : Nat) : List Nat := (free.reverse.take i).foldl (leaveStep ok) free
theorem leaveAt_succ {ok : List Nat → Bool} {free : List Nat} {i s : Nat} (h : free.reverse[i]? = some s) : leaveAt ok free (i + 1) = leaveStep ok (leaveAt ok free i) s := by
  unfold leaveAt
  rw [List.take_add_one, h, List.foldl_append]
  rfl
theorem leaveAt_all (ok : List Nat → Bool) (free : List Nat) : leaveAt ok free free.length = leaveOut ok free := by
  unfold leaveAt leaveOut
  rw [← List.length_reverse, List.take_length]
theorem leaveStep_sub (ok : List Nat → Bool) (row : List Nat) (s : Nat) : (leaveStep ok row s).Sublist row := by
  unfold leaveStep
  split
  · exact List.filter_sublist
  · exact List.Sublist.refl _
theorem leave_sub (ok : List Nat → Bool) : ∀ (l row : List Nat), (l.foldl (leaveStep ok) row).Sublist row
  | [], row => List.Sublist.refl _
  | s :: l, row => (leave_sub ok l _).trans (leaveStep_sub ok row s)
theorem leaveAt_sub (ok : List Nat → Bool) (free : List Nat) (i : Nat) : (leaveAt ok free i).Sublist free := leave_sub ok _ _
end My
end
section
namespace My
open Kv365
theorem set_same {l : List Nat} {i : Nat} : l.set i (l.getD i 0) = l := by
  refine List.ext_getElem? fun j => ?_
  rw [List.getElem?_set]
  by_cases e : i = j
  · subst e
    rw [if_pos rfl]
    by_cases h : i < l.length
    · rw [if_pos h, List.getD_eq_getElem?_getD, List.getElem?_eq_getElem h]; rfl
    · rw [if_neg h, List.getElem?_eq_none (by omega)]
  · rw [if_neg e]
theorem pourStep_zero {a : Abs} {s : Nat} {st : Pour} {i : Nat} (h : pourAmt a s st i = 0) : pourStep a s st i = st := by
  unfold pourStep
  simp only [h, Nat.sub_zero, if_true, set_same]
theorem pourStep_out {a : Abs} {s : Nat} {st : Pour} {i : Nat} (h : (a.low i).has s = false) : pourStep a s st i = st :=
  pourStep_zero (by unfold pourAmt; rw [h]; rfl)
theorem pour_filter (a : Abs) (s : Nat) : ∀ (l : List Nat) (st : Pour), l.foldl (pourStep a s) st = (l.filter fun i => (a.low i).has s).foldl (pourStep a s) st
  | [], _ => rfl
  | i :: l, st => by
    rw [List.foldl_cons]
    cases h : (a.low i).has s with
    | true => rw [List.filter_cons_of_pos (by simpa using h), List.foldl_cons]; exact pour_filter a s l _
    | false => rw [List.filter_cons_of_neg (by simp [h]), pourStep_out h]; exact pour_filter a s l _
def shStep (a : Abs) (k : Nat) (st : List Nat × List (Nat × Nat × Nat)) (s : Nat) : List Nat × List (Nat × Nat × Nat) := ((pourRow a s k a.byEnd st.1 st.2).left, (pourRow a s k a.byEnd st.1 st.2).told)
def shareAt (a : Abs) (k : Nat) (m : List Nat) (i : Nat) : List Nat × List (Nat × Nat × Nat) := (m.take i).foldl (shStep a k) (a.lows.map Low.water, [])
theorem shareAt_succ {a : Abs} {k : Nat} {m : List Nat} {i s : Nat} (h : m[i]? = some s) : shareAt a k m (i + 1) = shStep a k (shareAt a k m i) s := by
  unfold shareAt
  rw [List.take_add_one, h, List.foldl_append]; rfl
theorem shareAt_all (a : Abs) (k : Nat) (m : List Nat) : (shareAt a k m m.length).2 = a.share k m := by
  unfold shareAt
  rw [List.take_length, ← share_eq]; rfl
theorem sh_len (a : Abs) (k : Nat) : ∀ (m : List Nat) (st : List Nat × List (Nat × Nat × Nat)), (m.foldl (shStep a k) st).1.length = st.1.length
  | [], _ => rfl
  | s :: m, st => by
    rw [List.foldl_cons, sh_len a k m]
    exact pourStep_len a s a.byEnd ⟨k, st.1, st.2⟩
theorem shareAt_len (a : Abs) (k : Nat) (m : List Nat) (i : Nat) : (shareAt a k m i).1.length = a.lows.length := by
  unfold shareAt
  rw [sh_len, List.length_map]
def having (a : Abs) (s : Nat) : List Nat := a.byEnd.filter fun i => (a.low i).has s
def pourAt (a : Abs) (k : Nat) (st : List Nat × List (Nat × Nat × Nat)) (s j : Nat) : Pour := ((having a s).take j).foldl (pourStep a s) ⟨k, st.1, st.2⟩
theorem pourAt_succ {a : Abs} {k : Nat} {st : List Nat × List (Nat × Nat × Nat)} {s j n : Nat} (h : (having a s)[j]? = some n) : pourAt a k st s (j + 1) = pourStep a s (pourAt a k st s j) n := by
  unfold pourAt
  rw [List.take_add_one, h, List.foldl_append]; rfl
theorem pourAt_all (a : Abs) (k : Nat) (st : List Nat × List (Nat × Nat × Nat)) (s : Nat) : ((pourAt a k st s (having a s).length).left, (pourAt a k st s (having a s).length).told) = shStep a k st s := by
  unfold pourAt shStep pourRow having
  rw [List.take_length, ← pour_filter]
theorem pourAt_len (a : Abs) (k : Nat) (st : List Nat × List (Nat × Nat × Nat)) (s j : Nat) : (pourAt a k st s j).left.length = st.1.length := pourStep_len a s _ _
theorem having_lt {a : Abs} {s n : Nat} (h : n ∈ having a s) : n < a.lows.length ∧ (a.low n).has s = true := by
  obtain ⟨h1, h2⟩ := List.mem_filter.mp h
  exact ⟨mem_byEnd.mp h1, h2⟩
theorem having_len (a : Abs) (s : Nat) : (having a s).length ≤ a.lows.length := Nat.le_trans (List.length_filter_le _ _) (Nat.le_of_eq (byEnd_length a))
end My
end
set_option Elab.async false
set_option linter.all false
set_option maxRecDepth 100000
set_option maxHeartbeats 4000000
section
namespace L2
open PySem PySem.Spec PyProof.Rows
section
variable {X : Cx} {x : Str} {p pos : Pos} {e : Expr} {es : List Expr} {t : TA} {tf : TE} {ps : List Str}
abbrev Fam := Addr → Sp → Prop
structure FamOk (X : Cx) (ps : List Str) (G : Fam) : Prop where
  get : ∀ f sp, G f sp → ∃ fd k, FnOk X.prog X.w X.K X.mg X.base CX0 k f fd ps sp ∧ Room k X.A ∧ PySem.W.keepIn X.K (.ref f) = true ∧ Binds X.K fd ps []
def tCallV (G : Fam) (tf : TE) (t : TA) : TE := fun σ H Q => tf σ H fun v H1 => ∃ f sp, v = .ref f ∧ G f sp ∧ t σ H1 fun vs H2 => sp vs H2 Q E0
theorem pe_callV {G : Fam} (hG : FamOk X ps G) (hf : PE X (.Name x p) tf) (ha : PA X (e :: es) t)
    (he : starEach (e :: es) X.env = (false, eval e X.env) :: starEach es X.env := by rfl) (hpl : (backTo pos (starEach es X.env)).any (·.1) = false := by rfl) :
    PE X (.Call (.Name x p) (e :: es) [] pos) (tCallV G tf t) := by
  intro pins s0 σ H Q I h
  refine wpAny_Call_Name_kw (thn (hf pins s0 σ H _ I h) fun u s1 z => ?_)
  obtain ⟨v, H1, I1, rv, f, sp, rfl, g, q⟩ := z
  cases rv
  obtain ⟨fd, k, F, hr, hk, hb⟩ := hG.get f sp g
  refine PySem.W.callWith_K (h₀ := X.base) I1.ok.mod.kin hk (thn (ha pos pins s1 σ H1 _ I1 q) fun us s2 z2 => ?_) he hpl
  obtain ⟨vs, H2, I2, r2, q2⟩ := z2
  refine ⟨I2.kIn, ?_⟩
  have q3 : sp (vs ++ []) H2 Q E0 := by rw [List.append_nil]; exact q2
  exact run_fn F hr hb .nil pass0 I2 r2 q3
end
section
variable {X : Cx}
def rCountB : V → List V → Hp → VK → Prop := fun x xs H Q => ∃ (a : Addr) (bs : List Bool) (k : Bool), x = V.ref a ∧ xs = [V.bl k] ∧ H a = some (.lst (bs.map V.bl)) ∧ Q (.int (bs.count k : Nat)) H
def sameB (k : Bool) : Value → Bool
  | .bool b => b == k
  | _ => false
theorem countP_same (k : Bool) : ∀ bs : List Bool, (bs.map Value.bool).countP (sameB k) = bs.count k
  | [] => rfl
  | b :: bs => by
    rw [List.map_cons, List.countP_cons, List.count_cons, countP_same k bs]
    rfl
theorem mt_countB : MtR X "list.count" rCountB := by
  intro pins s0 σ H x xs v us Q I rx rv h
  obtain ⟨a, bs, k, rfl, rfl, hH, q⟩ := h
  cases rx
  obtain ⟨u, rfl, ru⟩ := rv.one
  cases ru
  obtain ⟨hz, its, n, r, hlen, ob⟩ := I.lstM hH
  have eb := r.bls
  refine call_meets PySem.F.slot_list_count ⟨_, ob, rfl⟩ PySem.F.entry_list_count (PySem.F.args_list_count_2 _ _) (SeqAt.list_countAt a its.toArray n none #[] (.bool k) (sameB k)) ⟨ob, fun y hy => ?_, ?_⟩
  · have hy2 : y ∈ bs.map Value.bool := by rw [← eb]; simpa using hy
    obtain ⟨b, _, rfl⟩ := List.mem_map.mp hy2
    exact SeqAt.EqAt.bool_bool b k
  · have ec : its.toArray.toList.countP (sameB k) = bs.count k := by
      have e1 : its.toArray.toList = bs.map Value.bool := by simpa using eb
      rw [e1, countP_same]
    rw [ec]
    exact ⟨.int _, H, I.tok _, ⟨_, rfl⟩, q⟩
end
end L2
namespace HT
open PySem PyProof.Rows
section
open PySem.SeqAt
open PySem.AutoSeq1 (wpAny_loadPart')
open PySem.MeetsSeq PySem.MeetsSeq2 PySem.MeetsSeq3
theorem lexLt_drop_none {ns ms : List Int} {i : Nat} (h : ns.length ≤ i) : lexLt (ns.drop i) (ms.drop i) = decide (i < ms.length) := by
  rw [List.drop_eq_nil_of_le h]
  by_cases q : i < ms.length
  · rw [List.drop_eq_getElem_cons q, lexLt_nil_cons, decide_eq_true q]
  · rw [List.drop_eq_nil_of_le (by omega), lexLt_nil_nil, decide_eq_false q]
theorem lexLt_drop_none2 {ns ms : List Int} {i : Nat} (h0 : i < ns.length) (h : ms.length ≤ i) : lexLt (ns.drop i) (ms.drop i) = false := by
  rw [List.drop_eq_nil_of_le h, List.drop_eq_getElem_cons h0, lexLt_cons_nil]
theorem intsAre_at : ∀ {vs : List Value} {ns : List Int} {i : Nat}, IntsAre vs ns → i < ns.length → ∃ t, vs[i]? = some (.int (ns.getD i 0) t)
  | _, _, _, .nil, h => by simp at h
  | _, _, 0, .cons n t _, _ => ⟨t, rfl⟩
  | _, _, i + 1, .cons n t r, h => by
    obtain ⟨t', e⟩ := intsAre_at (i := i) r (by simpa using h)
    exact ⟨t', by simpa using e⟩
theorem lt_walk (l b : Addr) (xs ys : Array Value) (n n2 : Nat) (dd dd2 : Option Addr) (sl sl2 : Array (Option Value)) (ns ms : List Int) (hi : IntsAre xs.toList ns) (hj : IntsAre ys.toList ms) (k : Nat) :
    ∀ i : Nat, ns.length - i = k → i ≤ ns.length → i ≤ ms.length → Meets (Builtin.«list.__eq__.loop» ⟨[.ref l, .ref b, rawInt i, rawInt 0], []⟩)
      (fun A R s => s.heap.get? l = some { cls := .type "list", dict := dd, data := .seq xs n, slots := sl } ∧ s.heap.get? b = some { cls := .type "list", dict := dd2, data := .seq ys n2, slots := sl2 } ∧
        R (.ok (.ret (.bool (lexLt (ns.drop i) (ms.drop i))))) s) := by
  have z1 : xs.size = ns.length := by rw [← hi.length]; simp
  have z2 : ys.size = ms.length := by rw [← hj.length]; simp
  induction k with
  | zero =>
    intro i hk h1 h2 prog w A R s h
    obtain ⟨hp, g, d, tk, os⟩ := s; obtain ⟨hl, hb, h⟩ := h
    wp_walk using wpAny_loadPart' hl, wpAny_loadPart' hb
    have e1 : xs[((i : Nat) : Int).toNat]? = none := by simp; omega
    rw [e1]
    wp_walk using wpAny_loadPart' hl, wpAny_loadPart' hb
    rw [lexLt_drop_none (by omega)] at h
    have e3 : decide (xs.size < ys.size) = decide (i < ms.length) := by rw [z1, z2]; congr 1; apply propext; omega
    show R (.ok (.ret (.bool (decide (xs.size < ys.size))))) _
    rw [e3]; exact h
  | succ k ih =>
    intro i hk h1 h2 prog w A R s h
    obtain ⟨hp, g, d, tk, os⟩ := s; obtain ⟨hl, hb, h⟩ := h
    have hlt : i < ns.length := by omega
    obtain ⟨t, ex⟩ := intsAre_at hi hlt
    have ex' : xs[((i : Nat) : Int).toNat]? = some (.int (ns.getD i 0) t) := by simpa using ex
    wp_walk using wpAny_loadPart' hl, wpAny_loadPart' hb
    rw [ex']
    by_cases hlt2 : i < ms.length
    · obtain ⟨u, ey⟩ := intsAre_at hj hlt2
      have ey' : ys[((i : Nat) : Int).toNat]? = some (.int (ms.getD i 0) u) := by simpa using ey
      rw [ey']
      have ed1 : ns.drop i = ns.getD i 0 :: ns.drop (i + 1) := by
        rw [List.drop_eq_getElem_cons hlt, List.getD_eq_getElem?_getD, List.getElem?_eq_getElem hlt]; rfl
      have ed2 : ms.drop i = ms.getD i 0 :: ms.drop (i + 1) := by
        rw [List.drop_eq_getElem_cons hlt2, List.getD_eq_getElem?_getD, List.getElem?_eq_getElem hlt2]; rfl
      rw [ed1, ed2, lexLt_cons] at h
      obtain ⟨eq, heq, hiff⟩ := eqAt_int A.in1 ⟨hp, g, d, tk, os⟩ (ns.getD i 0) t (ms.getD i 0) u
      refine wpAny_bind (heq prog w _ _ ?_)
      cases eq with
      | true =>
        rw [if_pos (hiff.mp rfl)] at h
        wp_walk
        have hc : ((i : Int) + 1) = ((i + 1 : Nat) : Int) := by push_cast; rfl
        rw [hc]
        refine ⟨plainId_quiet plain_eq_loop _, codeAny_builtin entry_eq_loop ?_⟩
        rw [Around.under_plainId plain_eq_loop _]
        exact ih (i + 1) (by omega) (by omega) (by omega) prog w A R _ ⟨hl, hb, h⟩
      | false =>
        rw [if_neg (fun q => absurd (hiff.mpr q) Bool.false_ne_true)] at h
        wp_walk using wpAny_loadPart' hl, wpAny_loadPart' hb
        rw [ex', ey']
        have hrc := rcLt_int A.in1 ⟨hp, g, d, tk, os⟩ (ns.getD i 0) t (ms.getD i 0) u prog w
        wp_walk using hrc
        exact h
    · have ey' : ys[((i : Nat) : Int).toNat]? = none := by simp; omega
      rw [ey']
      wp_walk using wpAny_loadPart' hl, wpAny_loadPart' hb
      rw [lexLt_drop_none2 hlt (by omega)] at h
      have e3 : decide (xs.size < ys.size) = false := decide_eq_false (by omega)
      show R (.ok (.ret (.bool (decide (xs.size < ys.size))))) _
      rw [e3]; exact h
theorem list_lt_ints (l b : Addr) (xs ys : Array Value) (n n2 : Nat) (dd dd2 : Option Addr) (sl sl2 : Array (Option Value)) (ns ms : List Int) (hi : IntsAre xs.toList ns) (hj : IntsAre ys.toList ms) :
    Meets (Builtin.«list.__lt__» ⟨[.ref l, .ref b], []⟩)
      (fun _ R s => s.heap.get? l = some { cls := .type "list", dict := dd, data := .seq xs n, slots := sl } ∧ s.heap.get? b = some { cls := .type "list", dict := dd2, data := .seq ys n2, slots := sl2 } ∧
        R (.ok (.ret (.bool (lexLt ns ms)))) s) := by
  intro prog w A R s h
  obtain ⟨hp, g, d, tk, os⟩ := s; obtain ⟨hl, hb, h⟩ := h
  have f2 := AutoSeq1.sub_list_list
  wp_walk using wpAny_loadPart' hl, wpAny_loadPart' hb
  refine ⟨plainId_quiet plain_eq_loop _, codeAny_builtin entry_eq_loop ?_⟩
  rw [Around.under_plainId plain_eq_loop _]
  exact lt_walk l b xs ys n n2 dd dd2 sl sl2 ns ms hi hj _ 0 rfl (Nat.zero_le _) (Nat.zero_le _) prog w A R _ ⟨hl, hb, by simpa using h⟩
end
end HT
end
section
namespace HT
open PySem PyProof.Rows
section
open PySem.SeqAt
open PySem.AutoSeq1 (wpAny_loadPart')
open PySem.MeetsSeq PySem.MeetsSeq2 PySem.MeetsSeq3
def LtAt2 (A : Around) (s : Shared) (y x : Value) (c : Bool) : Prop :=
  ∀ (prog : Program) (w : World) (E : Value → Shared → Prop) (Q : Value → Shared → Prop), Q (.bool c) s → wpAny (model prog w) A (richCompare .Lt y x) Q E s
inductive PairsCmp (A : Around) (s : Shared) : List (Value × Value) → List (Bool × Bool) → Prop
  | nil : PairsCmp A s [] []
  | cons {y x : Value} {e c : Bool} {r : List (Value × Value)} {os : List (Bool × Bool)} (he : EqAt A s y x e) (hc : e = false → LtAt2 A s y x c) (t : PairsCmp A s r os) : PairsCmp A s ((y, x) :: r) ((e, c) :: os)
def lexP (fin : Bool) : List (Bool × Bool) → Bool
  | [] => fin
  | (e, c) :: r => if e then lexP fin r else c
theorem tuple_lt_pairs (l b : Addr) (xs ys : Array Value) (n n2 : Nat) (dd dd2 : Option Addr) (sl sl2 : Array (Option Value)) (os : List (Bool × Bool)) :
    Meets (Builtin.«tuple.__lt__» ⟨[.ref l, .ref b], []⟩)
      (fun A R s => s.heap.get? l = some { cls := .type "tuple", dict := dd, data := .seq xs n, slots := sl } ∧ s.heap.get? b = some { cls := .type "tuple", dict := dd2, data := .seq ys n2, slots := sl2 } ∧
        PairsCmp A.in1 s (xs.toList.zip ys.toList) os ∧ R (.ok (.ret (.bool (lexP (decide (xs.size < ys.size)) os)))) s) :=
  .of_wp fun prog w A R s h => by
    obtain ⟨hp, g, d, tk, os0⟩ := s; obtain ⟨hl, hb, hP, h⟩ := h
    have f2 := AutoSeq1.sub_tuple_tuple
    wp_walk using wpAny_loadPart' hl, wpAny_loadPart' hb, wpAny_forIn_list _ (fun rest b s' => b.1 = none ∧ s' = ⟨hp, g, d, tk, os0⟩ ∧ ∃ os', PairsCmp A.in1 ⟨hp, g, d, tk, os0⟩ rest os' ∧
      R (.ok (.ret (.bool (lexP (decide (xs.size < ys.size)) os')))) ⟨hp, g, d, tk, os0⟩) _
    case turn =>
      rintro ⟨y, x⟩ rest b s' ⟨hb', rfl, os', hP', hR⟩
      cases hP' with
      | cons he hc t =>
        rename_i e c os2
        refine wpAny_bind (he prog w _ _ ?_)
        cases e with
        | true =>
          wp_walk
          exact ⟨rfl, rfl, _, t, hR⟩
        | false =>
          have hrc := hc rfl prog w
          wp_walk using hrc
          exact ⟨_, rfl, by simpa [lexP] using hR⟩
    case fin =>
      rintro ⟨b1, b2⟩ s' ⟨hb', rfl, os', hP', hR⟩
      simp only at hb'
      subst hb'
      cases hP'
      wp_walk
      exact ⟨_, rfl, by simpa [Builtin.Tuple.tupleCompareSizes, lexP] using hR⟩
    case h =>
      exact ⟨rfl, rfl, os, hP, h⟩
theorem LtAt2.tuples {A : Around} {s : Shared} {l b : Addr} {xs ys : Array Value} {os : List (Bool × Bool)} (hl : IsTup s.heap l xs) (hb : IsTup s.heap b ys) (hu : A.units < cLine) (hP : PairsCmp A.in1 s (xs.toList.zip ys.toList) os) :
    LtAt2 A s (.ref l) (.ref b) (lexP (decide (xs.size < ys.size)) os) := fun prog w E Q h => by
  obtain ⟨⟨cls, dd, data, sl⟩, ho, hc, n, hd⟩ := id hl
  obtain ⟨⟨cls2, dd2, data2, sl2⟩, ho2, hc2, n2, hd2⟩ := id hb
  simp only at hc hd hc2 hd2
  subst hc hd hc2 hd2
  exact richCompare_meets_room (op := .Lt) ⟨_, ho, rfl⟩ ⟨_, ho2, rfl⟩ PySem.F.slot_tuple_lt PySem.F.entry_tuple_lt (PySem.F.args_tuple_lt_2 _ _) (tuple_lt_pairs l b xs ys n n2 dd dd2 sl sl2 os)
    ⟨ho, ho2, hP, (fun x => nomatch x), h⟩ hu
theorem LtAt2.lists {A : Around} {s : Shared} {l b : Addr} {xs ys : Array Value} {ns ms : List Int} (hl : s.heap.IsList l xs) (hb : s.heap.IsList b ys) (hi : IntsAre xs.toList ns) (hj : IntsAre ys.toList ms) (hu : A.units < cLine) :
    LtAt2 A s (.ref l) (.ref b) (lexLt ns ms) := fun prog w E Q h => by
  obtain ⟨⟨cls, dd, data, sl⟩, ho, hc, n, hd⟩ := id hl
  obtain ⟨⟨cls2, dd2, data2, sl2⟩, ho2, hc2, n2, hd2⟩ := id hb
  simp only at hc hd hc2 hd2
  subst hc hd hc2 hd2
  exact richCompare_meets_room (op := .Lt) ⟨_, ho, rfl⟩ ⟨_, ho2, rfl⟩ PySem.F.slot_list_lt PySem.F.entry_list_lt (PySem.F.args_list_lt_2 _ _) (list_lt_ints l b xs ys n n2 dd dd2 sl sl2 ns ms hi hj)
    ⟨ho, ho2, (fun x => nomatch x), h⟩ hu
theorem all_same : ∀ (ns ms : List Int), ns.length = ms.length → ((List.range ns.length).all fun j => ns.getD j 0 == ms.getD j 0) = decide (ns = ms)
  | [], [], _ => rfl
  | [], _ :: _, h => by simp at h
  | _ :: _, [], h => by simp at h
  | x :: ns, y :: ms, h => by
    rw [List.length_cons, List.range_succ_eq_map, List.all_cons, List.all_map]
    have ih := all_same ns ms (by simpa using h)
    show ((x == y) && (List.range ns.length).all fun j => ns.getD j 0 == ms.getD j 0) = _
    rw [ih]
    by_cases e : x = y
    · subst e; simp
    · simp [e]
theorem EqAt.intLists {A : Around} {s : Shared} {l b : Addr} {xs ys : Array Value} {ns ms : List Int} (hl : s.heap.IsList l xs) (hb : s.heap.IsList b ys) (hi : IntsAre xs.toList ns) (hj : IntsAre ys.toList ms) (hu : A.units < cLine) :
    SeqAt.EqAt A s (.ref l) (.ref b) (decide (ns = ms)) := by
  have z1 : xs.size = ns.length := by rw [← hi.length]; simp
  have z2 : ys.size = ms.length := by rw [← hj.length]; simp
  by_cases hlb : l = b
  · subst hlb
    have e : xs = ys := by
      obtain ⟨o, ho, _, n, hd⟩ := hl
      obtain ⟨o', ho', _, n', hd'⟩ := hb
      rw [ho] at ho'; cases ho'; rw [hd] at hd'; cases hd'; rfl
    subst e
    have e2 : ns = ms := by rw [← hi.numsOf, ← hj.numsOf]
    subst e2
    rw [decide_eq_true rfl]
    exact SeqAt.EqAt.same _
  · refine SeqAt.EqAt.of_refs hlb ?_
    by_cases hz : ns.length = ms.length
    · have he : ∀ j (h1 : j < xs.size) (h2 : j < ys.size), SeqAt.EqAt A.in1 s xs[j] ys[j] (ns.getD j 0 == ms.getD j 0) := fun j h1 h2 => by
        obtain ⟨t, e1⟩ := intsAre_at hi (show j < ns.length by omega)
        obtain ⟨u, e2⟩ := intsAre_at hj (show j < ms.length by omega)
        have e1' : xs[j] = .int (ns.getD j 0) t := by
          have : xs.toList[j]? = some xs[j] := by simp [h1]
          rw [this] at e1; exact Option.some.inj e1
        have e2' : ys[j] = .int (ms.getD j 0) u := by
          have : ys.toList[j]? = some ys[j] := by simp [h2]
          rw [this] at e2; exact Option.some.inj e2
        rw [e1', e2']
        exact SeqAt.EqAt.int_int _ _ _ _
      have q := SeqAt.RcAt.lists hl hb (by omega) hu he
      rw [z1, all_same ns ms hz] at q
      exact q
    · have q := SeqAt.RcAt.lists_lengths (A := A) hl hb (by rw [z1, z2]; simpa using hz) hu
      have e : decide (ns = ms) = false := decide_eq_false fun z => hz (by rw [z])
      rw [e]; exact q
def tripLt (t u : Int × List Int × Int) : Bool := if t.1 = u.1 then (if t.2.1 = u.2.1 then decide (t.2.2 < u.2.2) else lexLt t.2.1 u.2.1) else decide (t.1 < u.1)
structure Trip (h : Heap) (v : Value) (t : Int × List Int × Int) : Prop where
  ex : ∃ (a r : Addr) (t1 t2 : Tok) (vs : List Value), v = .ref a ∧ IsTup h a #[.int t.1 t1, .ref r, .int t.2.2 t2] ∧ h.IsList r vs.toArray ∧ IntsAre vs t.2.1
theorem LtAt2.trips {A : Around} {s : Shared} {v u : Value} {x y : Int × List Int × Int} (hv : Trip s.heap v x) (hu : Trip s.heap u y) (hr : A.units + 1 < cLine) : LtAt2 A s v u (tripLt x y) := by
  obtain ⟨a, r, t1, t2, vs, rfl, ha, hla, hia⟩ := hv.ex
  obtain ⟨b, q, u1, u2, ws, rfl, hb, hlb, hib⟩ := hu.ex
  have hA : A.in1.units < cLine := hr
  have P : PairsCmp A.in1 s ((#[Value.int x.1 t1, .ref r, .int x.2.2 t2] : Array Value).toList.zip (#[Value.int y.1 u1, .ref q, .int y.2.2 u2] : Array Value).toList)
      [(x.1 == y.1, decide (x.1 < y.1)), (decide (x.2.1 = y.2.1), lexLt x.2.1 y.2.1), (x.2.2 == y.2.2, decide (x.2.2 < y.2.2))] := by
    refine .cons (SeqAt.EqAt.int_int _ _ _ _) (fun _ => fun prog w E Q h => rcLt_int _ _ _ _ _ _ prog w E Q h) (.cons (EqAt.intLists hla hlb (by simpa using hia) (by simpa using hib) hA) (fun _ => LtAt2.lists hla hlb (by simpa using hia) (by simpa using hib) hA)
      (.cons (SeqAt.EqAt.int_int _ _ _ _) (fun _ => fun prog w E Q h => rcLt_int _ _ _ _ _ _ prog w E Q h) .nil))
  have z := LtAt2.tuples ha hb (by omega) P
  have e : lexP (decide ((#[Value.int x.1 t1, .ref r, .int x.2.2 t2] : Array Value).size < (#[Value.int y.1 u1, .ref q, .int y.2.2 u2] : Array Value).size))
      [(x.1 == y.1, decide (x.1 < y.1)), (decide (x.2.1 = y.2.1), lexLt x.2.1 y.2.1), (x.2.2 == y.2.2, decide (x.2.2 < y.2.2))] = tripLt x y := by
    unfold lexP lexP lexP lexP tripLt
    by_cases e1 : x.1 = y.1
    · rw [if_pos (by simpa using e1), if_pos e1]
      by_cases e2 : x.2.1 = y.2.1
      · rw [if_pos (by simpa using e2), if_pos e2]
        by_cases e3 : x.2.2 = y.2.2
        · rw [if_pos (by simpa using e3), e3]; simp
        · rw [if_neg (by simpa using e3)]
      · rw [if_neg (by simpa using e2), if_neg e2]
    · rw [if_neg (by simpa using e1), if_neg e1]
  rw [e] at z
  exact z
end
end HT
end
section
namespace HT
open PySem PyProof.Rows
abbrev T3 := Int × List Int × Int
theorem Trip.keeps {h h' : Heap} {v : Value} {t : T3} (x : Trip h v t) (k : ∀ b o, h.get? b = some o → h'.get? b = some o) : Trip h' v t := by
  obtain ⟨a, r, t1, t2, vs, e, ⟨o, ho, hc⟩, ⟨ol, hol, hlc⟩, hi⟩ := x.ex
  exact ⟨a, r, t1, t2, vs, e, ⟨o, k _ _ ho, hc⟩, ⟨ol, k _ _ hol, hlc⟩, hi⟩
def leastOf {α : Type} (b : α × T3) (r : List (α × T3)) : α × T3 := r.foldl (fun b x => if tripLt x.2 b.2 then x else b) b
theorem leastOf_cons {α : Type} (b x : α × T3) (r : List (α × T3)) : leastOf b (x :: r) = leastOf (if tripLt x.2 b.2 then x else b) r := rfl
theorem args_minD (a v : Value) : argsOk "min" ⟨[a], [(Str.ofString "default", v)]⟩ := by unfold argsOk; kernel_rfl
section
variable {prog : Program} {w : World} {A : Around} {R : Result → Shared → Prop} {I l : Addr} {its : List Value} {St : Nat → Heap → Prop} {g : Heap} {S : Addr} {d : Value}
theorem minD_rest (W : Walks prog w A.in1 I [I, l] [I] its.toArray.size (fun i v => its.toArray[i]? = some v) St) (gI : g.objs.size ≤ I) (gS : g.objs.size ≤ S) (nI : S ≠ I) (nl : S ≠ l) (hr : A.units + 3 < cLine) :
    ∀ (r : List Value) (us : List T3) (j : Nat) (s : Shared) (vb : Value) (tb : T3) (c : Nat), Paired (Trip g) r us → its.drop j = r → j ≤ its.length → St j s.heap → (∀ b o, g.get? b = some o → s.heap.get? b = some o) → Trip g vb tb →
    s.heap.get? S = some { cls := .type "list", dict := none, data := .seq #[vb, vb] c, slots := #[] } →
    (∀ hh tk, (∀ b o, b ≠ I → b ≠ S → s.heap.get? b = some o → hh.get? b = some o) → R (.ok (.ret (leastOf (vb, tb) (r.zip us)).1)) { s with heap := hh, toks := tk }) →
    codeAny (model prog w) A (.builtin "min.loop" ⟨[.ref I, .none, .ref S], [("default", d)]⟩) R s := by
  have nm : (toString "min" ++ toString ".loop" : String) = "min.loop" := by decide
  have nS : S ∉ [I] := by simp [nI]
  have nS2 : S ∉ [I, l] := by simp [nI, nl]
  intro r
  induction r with
  | nil =>
    intro us j s vb tb c hP hd hj st keep tv oS hR
    have ej : its.toArray.size = j := by
      have := List.drop_eq_nil_iff.mp hd
      simp; omega
    cases hP
    refine PySem.codeAny_builtin PySem.F.entry_min_loop ?_
    rw [PySem.Around.under_plainId PySem.F.plain_min_loop _]
    show wpAny _ A.in1 (PySem.seqItems? (.ref S) >>= _) _ _ s
    refine wpAny_bind (wpAny_seqItems oS rfl ?_)
    show wpAny _ A.in1 (tryCatch (PySem.pyNext (.ref I)) _ >>= _) _ _ s
    refine wpAny_bind (wpAny_tryCatch (W.done s _ _ (ej ▸ st) fun hh tk kk => ?_))
    have oS2 := kk S _ nS oS
    show wpAny _ A.in1 (PySem.updateSeq S (fun _ => #[]) >>= _) _ _ _
    refine wpAny_bind ?_
    refine wpAny_updateSeq oS2 rfl (wpAny_bind (wpAny_letGo (wpAny_pure ?_)))
    exact hR _ tk fun b o bI bS e => (Heap.get?_update_other _ _ (Ne.symm bS)).trans (kk b o (by simpa using bI) e)
  | cons v r ih =>
    intro us j s vb tb c hP hd hj st keep tv oS hR
    cases hP with
    | cons tx tr =>
      rename_i t us
      have hlt : j < its.length := by
        by_cases q : j < its.length
        · exact q
        · rw [List.drop_eq_nil_of_le (by omega)] at hd; cases hd
      have hd2 : its.drop (j + 1) = r := by
        rw [List.drop_eq_getElem_cons hlt] at hd; exact (List.cons.inj hd).2
      have hv : its[j]? = some v := by
        rw [List.drop_eq_getElem_cons hlt] at hd
        rw [List.getElem?_eq_getElem hlt, (List.cons.inj hd).1]
      refine PySem.codeAny_builtin PySem.F.entry_min_loop ?_
      rw [PySem.Around.under_plainId PySem.F.plain_min_loop _]
      show wpAny _ A.in1 (PySem.seqItems? (.ref S) >>= _) _ _ s
      refine wpAny_bind (wpAny_seqItems oS rfl ?_)
      show wpAny _ A.in1 (tryCatch (PySem.pyNext (.ref I)) _ >>= _) _ _ s
      refine wpAny_bind (wpAny_tryCatch (W.item j s _ _ (by simpa using hlt) st fun v' hh tk hv' st' kk => ?_))
      have ev : v' = v := by
        have z : its[j]? = some v' := by simpa using hv'
        rw [hv] at z; exact (Option.some.inj z).symm
      subst ev
      have oS2 := kk S _ nS oS
      have keep2 : ∀ b o, g.get? b = some o → hh.get? b = some o := fun b o e =>
        kk b o (by simpa using Nat.ne_of_lt (Nat.lt_of_lt_of_le (Heap.lt_size e) gI)) (keep b o e)
      show wpAny _ A.in1 (tryCatch (PySem.holding [v', v'] (PySem.richCompare .Lt v' vb >>= _)) _ >>= _) _ _ _
      have hcmp := LtAt2.trips (A := A.in1) (s := { s with heap := hh, toks := tk }) (tx.keeps keep2) (tv.keeps keep2) (by show A.units + 1 + 1 < cLine; omega)
      refine wpAny_bind (wpAny_tryCatch (wpAny_holding (wpAny_bind (hcmp prog w _ _ ?_))))
      refine wpAny_bind (wpAny_holding (wpAny_truthy_bool ?_))
      refine wpAny_bind (wpAny_letGo (wpAny_pure ?_))
      rw [List.zip_cons_cons, leastOf_cons] at hR
      have fr : ∀ (f : Array Value → Array Value) (b : Addr), b ∈ [I, l] → ∀ o, hh.get? b = some o → (hh.update S (Obj.mapSeq f)).get? b = some o := fun f b hb o e => by
        refine (Heap.get?_update_other _ _ (fun z : S = b => nS2 (by rw [z]; exact hb))).trans e
      cases hb : tripLt t tb with
      | true =>
        rw [if_pos hb] at hR
        simp only [if_true]
        refine wpAny_bind ?_
        refine wpAny_updateSeq oS2 rfl (wpAny_bind (wpAny_letGo ?_))
        rw [nm]
        refine wpAny_pure ⟨plainId_quiet PySem.F.plain_min_loop _, ih us (j + 1) _ v' t _ tr hd2 (by omega) (W.frame _ _ _ st' (fr _)) (fun b o e => ?_) tx (Heap.get?_update_self _ oS2 rfl) fun hh2 tk2 kk2 => ?_⟩
        · exact (Heap.get?_update_other _ _ (Ne.symm (Nat.ne_of_lt (Nat.lt_of_lt_of_le (Heap.lt_size e) gS)))).trans (keep2 b o e)
        · exact hR hh2 tk2 fun b o bI bS e => kk2 b o bI bS ((Heap.get?_update_other _ _ (Ne.symm bS)).trans (kk b o (by simpa using bI) e))
      | false =>
        rw [if_neg (by rw [hb]; exact Bool.false_ne_true)] at hR
        simp only [Bool.false_eq_true, if_false]
        refine wpAny_bind (wpAny_letGo ?_)
        rw [nm]
        refine wpAny_pure ⟨plainId_quiet PySem.F.plain_min_loop _, ih us (j + 1) _ vb tb c tr hd2 (by omega) st' keep2 tv oS2 fun hh2 tk2 kk2 => ?_⟩
        exact hR hh2 tk2 fun b o bI bS e => kk2 b o bI bS (kk b o (by simpa using bI) e)
def minOf (d : Value) : List (Value × T3) → Value
  | [] => d
  | x :: r => (leastOf x r).1
theorem minD_first (W : Walks prog w A.in1 I [I, l] [I] its.toArray.size (fun i v => its.toArray[i]? = some v) St) (gI : g.objs.size ≤ I) (gS : g.objs.size ≤ S) (nI : S ≠ I) (nl : S ≠ l) (hr : A.units + 3 < cLine)
    {us : List T3} {s : Shared} {c : Nat} (hP : Paired (Trip g) its us) (st : St 0 s.heap) (keep : ∀ b o, g.get? b = some o → s.heap.get? b = some o)
    (oS : s.heap.get? S = some { cls := .type "list", dict := none, data := .seq #[] c, slots := #[] })
    (hR : ∀ hh tk, (∀ b o, b ≠ I → b ≠ S → s.heap.get? b = some o → hh.get? b = some o) → R (.ok (.ret (minOf d (its.zip us)))) { s with heap := hh, toks := tk }) :
    codeAny (model prog w) A (.builtin "min.loop" ⟨[.ref I, .none, .ref S], [("default", d)]⟩) R s := by
  have nm : (toString "min" ++ toString ".loop" : String) = "min.loop" := by decide
  have nS : S ∉ [I] := by simp [nI]
  have nS2 : S ∉ [I, l] := by simp [nI, nl]
  refine PySem.codeAny_builtin PySem.F.entry_min_loop ?_
  rw [PySem.Around.under_plainId PySem.F.plain_min_loop _]
  show wpAny _ A.in1 (PySem.seqItems? (.ref S) >>= _) _ _ s
  refine wpAny_bind (wpAny_seqItems oS rfl ?_)
  show wpAny _ A.in1 (tryCatch (PySem.pyNext (.ref I)) _ >>= _) _ _ s
  cases hP with
  | nil =>
    refine wpAny_bind (wpAny_tryCatch (W.done s _ _ st fun hh tk kk => ?_))
    refine wpAny_bind (wpAny_rule (wpAny_pure ?_))
    exact hR hh tk fun b o bI bS e => kk b o (by simpa using bI) e
  | cons tx tr =>
    rename_i v t r us
    refine wpAny_bind (wpAny_tryCatch (W.item 0 s _ _ (by simp) st fun v' hh tk hv' st' kk => ?_))
    have ev : v' = v := by
      have z : some v = some v' := by simpa using hv'
      exact (Option.some.inj z).symm
    subst ev
    have oS2 := kk S _ nS oS
    have keep2 : ∀ b o, g.get? b = some o → hh.get? b = some o := fun b o e =>
      kk b o (by simpa using Nat.ne_of_lt (Nat.lt_of_lt_of_le (Heap.lt_size e) gI)) (keep b o e)
    show wpAny _ A.in1 (PySem.updateSeq S (fun _ => #[v', v']) >>= _) _ _ _
    refine wpAny_bind ?_
    refine wpAny_updateSeq oS2 rfl ?_
    rw [nm]
    refine wpAny_pure ⟨plainId_quiet PySem.F.plain_min_loop _, minD_rest W gI gS nI nl hr r us 1 _ v' t _ tr rfl (by simp) (W.frame _ _ _ st' fun b hb o e => ?_) (fun b o e => ?_) tx (Heap.get?_update_self _ oS2 rfl) fun hh2 tk2 kk2 => ?_⟩
    · exact (Heap.get?_update_other _ _ (fun z : S = b => nS2 (by rw [z]; exact hb))).trans e
    · exact (Heap.get?_update_other _ _ (Ne.symm (Nat.ne_of_lt (Nat.lt_of_lt_of_le (Heap.lt_size e) gS)))).trans (keep2 b o e)
    · exact hR hh2 tk2 fun b o bI bS e => kk2 b o bI bS ((Heap.get?_update_other _ _ (Ne.symm bS)).trans (kk b o (by simpa using bI) e))
end
end HT
end
section
namespace HT
open PySem PyProof.Rows
section
variable {prog : Program} {w : World} {A : Around} {E : Value → Shared → Prop} {s : Shared} {l : Addr} {its : List Value} {us : List T3} {d : Value} {Q : Value → Shared → Prop}
theorem call_minD (hh : A.handled = none) (hr : A.units + 3 < cLine) (hl : s.heap.IsList l its.toArray) (hP : Paired (Trip s.heap) its us)
    (h : ∀ h' tk, (∀ b o, s.heap.get? b = some o → h'.get? b = some o) → Q (minOf d (its.zip us)) { s with heap := h', toks := tk }) :
    wpAny (model prog w) A (call (.builtin "min") [.ref l] [(Str.ofString "default", d)]) Q E s := by
  have nm : (toString "min" ++ toString ".loop" : String) = "min.loop" := by decide
  have hlt : l < s.heap.objs.size := by obtain ⟨_, e, _⟩ := hl; exact Heap.lt_size e
  refine kmk_tree PySem.F.kind_min PySem.F.plain_min PySem.F.entry_min (args_minD _ _) ?_
  show wpAny _ A.in1 (Builtin.Builtins.bindParams "min" ["key", "default"] 0 ⟨[], [(Str.ofString "default", d)]⟩ >>= _) _ _ s
  refine wpAny_bind (wpAny_of_eq (show Builtin.Builtins.bindParams "min" ["key", "default"] 0 ⟨[], [(Str.ofString "default", d)]⟩ = pure [none, some d] from rfl) ?_)
  refine wpAny_bind (wpAny_pure ?_)
  refine wpAny_bind (wpAny_pyIter_list hl ?_)
  refine wpAny_bind (wpAny_newObj_type ?_)
  rw [nm]
  have szI : (s.heap.push { cls := .type "list_iterator", data := .fields #[.ref l, .int 0 0] }).objs.size = s.heap.objs.size + 1 := Heap.size_push _ _
  refine wpAny_pure ⟨plainId_quiet PySem.F.plain_min_loop _, ?_⟩
  refine minD_first (g := s.heap) (l := l) (Walks.list (A := A.in1) hh s.heap.objs.size l (Nat.ne_of_lt hlt) its.toArray) (Nat.le_refl _) ?_ ?_ ?_ hr hP ?_ ?_ (Heap.get?_push_size _ rfl) fun h' tk kk => ?_
  · rw [szI]; exact Nat.le_succ _
  · rw [szI]; exact Nat.succ_ne_self _
  · rw [szI]; exact Nat.ne_of_gt (Nat.lt_succ_of_lt hlt)
  · exact ⟨⟨_, Heap.get?_push_of_some _ (Heap.get?_push_size _ rfl), rfl, rfl⟩, (hl.push _).push _⟩
  · exact fun b o e => Heap.get?_push_of_some _ (Heap.get?_push_of_some _ e)
  · exact h h' tk fun b o e => kk b o (Nat.ne_of_lt (Heap.lt_size e)) (by rw [szI]; exact Nat.ne_of_lt (Nat.lt_succ_of_lt (Heap.lt_size e))) (Heap.get?_push_of_some _ (Heap.get?_push_of_some _ e))
end
end HT
namespace L2
open PySem PySem.Spec PyProof.Rows HT
def TripH (H : Hp) (p : Addr) (t : T3) : Prop := ∃ r, H p = some (.tup [.int t.1, .ref r, .int t.2.2]) ∧ H r = some (.lst (t.2.1.map V.int))
def minH : List (Addr × T3) → V
  | [] => .non
  | x :: r => .ref (leastOf x r).1
section
variable {X : Cx} {pins : List (Addr × Obj)} {σ : St} {H : Hp} {s : Shared}
theorem TripH.trip (I : Inv X pins σ H s) {p : Addr} {t : T3} (h : TripH H p t) : Trip s.heap (.ref p) t := by
  obtain ⟨r, h1, h2⟩ := h
  obtain ⟨_, its, hv, ht⟩ := (show ObjOk X.prog X.w H s.heap p (.tup _) from I.hok p _ h1)
  obtain ⟨_, vs, n, hvs, ho⟩ := (show ObjOk X.prog X.w H s.heap r (.lst _) from I.hok r _ h2)
  cases hv with
  | cons r1 hv =>
    cases hv with
    | cons r2 hv =>
      cases hv with
      | cons r3 hv =>
        cases hv
        obtain ⟨t1, rfl⟩ := r1
        cases r2
        obtain ⟨t2, rfl⟩ := r3
        exact ⟨p, r, t1, t2, vs, rfl, ht, ⟨_, ho, rfl, n, rfl⟩, hvs.ints⟩
theorem leastOf_map {α β : Type} (f : α → β) : ∀ (r : List (α × T3)) (b : α × T3), leastOf (f b.1, b.2) (r.map fun x => (f x.1, x.2)) = (f (leastOf b r).1, (leastOf b r).2)
  | [], b => rfl
  | x :: r, b => by
    rw [List.map_cons, leastOf_cons, leastOf_cons]
    by_cases q : tripLt x.2 b.2 = true
    · rw [if_pos q, if_pos q]; exact leastOf_map f r x
    · rw [if_neg q, if_neg q]; exact leastOf_map f r b
theorem zip_ref : ∀ (ps : List Addr) (ts : List T3), (ps.map Value.ref).zip ts = (ps.zip ts).map fun x => (Value.ref x.1, x.2)
  | [], _ => rfl
  | _ :: _, [] => rfl
  | p :: ps, t :: ts => by
    rw [List.map_cons, List.zip_cons_cons, List.zip_cons_cons, List.map_cons, zip_ref ps ts]
theorem vals_refs : ∀ {ps : List Addr} {us : List Value}, Vals (ps.map V.ref) us → us = ps.map Value.ref
  | [], us, h => by
    rw [List.map_nil] at h; cases h; rfl
  | p :: ps, us, h => by
    rw [List.map_cons] at h
    cases h with
    | cons r t => cases r; rw [vals_refs t, List.map_cons]
theorem paired_trips (I : Inv X pins σ H s) : ∀ {ps : List Addr} {ts : List T3}, Paired (TripH H) ps ts → Paired (Trip s.heap) (ps.map Value.ref) ts
  | _, _, .nil => .nil
  | _, _, .cons r t => .cons (r.trip I) (paired_trips I t)
theorem minOf_minH {ps : List Addr} {ts : List T3} : RelV (minH (ps.zip ts)) (minOf Value.none ((ps.map Value.ref).zip ts)) := by
  rw [zip_ref]
  cases ps.zip ts with
  | nil => rfl
  | cons x r =>
    rw [List.map_cons]
    show RelV (.ref (leastOf x r).1) (leastOf (Value.ref x.1, x.2) (r.map fun x => (Value.ref x.1, x.2))).1
    rw [leastOf_map Value.ref r x]
    rfl
end
section
variable {X : Cx} {e : Expr} {t : TA} {p pos kp : Pos} {kj : Nat} {kq : Pos}
def tMinD (K : PySem.W.Frag) (t : TA) : TE := fun σ H Q => t σ H fun vs H1 => ∃ (a : Addr) (ps : List Addr) (ts : List T3), vs = [.ref a] ∧ SqL K H1 a (ps.map V.ref) ∧ Paired (TripH H1) ps ts ∧ Q (minH (ps.zip ts)) H1
theorem pe_minD (hc : X.calm = true) (hu : X.A.units + 3 < cLine) (hg : Gl X "min") (hm : X.mg "min" = none) (ha : PA X [e] t)
    (hs : starEach [e] X.env = [(false, eval e X.env)] := by rfl) : PE X (.Call (.Name "min" p) [e] [⟨some "default", .Constant .none kj kq, kp⟩] pos) (tMinD X.K t) := by
  intro pins s0 σ H Q I h
  refine wpAny_Call_Name_kw (ld_blt I hg hm PyProof.Rows.boot_min ?_)
  refine PyProof.Rows.callWith_kw ?_ (by rw [hs]; rfl) (by rw [hs]; rfl) rfl rfl
  refine thn (ha pos pins s0 σ H _ I h) fun us s1 z => ?_
  obtain ⟨vs, H1, I1, rv, a, ps, ts, rfl, hsq, hP, q⟩ := z
  refine kws_cons (Constant_none (kws_nil ?_))
  rw [Vals.ref1 rv]
  obtain ⟨its, rvs, hl, _⟩ := I1.list hsq
  have ei := vals_refs rvs
  subst ei
  exact call_minD (I1.ok.hd hc) hu hl.isList (paired_trips I1 hP) fun h' tk kk => ⟨minH (ps.zip ts), H1, I1.kept kk, minOf_minH, q⟩
end
end L2
end
section
namespace KS
open PySem PyProof.Rows PyProof.Rows.G
def shI : Nat → Bool := fun _ => false
def Two (h : Heap) (v : Value) (k : Int × Int) : Prop := ∃ (a : Addr) (o : Obj) (t u : Tok) (n : Nat), v = .ref a ∧ h.get? a = some o ∧ o.cls = .type "tuple" ∧ o.data = .seq #[.int k.1 t, .int k.2 u] n
theorem Two.key {h : Heap} {v : Value} {k : Int × Int} (x : Two h v k) : tupKeyC h shI v = some [Sum.inl k.1, Sum.inl k.2] := by
  obtain ⟨a, o, t, u, n, rfl, ho, hc, hd⟩ := x
  exact tupKeyC_of ho hc hd rfl
theorem Two.tup {h : Heap} {v : Value} {k : Int × Int} (x : Two h v k) : ∃ f, TupOf h shI v f := by
  obtain ⟨a, o, t, u, n, rfl, ho, hc, hd⟩ := x
  exact ⟨.int k.1 t, a, o, _, n, rfl, ho, hc, hd, rfl, fun _ => ⟨_, _, rfl⟩, fun z => by cases z⟩
theorem twos_tups {h : Heap} : ∀ {vs : List Value} {ks : List (Int × Int)}, Paired (Two h) vs ks → ∃ fs, TupsOf h shI vs fs ∧ fs.length = vs.length
  | _, _, .nil => ⟨[], .nil, rfl⟩
  | _, _, .cons r t => by
    obtain ⟨f, hf⟩ := r.tup
    obtain ⟨fs, h1, h2⟩ := twos_tups t
    exact ⟨f :: fs, .cons hf h1, by rw [List.length_cons, List.length_cons, h2]⟩
def twoLe (a b : Int × Int) : Prop := a.1 < b.1 ∨ (a.1 = b.1 ∧ a.2 ≤ b.2)
theorem twoLe_of {a b : Int × Int} (h : (listOrd itemOrd).kle [Sum.inl a.1, Sum.inl a.2] [Sum.inl b.1, Sum.inl b.2]) : twoLe a b := by
  unfold KeyOrd.kle at h
  have h' : PyProof.Rows.lexLt itemOrd [Sum.inl b.1, Sum.inl b.2] [Sum.inl a.1, Sum.inl a.2] = false := h
  rw [lex_cons, lex_cons] at h'
  have e : ∀ x y : Int, itemOrd.blt (Sum.inl x) (Sum.inl y) = decide (x < y) := fun _ _ => rfl
  rw [e, e, e, e] at h'
  have e0 : PyProof.Rows.lexLt itemOrd [] [] = false := rfl
  rw [e0] at h'
  simp only [Bool.or_eq_false_iff, Bool.and_eq_false_iff, Bool.not_eq_false', decide_eq_false_iff_not, decide_eq_true_eq, Bool.and_false, Bool.or_false] at h'
  unfold twoLe
  omega
end KS
end
section
namespace KS
open PySem PyProof.Rows PyProof.Rows.G
def ints2 : Option (List (Int ⊕ List Nat)) → Int × Int
  | some [Sum.inl a, Sum.inl b] => (a, b)
  | _ => (0, 0)
def key2 (h : Heap) (v : Value) : Int × Int := ints2 (tupKeyC h shI v)
theorem Two.key2 {h : Heap} {v : Value} {k : Int × Int} (x : Two h v k) : key2 h v = k := by
  unfold KS.key2; rw [x.key]; rfl
def withKey (h : Heap) (p : Keyed) : (Int × Int) × Value := (key2 h p.1, p.2)
theorem zip_keys {h : Heap} : ∀ {ks : List Value} {kk : List (Int × Int)} (vs : List Value), Paired (Two h) ks kk → (ks.zip vs).map (withKey h) = kk.zip vs
  | _, _, _, .nil => rfl
  | _, _, [], .cons _ _ => rfl
  | _, _, v :: vs, .cons r t => by
    rw [List.zip_cons_cons, List.map_cons, List.zip_cons_cons, zip_keys vs t]
    unfold withKey; rw [r.key2]
theorem paired_mem {h : Heap} : ∀ {ks : List Value} {kk : List (Int × Int)} {v : Value}, Paired (Two h) ks kk → v ∈ ks → ∃ k, Two h v k
  | _, _, _, .cons r t, hv => by
    rcases List.mem_cons.mp hv with rfl | hv
    · exact ⟨_, r⟩
    · exact paired_mem t hv
theorem sorted_pairs {h : Heap} {arr : Array Keyed} (hT : ∀ p ∈ arr.toList, ∃ k, Two h p.1 k) (hs : SortedToK (tupKindC h shI) arr arr.size) : (arr.toList.map (withKey h)).Pairwise fun x y => twoLe x.1 y.1 := by
  rw [List.pairwise_map, List.pairwise_iff_getElem]
  intro i j hi hj hij
  have hi' : i < arr.size := by simpa using hi
  have hj' : j < arr.size := by simpa using hj
  have q := hs i j (Nat.le_of_lt hij) hj'
  obtain ⟨k1, t1⟩ := hT arr.toList[i] (List.getElem_mem hi)
  obtain ⟨k2, t2⟩ := hT arr.toList[j] (List.getElem_mem hj)
  have e : ∀ (m : Nat) (hm : m < arr.size) (k : Int × Int), Two h arr.toList[m].1 k → KK (tupKindC h shI) arr m = [Sum.inl k.1, Sum.inl k.2] := fun m hm k t => by
    unfold KK
    have e1 : arr[m]? = some arr.toList[m] := by simp [hm]
    rw [e1]
    show (tupKeyC h shI arr.toList[m].1).getD [] = _
    rw [t.key]; rfl
  rw [e i hi' k1 t1, e j hj' k2 t2] at q
  show twoLe (KS.key2 h _) (KS.key2 h _)
  rw [t1.key2, t2.key2]
  exact twoLe_of q
section
variable {prog : Program} {w : World} {A : Around} {E : Value → Shared → Prop} {s : Shared} {a : Addr} {f : Value} {vs : List Value} {n : Nat} {P : PySem.Fin → Shared → Prop}
def Ends (a kS : Addr) (vs : List Value) (P : PySem.Fin → Shared → Prop) (ks : List Value) (s1 : Shared) : Prop :=
  ∃ kk : List (Int × Int), Paired (Two s1.heap) ks kk ∧ ∀ (ps : List ((Int × Int) × Value)) (h' : Heap) (c : Nat), ps.Perm (kk.zip vs) → ps.Pairwise (fun x y => twoLe x.1 y.1) → h'.get? a = some (seqObj "list" (ps.map (·.2)).toArray c) →
    (∀ b o, b ≠ a → b ≠ kS → s1.heap.get? b = some o → h'.get? b = some o) → s1.heap.objs.size ≤ h'.objs.size → P (.done (.ret .none)) { s1 with heap := h' }
theorem two_tail {kS : Addr} {ks : List Value} {e e1 : Nat} {st : SortSt} {kk : List (Int × Int)} (oK : s.heap.get? kS = some (seqObj "list" ks.toArray e)) (oA : s.heap.get? a = some (seqObj "list" #[] e1)) (ne : kS ≠ a) (hL : vs.length ≤ 1000) (hlen : ks.length = vs.length)
    (hT : Paired (Two s.heap) ks kk) (hp : (arrOf st).Perm (ks.toArray.zip vs.toArray)) (hs : SortedToK (tupKindC s.heap shI) (arrOf st) (arrOf st).size) (hfl : failedOf st = none)
    (h : ∀ (ps : List ((Int × Int) × Value)) (h' : Heap) (c : Nat), ps.Perm (kk.zip vs) → ps.Pairwise (fun x y => twoLe x.1 y.1) → h'.get? a = some (seqObj "list" (ps.map (·.2)).toArray c) →
      (∀ b o, b ≠ a → b ≠ kS → s.heap.get? b = some o → h'.get? b = some o) → s.heap.objs.size ≤ h'.objs.size → P (.done (.ret .none)) { s with heap := h' }) :
    wpAny (model prog w) A (ksk_tail a false e1 (.ref kS) st) P E s := by
  have hsz : (arrOf st).size = vs.length := by rw [hp.size_eq, Array.size_zip, List.size_toArray, List.size_toArray, hlen, Nat.min_self]
  have sb1 := Heap.SameBut.update s.heap kS (Obj.mapSeq fun _ => (#[] : Array Value))
  have oA1 : (s.heap.update kS (Obj.mapSeq fun _ => (#[] : Array Value))).get? a = some (seqObj "list" #[] e1) := (sb1.2 a ne.symm).trans oA
  have sb2 := Heap.SameBut.update (s.heap.update kS (Obj.mapSeq fun _ => (#[] : Array Value))) a (Obj.mapSeq fun _ => (arrOf st).map (·.2))
  obtain ⟨c2, oA2⟩ : ∃ c2, ((s.heap.update kS (Obj.mapSeq fun _ => (#[] : Array Value))).update a (Obj.mapSeq fun _ => (arrOf st).map (·.2))).get? a = some (seqObj "list" ((arrOf st).map (·.2)) c2) :=
    ⟨_, get?_update_seq oA1 fun _ => (arrOf st).map (·.2)⟩
  have hpl : (arrOf st).toList.Perm (ks.zip vs) := by
    have := Array.perm_iff_toList_perm.mp hp
    have e : (ks.toArray.zip vs.toArray).toList = ks.zip vs := by simp
    rw [e] at this; exact this
  unfold ksk_tail
  try dsimp only
  refine wpAny_bind (listUpdate_at oK rfl ?_ (by rw [List.size_toArray, sizeLine_eq]; omega) (Nat.zero_le _))
  refine wpAny_bind (wpAny_letGo ?_)
  refine wpAny_bind (seqEpoch_at oA1 rfl ?_)
  refine wpAny_bind (listUpdate_at oA1 rfl ?_ (Nat.zero_le _) (Nat.le_trans (Nat.le_of_eq (by simp only [Bool.false_eq_true, if_false, Array.size_map]; exact hsz)) (by rw [sizeLine_eq]; omega)))
  rw [hfl]
  simp only [bne_self_eq_false, Bool.false_eq_true, if_false]
  refine wpAny_pure (h ((arrOf st).toList.map (withKey s.heap)) _ c2 ?_ (sorted_pairs (fun p hm => ?_) hs) ?_ (fun b o hb hk e' => ?_) ?_)
  · have := hpl.map (withKey s.heap)
    rw [zip_keys vs hT] at this; exact this
  · have hm2 := hpl.mem_iff.mp hm
    exact paired_mem hT (List.of_mem_zip hm2).1
  · rw [oA2, List.map_map]
    congr 2
    apply Array.ext'
    simp [withKey, Function.comp_def]
  · exact (sb2.2 b hb).trans ((sb1.2 b hk).trans e')
  · rw [Heap.size_update, Heap.size_update]; exact Nat.le_refl _
theorem two_end {kS : Addr} {ks : List Value} {e e1 : Nat} (oK : s.heap.get? kS = some (seqObj "list" ks.toArray e)) (oA : s.heap.get? a = some (seqObj "list" #[] e1)) (ne : kS ≠ a) (hL : vs.length ≤ 1000) (hlen : ks.length = vs.length)
    (h : Ends a kS vs P ks s) : wpAny (model prog w) A (ksk_end a false vs.toArray e1 (.ref kS) ks.toArray) P E s := by
  obtain ⟨kk, hT, h⟩ := h
  have hzs : (ks.toArray.zip vs.toArray).size = vs.length := by rw [Array.size_zip, List.size_toArray, List.size_toArray, hlen, Nat.min_self]
  unfold ksk_end
  try dsimp only
  simp only [Bool.false_eq_true, if_false]
  by_cases h2 : vs.toArray.size < 2
  · rw [if_pos h2, if_pos h2]
    refine wpAny_bind (wpAny_pure ?_)
    rw [StateT.run_pure]
    refine wpAny_bind (wpAny_pure ?_)
    try dsimp only
    refine two_tail (st := SortSt.mk' general' (ks.toArray.zip vs.toArray) #[] 7 none) oK oA ne hL hlen hT (Array.Perm.refl _) ?_ rfl h
    intro i j hij hj
    have hj2 : j < (ks.toArray.zip vs.toArray).size := hj
    rw [hzs] at hj2
    rw [List.size_toArray] at h2
    have : i = j := by omega
    subst this
    exact KeyOrd.kle_refl _
  · rw [if_neg h2, if_neg h2]
    rw [List.size_toArray] at h2
    obtain ⟨fs, hfs, hfl⟩ := twos_tups hT
    refine wpAny_bind (tup_kind (fs := fs) (by omega) hfs ?_)
    refine wpAny_bind (wpAny_mono (wpS_sortRunsSt (κ := tupKindC s.heap shI) (kd := tuples' true) (a₀ := ks.toArray.zip vs.toArray) (st := SortSt.mk' (tuples' true) (ks.toArray.zip vs.toArray) #[] 7 none)
      (Q := fun _ st' => (arrOf st').Perm (ks.toArray.zip vs.toArray) ∧ failedOf st' = none ∧ SortedToK (tupKindC s.heap shI) (arrOf st') (ks.toArray.zip vs.toArray).size)
      (tupC_ltAt true (KeepsTups.refl _)) (fun p hp => ?_) ⟨Array.Perm.refl _, rfl, rfl⟩ rfl (Stable.refl _) (by rw [hzs]; omega) fun st' a1 a2 a3 _ => ⟨a1, a2, a3⟩) ?_ fun _ _ e => e)
    · have e3 : (ks.toArray.zip vs.toArray).toList = ks.zip vs := by simp
      rw [e3] at hp
      obtain ⟨k, tk⟩ := paired_mem hT (List.of_mem_zip hp).1
      exact ⟨_, tk.key⟩
    · rintro ⟨⟨⟩, st'⟩ s' ⟨rfl, hp, hf, hs⟩
      try dsimp only
      exact two_tail oK oA ne hL hlen hT hp (by rw [hp.size_eq]; exact hs) hf h
end
end KS
end
section
namespace KS
open PySem PyProof.Rows PyProof.Rows.G
section
variable {prog : Program} {w : World} {A : Around} {E : Value → Shared → Prop} {s : Shared} {a kS : Addr} {f : Value} {vs : List Value} {n e1 : Nat} {P : PySem.Fin → Shared → Prop}
structure Keys (prog : Program) (w : World) (A : Around) (a kS : Addr) (e1 : Nat) (f : Value) (vs : List Value) (P : PySem.Fin → Shared → Prop) (J : List Value → Shared → Prop) : Prop where
  turn : ∀ (ks : List Value) (e : Nat) (v : Value) (s1 : Shared), J ks s1 → vs[ks.length]? = some v → s1.heap.get? kS = some (seqObj "list" ks.toArray e) → s1.heap.get? a = some (seqObj "list" #[] e1) →
    wpAny (model prog w) A (call f [v]) (fun k s2 => s2.heap.get? kS = some (seqObj "list" ks.toArray e) ∧ s2.heap.get? a = some (seqObj "list" #[] e1) ∧ ∀ h3, Heap.SameBut kS s2.heap h3 → J (ks ++ [k]) { s2 with heap := h3 }) (fun _ _ => False) s1
  done : ∀ (ks : List Value) (e : Nat) (s1 : Shared), ks.length = vs.length → J ks s1 → s1.heap.get? kS = some (seqObj "list" ks.toArray e) → s1.heap.get? a = some (seqObj "list" #[] e1) → Ends a kS vs P ks s1
theorem two_rest {J : List Value → Shared → Prop} (hJ : Keys prog w A a kS e1 f vs P J) (h0 : J [] s) (oK : s.heap.get? kS = some (seqObj "list" #[] 0)) (oA : s.heap.get? a = some (seqObj "list" #[] e1)) (ne : kS ≠ a) (hL : vs.length ≤ 1000) :
    wpAny (model prog w) A (ksk_rest a f false vs.toArray e1 (.ref kS)) P E s := by
  unfold ksk_rest
  refine wpAny_bind (wpAny_rule ?_)
  first
    | rw [List.forIn_toArray]
    | (rw [← Array.forIn_toList]; simp only [List.toList_toArray])
    | rw [← Array.forIn_toList]
  refine wpAny_bind (ksk_fold (fun i s1 => ∃ ks e, ks.length = i ∧ J ks s1 ∧ s1.heap.get? kS = some (seqObj "list" ks.toArray e) ∧ s1.heap.get? a = some (seqObj "list" #[] e1)) vs 0 s ⟨[], 0, rfl, h0, oK, oA⟩ ?step ?done)
  case step =>
    rintro j x s1 hx ⟨ks, e, hl, hj, o1, o2⟩
    rw [Nat.zero_add] at hl
    have hjl : j < vs.length := (List.getElem?_eq_some_iff.mp hx).1
    refine wpAny_bind (wpAny_attempt (wpAny_mono (hJ.turn ks e x s1 hj (by rw [hl]; exact hx) o1 o2) (fun k s2 z => ?_) fun _ _ hF => hF.elim))
    obtain ⟨p1, p2, p3⟩ := z
    try dsimp only
    have sb := Heap.SameBut.update s2.heap kS (Obj.mapSeq (·.push k))
    obtain ⟨c2, oc⟩ : ∃ c2, (s2.heap.update kS (Obj.mapSeq (·.push k))).get? kS = some (seqObj "list" (ks.toArray.push k) c2) := ⟨_, get?_update_seq p1 (·.push k)⟩
    refine wpAny_bind (listUpdate_at p1 rfl ?_ (by rw [List.size_toArray, sizeLine_eq]; omega) (Nat.le_trans (Nat.le_of_eq (Array.size_push ..)) (by rw [List.size_toArray, sizeLine_eq]; omega)))
    refine wpAny_pure ⟨rfl, ks ++ [k], c2, by rw [List.length_append, List.length_singleton, Nat.zero_add, hl], p3 _ sb, ?_, (sb.2 a ne.symm).trans p2⟩
    show (s2.heap.update kS (Obj.mapSeq (·.push k))).get? kS = _
    rw [oc]; simp
  case done =>
    rintro s1 ⟨ks, e, hl, hj, o1, o2⟩
    rw [Nat.zero_add] at hl
    try dsimp only
    refine wpAny_bind (listItems_at o1 rfl ?_)
    exact two_end o1 o2 ne hL hl (hJ.done ks e s1 hl hj o1 o2)
theorem two_tree (ho : s.heap.get? a = some (seqObj "list" vs.toArray n)) (hL : vs.length ≤ 1000)
    (h : ∀ (kS : Addr) (e1 : Nat) (h1 : Heap), s.heap.objs.size ≤ kS → (∀ b o, b ≠ a → s.heap.get? b = some o → h1.get? b = some o) → h1.get? kS = some (seqObj "list" #[] 0) → h1.get? a = some (seqObj "list" #[] e1) →
      ∃ J, J [] { s with heap := h1 } ∧ Keys prog w A a kS e1 f vs P J) : wpAny (model prog w) A (ksk_tree a f false) P E s := by
  have ha : a < s.heap.objs.size := Heap.lt_size ho
  unfold ksk_tree
  refine wpAny_bind (listItems_at ho rfl ?_)
  refine wpAny_bind (listUpdate_at ho rfl ?_ (by rw [List.size_toArray, sizeLine_eq]; omega) (Nat.zero_le _))
  obtain ⟨e1, oA⟩ : ∃ e1, (s.heap.update a (Obj.mapSeq fun _ => #[])).get? a = some (seqObj "list" #[] e1) := ⟨_, get?_update_seq ho (fun _ => #[])⟩
  refine wpAny_bind (seqEpoch_at oA rfl ?_)
  refine wpAny_bind (wpAny_newTuple ?_ (by show vs.toArray.toList.length ≤ sizeLine; simp [sizeLine_eq]; omega))
  refine wpAny_bind (wpAny_newList ?_ (Nat.zero_le _))
  refine wpAny_holding ?_
  have sb := Heap.SameBut.update s.heap a (Obj.mapSeq fun _ => (#[] : Array Value))
  have sz : ((s.heap.update a (Obj.mapSeq fun _ => #[])).push (seqObj "tuple" vs.toArray 0)).objs.size = s.heap.objs.size + 1 := by
    rw [size_push', Heap.size_update]
  have oA2 : (((s.heap.update a (Obj.mapSeq fun _ => #[])).push (seqObj "tuple" vs.toArray 0)).push (seqObj "list" #[] 0)).get? a = some (seqObj "list" #[] e1) := Heap.get?_push_of_some _ (Heap.get?_push_of_some _ oA)
  have oK2 : (((s.heap.update a (Obj.mapSeq fun _ => #[])).push (seqObj "tuple" vs.toArray 0)).push (seqObj "list" #[] 0)).get? (s.heap.objs.size + 1) = some (seqObj "list" #[] 0) := by
    rw [← sz]; exact Heap.get?_push_size _ rfl
  obtain ⟨J, j0, hJ⟩ := h (s.heap.objs.size + 1) e1 _ (Nat.le_succ _) (fun b o hb e => Heap.get?_push_of_some _ (Heap.get?_push_of_some _ ((sb.2 b hb).trans e))) oK2 oA2
  have z := two_rest (E := E) hJ j0 oK2 oA2 (Nat.ne_of_gt (Nat.lt_succ_of_lt ha)) hL
  show wpAny (model prog w) A (ksk_rest a f false vs.toArray.toList.toArray e1 (.ref ((s.heap.update a (Obj.mapSeq fun _ => #[])).push (seqObj "tuple" vs.toArray 0)).objs.size)) P E _
  rw [sz]
  simpa using z
end
section
variable {prog : Program} {w : World} {A : Around} {E : Value → Shared → Prop} {s : Shared}
def upTo (n : Nat) : List Int := (List.range n).map fun (i : Nat) => (i : Int)
theorem intsAre_by : ∀ (vs : List Value) (ns : List Int), vs.length = ns.length → (∀ (i : Nat) (v : Value), vs[i]? = some v → ∃ t, v = Value.int (ns.getD i 0) t) → IntsAre vs ns
  | [], [], _, _ => .nil
  | [], _ :: _, h, _ => by simp at h
  | _ :: _, [], h, _ => by simp at h
  | v :: vs, n :: ns, h, k => by
    obtain ⟨t, e⟩ := k 0 v rfl
    have e' : v = Value.int n t := e
    rw [e']
    exact .cons n t (intsAre_by vs ns (by simpa using h) fun i v hv => by simpa using k (i + 1) v (by simpa using hv))
theorem ints_of_items {n : Nat} {acc : Array Value} (h : ItemsOf (fun (i : Nat) (v : Value) => ∃ t, v = Value.int ((0 : Int) + (i : Int) * 1) t) acc n) : IntsAre acc.toList (upTo n) := by
  refine intsAre_by _ _ (by unfold upTo; rw [List.length_map, List.length_range, Array.length_toList]; exact h.1) fun i v hv => ?_
  have hv' : acc[i]? = some v := by simpa using hv
  obtain ⟨t, e⟩ := h.2 i v hv'
  have hi : i < n := by rw [← h.1]; exact (Array.getElem?_eq_some_iff.mp hv').1
  refine ⟨t, ?_⟩
  have e2 : (upTo n).getD i 0 = (i : Int) := by
    unfold upTo
    rw [List.getD_eq_getElem?_getD, List.getElem?_map, List.getElem?_range hi]; rfl
  rw [e2, e]
  congr 1
  omega
theorem iadd_range {R : Result → Shared → Prop} {r : Addr} {hi : Int} {t u v : Tok} {n : Nat} (hh : A.handled = none) (hr : IsRange s.heap r 0 hi 1 t u v) (hn : hi = n) (hlen : n ≤ 1000)
    (hR : ∀ h' tk acc c, s.heap.objs.size < h'.objs.size → (∀ b o, s.heap.get? b = some o → h'.get? b = some o) → h'.get? s.heap.objs.size = some { cls := .type "list", dict := none, data := .seq acc c, slots := #[] } → IntsAre acc.toList (upTo n) →
      R (.ok (.ret (.ref s.heap.objs.size))) { s with heap := h', toks := tk }) :
    codeAny (model prog w) A (.builtin "list.__iadd__" ⟨[.ref s.heap.objs.size, .ref r], []⟩) R { s with heap := s.heap.push { cls := .type "list", data := .seq ([] : List Value).toArray } } := by
  have hsz : Builtin.Range.rangeSize 0 hi 1 = n := by
    rw [rangeSize_one]; split <;> omega
  refine PySem.codeAny_builtin PySem.F.entry_list_iadd ?_
  rw [PySem.Around.under_plainId PySem.F.plain_list_iadd _]
  show wpAny _ A.in1 (Builtin.List.listExtendWith (.ref s.heap.objs.size) (.ref r) (.ref s.heap.objs.size)) _ _ _
  have oN : (s.heap.push { cls := .type "list", data := .seq ([] : List Value).toArray }).get? s.heap.objs.size = some { cls := .type "list", data := .seq (#[] : Array Value) } := Heap.get?_push_size _ rfl
  refine wpAny_extend_range (A := A) (R := R) (s := { s with heap := s.heap.push { cls := .type "list", data := .seq ([] : List Value).toArray } }) hh (Heap.get?_push_of_some _ hr) (small_one (by omega) (by omega) (by omega) (by omega)) hsz (by omega) s.heap.objs.size _ 0 oN fun h' tk acc c kk oS hacc => ?_
  exact hR h' tk acc c (Heap.lt_size oS) (fun b o e => kk b o (Nat.ne_of_lt (Heap.lt_size e)) (Heap.get?_push_of_some _ e)) oS (ints_of_items hacc)
theorem collect_range {r : Addr} {hi : Int} {t u v : Tok} {n : Nat} {Q : List Value → Shared → Prop} (hh : A.handled = none) (hr : IsRange s.heap r 0 hi 1 t u v) (hn : hi = n) (hlen : n ≤ 1000)
    (h : ∀ h' tk vs, s.heap.objs.size < h'.objs.size → (∀ b o, s.heap.get? b = some o → h'.get? b = some o) → IntsAre vs (upTo n) → Q vs { s with heap := h', toks := tk }) :
    wpAny (model prog w) A (collect (.ref r)) Q E s := by
  unfold collect
  refine wpAny_bind (wpAny_runValue (PySem.codeAny_builtin PySem.F.entry_proto_collect ?_))
  rw [PySem.Around.under_plainId PySem.F.plain_proto_collect _]
  show wpAny _ A.in1 (PySem.newList [] >>= fun l => again (.builtin "list.__iadd__" ⟨[l, .ref r], []⟩)) _ _ s
  refine wpAny_bind (wpAny_newObj_type ?_)
  refine wpAny_pure ⟨plainId_quiet PySem.F.plain_list_iadd _, iadd_range hh hr hn hlen fun h' tk acc c h1 h2 h3 h4 => ?_⟩
  show wpAny _ A (load s.heap.objs.size >>= _) _ _ _
  refine wpAny_bind (wpAny_load h3 ?_)
  exact wpAny_pure (h h' tk acc.toList h1 h2 h4)
theorem sorted_range {r q : Addr} {hi : Int} {t u v : Tok} {n : Nat} {Q : Value → Shared → Prop} (hh : A.handled = none) (hr : IsRange s.heap r 0 hi 1 t u v) (hn : hi = n) (hlen : n ≤ 1000)
    (h : ∀ (vs : List Value) (D : Addr) (s1 : Shared), IntsAre vs (upTo n) → s.heap.objs.size ≤ D → s1.gens = s.gens → s1.drawn = s.drawn → s1.os = s.os → (∀ b o, s.heap.get? b = some o → s1.heap.get? b = some o) → s1.heap.get? D = some (seqObj "list" vs.toArray 0) →
      ∀ (kS : Addr) (e1 : Nat) (h1 : Heap), s1.heap.objs.size ≤ kS → (∀ b o, b ≠ D → s1.heap.get? b = some o → h1.get? b = some o) → h1.get? kS = some (seqObj "list" #[] 0) → h1.get? D = some (seqObj "list" #[] e1) →
      ∃ J, J [] { s1 with heap := h1 } ∧ Keys prog w A.in1.in1 D kS e1 (.ref q) vs (fun fin s2 => fin = .done (.ret .none) ∧ Q (.ref D) s2) J) :
    wpAny (model prog w) A (call (.builtin "sorted") [.ref r] [(Str.ofString "key", .ref q)]) Q E s := by
  refine call_function_entry_kw PyProof.Rows.kind_sorted PyProof.Rows.plain_sorted PyProof.Rows.entry_sorted (ksk_s1 _ _) ?_
  unfold Builtin.«sorted»
  refine wpAny_bind (m := checkCount "sorted" 1 1 _) (wpAny_pure ?_)
  refine wpAny_bind (collect_range hh hr hn hlen fun h' tk vs hlt kk hi => ?_)
  have hl : vs.length = n := by rw [hi.length]; unfold upTo; rw [List.length_map, List.length_range]
  refine wpAny_bind (wpAny_newList ?_ (by rw [sizeLine_eq]; omega))
  have oD : (h'.push (seqObj "list" vs.toArray 0)).get? h'.objs.size = some (seqObj "list" vs.toArray 0) := Heap.get?_push_size _ rfl
  refine wpAny_bind (wpAny_holding (wpAny_call_entry_kw PyProof.Rows.slot_list_sort ⟨_, oD, rfl⟩ PyProof.Rows.entry_list_sort ?body (ksk_l1 _ _)))
  case body =>
    rw [ksk_t1]
    refine wpAny_mono (two_tree (f := .ref q) (vs := vs) oD (by omega) (h vs h'.objs.size { s with heap := h'.push (seqObj "list" vs.toArray 0), toks := tk } hi (Nat.le_of_lt hlt) rfl rfl rfl (fun b o e => Heap.get?_push_of_some _ (kk b o e)) oD)) (fun fin s2 z => ?_) fun _ _ e => e
    obtain ⟨rfl, z⟩ := z
    exact ⟨_, rfl, wpAny_pure ⟨_, rfl, z⟩⟩
end
end KS
end
section
namespace L2
open PySem PySem.Spec PyProof.Rows
open PySem.W (kla_fn kla_obj envX)
def lamCx (X : Cx) (A1 : Around) (N : List Str) (qual : Str) (scope : Scope) (cl : List (Str × Addr)) (f c1 : Addr) (s : Shared) (H : Hp) : Cx where
  prog := X.prog
  w := X.w
  K := X.K
  mg := X.mg
  base := X.base
  A := A1.deeper (envX qual scope s.heap.objs.size f (.ref c1) cl)
  N := N
  s_0 := s
  H_0 := H
  env := envX qual scope s.heap.objs.size f (.ref c1) cl
  outer := X.stack
  stack := envX qual scope s.heap.objs.size f (.ref c1) cl :: X.stack
  ex := []
  fn := fun _ => false
  calm := true
  pn := []
  xe := fun _ _ => False
structure LamScope (X : Cx) (N ps : List Str) (scope : Scope) (cl : List (Str × Addr)) : Prop where
  kind : scope.kind = .function
  co : scope.isCoroutine = false
  gen : scope.isGenerator = false
  nocell : ∀ x ∈ scope.names, x.2 ≠ .cell
  nd : N.Nodup
  pre : N.take ps.length = ps
  par : ∀ x ∈ ps, scope.names.lookup x = some .local
  clo : ∀ x c, cl.lookup x = some c → X.env.cells.lookup x = some c
  free : ∀ x, scope.names.lookup x = some .free → ∃ c, cl.lookup x = some c
theorem lookup_of_mem {β : Type} : ∀ {l : List (Str × β)} {x : Str} {u : β}, (l.map (·.1)).Nodup → (x, u) ∈ l → l.lookup x = some u
  | [], _, _, _, h => by cases h
  | (y, w) :: l, x, u, nd, h => by
    rw [List.map_cons, List.nodup_cons] at nd
    rw [List.lookup_cons]
    rcases List.mem_cons.mp h with e | h2
    · cases e; simp
    · have hne : (x == y) = false := by
        apply beq_eq_false_iff_ne.mpr
        intro z
        rw [← z] at nd
        exact nd.1 (List.mem_map.mpr ⟨(x, u), h2, rfl⟩)
      rw [hne]
      exact lookup_of_mem nd.2 h2
theorem zip_fst_sub {α β : Type} : ∀ (l : List α) (m : List β), ((l.zip m).map (·.1)).Sublist l
  | [], _ => by simp
  | _ :: _, [] => by simp
  | x :: l, y :: m => by
    rw [List.zip_cons_cons, List.map_cons]; exact (zip_fst_sub l m).cons_cons x
theorem lookup_rev {P : List Str} {us : List Value} {i : Nat} {x : Str} {u : Value} (nd : P.Nodup) (hz : (P.zip us)[i]? = some (x, u)) : (P.zip us).reverse.lookup x = some u := by
  refine lookup_of_mem ?_ (List.mem_reverse.mpr (List.mem_of_getElem? hz))
  rw [List.map_reverse]
  exact ((List.reverse_perm _).nodup_iff).mpr (nd.sublist (zip_fst_sub P us))
section
variable {X : Cx} {pins : List (Addr × Obj)} {σ : St} {H : Hp} {s : Shared} {A1 : Around} {N ps : List Str} {name qual : Str} {params : Arguments} {body : Expr} {scope : Scope} {cl : List (Str × Addr)} {f c1 : Addr} {pm ctv : Value}
def CellVal (X : Cx) (s : Shared) (x : Str) (v : V) : Prop := ∃ c u, X.env.cells.lookup x = some c ∧ s.heap.IsCell c (some u) ∧ RelV v u
theorem Inv.cellVal (I : Inv X pins σ H s) {k : Nat} {x : Str} {v : V} (hN : X.N[k]? = some x) (e : σ[k]? = some (some v)) (hk : X.env.scope.names.lookup x = some .cell ∨ X.env.scope.names.lookup x = some .free) : CellVal X s x v := by
  obtain ⟨m, _, hl⟩ := I.loc
  obtain ⟨u, r, l⟩ := hl k x v hN e (.inr hk)
  rcases l with ⟨q, _⟩ | ⟨_, c, hc, hcell⟩
  · have q' : X.env.scope.names.lookup x = some .local := q
    rcases hk with z | z <;> (rw [z] at q'; cases q')
  · exact ⟨c, u, hc, hcell, r⟩
theorem lam_inv (I : Inv X pins σ H s) (hf : A1.frames = some X.stack) (hd : A1.handled = none) (S : LamScope X N ps scope cl) {us : List Value} {vs fv : List V} (r : Vals vs us) (hl : vs.length = ps.length) (hlN : vs.length + fv.length = N.length)
    (hfv : ∀ (j : Nat) (x : Str) (v : V), N[vs.length + j]? = some x → fv[j]? = some v → scope.names.lookup x = some .free → CellVal X s x v)
    (hps : ∀ (j : Nat) (x : Str), N[vs.length + j]? = some x → scope.names.lookup x ≠ some .local)
    {h1 : Heap} {tk : Nat} (hns : h1.Ns s.heap.objs.size (fun x => (ps.zip us).reverse.lookup x)) (hk : ∀ b o, s.heap.get? b = some o → h1.get? b = some o) :
    Inv (lamCx X A1 N qual scope cl f c1 s H) [] (vs.map some ++ fv.map some) H { s with heap := h1, toks := tk } := by
  have noA : ∀ b : Addr, b ∉ (lamCx X A1 N qual scope cl f c1 s H).ex := fun b z => absurd (show b ∈ ([] : List Addr) from z) (by simp)
  refine ⟨⟨I.mod, S.kind, rfl, rfl, Nat.le_refl _, fun x y c e1 e2 => I.ok.inj x y c (S.clo x c e1) (S.clo y c e2), fun x hx => ?_, fun x c e _ => Bool.noConfusion (show false = true from e), fun _ => hd, Around.frames_deeper hf, .inr ⟨rfl, rfl⟩, fun b z => absurd z (noA b), I.bs, Nat.le_trans I.ok.bsz I.sz,
      fun b _ _ => noA b, fun b z => absurd z (noA b), I.stack, I.stkFree⟩,
    rfl, I.bare, Un.kept hk, ⟨_, hns, fun i x v e1 e2 e3 => ?_⟩, fun x c e => ?_, I.hok.fresh (Nat.le_refl _), fun x c e => I.freeC x c (S.clo x c e), fun p hp => absurd (show p ∈ ([] : List (Addr × Obj)) from hp) (by simp), I.hok.kept hk, ?_⟩
  · have hx : scope.names.lookup x = some .cell ∨ scope.names.lookup x = some .free := hx
    rcases hx with hx | hx
    · exact absurd rfl (S.nocell _ (PySem.mem_of_lookup hx))
    · exact S.free x hx
  · have e1 : N[i]? = some x := e1
    by_cases hi : i < vs.length
    · rw [List.getElem?_append_left (by simpa using hi), List.getElem?_map] at e2
      have ha : vs[i]? = some v := by
        cases q : vs[i]? with
        | none => rw [q] at e2; cases e2
        | some a => rw [q] at e2; cases e2; rfl
      obtain ⟨u, hu, rv⟩ := r.get ha
      have hp : ps[i]? = some x := by
        rw [← S.pre, List.getElem?_take_of_lt (by omega)]; exact e1
      have ndP : ps.Nodup := by rw [← S.pre]; exact S.nd.sublist (List.take_sublist _ _)
      have hloc := S.par x (List.mem_of_getElem? hp)
      refine ⟨u, rv, .inl ⟨hloc, ?_⟩⟩
      show (ps.zip us).reverse.lookup x = some u
      have hz : (ps.zip us)[i]? = some (x, u) := by rw [List.getElem?_zip_eq_some]; exact ⟨hp, hu⟩
      exact lookup_rev ndP hz
    · rw [List.getElem?_append_right (by simpa using hi), List.getElem?_map, List.length_map] at e2
      have e4 : N[vs.length + (i - vs.length)]? = some x := by rw [Nat.add_sub_cancel' (by omega)]; exact e1
      have ha : fv[i - vs.length]? = some v := by
        cases q : fv[i - vs.length]? with
        | none => rw [q] at e2; cases e2
        | some a => rw [q] at e2; cases e2; rfl
      have e3 : scope.names.lookup x = some .local ∨ scope.names.lookup x = some .cell ∨ scope.names.lookup x = some .free := e3
      rcases e3 with z | z | z
      · exact absurd z (hps _ x e4)
      · exact absurd rfl (S.nocell _ (PySem.mem_of_lookup z))
      · obtain ⟨c, u, hc, hcell, rv⟩ := hfv _ x v e4 ha z
        obtain ⟨c2, hc2⟩ := S.free x z
        have := S.clo x c2 hc2
        rw [hc] at this
        cases this
        obtain ⟨o, ho, hod⟩ := hcell
        exact ⟨u, rv, .inr ⟨.inr z, c, hc2, o, hk _ _ ho, hod⟩⟩
  · obtain ⟨v, o, ho, hod⟩ := I.cell x c (S.clo x c e)
    exact ⟨v, o, hk _ _ ho, hod⟩
  · show (vs.map some ++ fv.map some).length = N.length
    rw [List.length_append, List.length_map, List.length_map, hlN]
end
end L2
end
section
namespace L2
open PySem PySem.Spec PyProof.Rows
open PySem.W (kla_fn kla_obj envX tabObj CodeHd)
section
variable {X : Cx} {pins : List (Addr × Obj)} {σ : St} {H : Hp} {s : Shared} {A1 : Around} {N ps : List Str} {name qual : Str} {params : Arguments} {body : Expr} {scope : Scope} {cl : List (Str × Addr)} {f c1 : Addr} {pm ctv : Value}
theorem lam_run {E : Value → Shared → Prop} {us : List Value} {vs fv : List V} {te : TE} {Q : VK} (I : Inv X pins σ H s) (hf : A1.frames = some X.stack) (hd : A1.handled = none) (hdep : A1.depth < recursionLimit) (S : LamScope X N ps scope cl)
    (ho : s.heap.get? f = some (kla_obj name qual params body scope cl pm c1 ctv)) (hcd : s.heap.CodeRec (.ref c1) qual) (hb : bindArgs (kla_fn name qual params body scope cl pm (.ref c1) ctv) ⟨us, []⟩ = pure (ps.zip us))
    (r : Vals vs us) (hl : vs.length = ps.length) (hlN : vs.length + fv.length = N.length)
    (hfv : ∀ (j : Nat) (x : Str) (v : V), N[vs.length + j]? = some x → fv[j]? = some v → scope.names.lookup x = some .free → CellVal X s x v)
    (hps : ∀ (j : Nat) (x : Str), N[vs.length + j]? = some x → scope.names.lookup x ≠ some .local)
    (hbody : PE (lamCx X A1 N qual scope cl f c1 s H) body te) (h : te (vs.map some ++ fv.map some) H Q) :
    wpAny (model X.prog X.w) A1 (call (.ref f) us) (EP X pins σ Q) E s := by
  refine wpAny_call (PySem.W.kla_callFunE hdep ho rfl S.co S.gen rfl hcd ?_)
  rw [hb]
  refine wpAny_pure (wpAny_newFunctionEnv S.nocell (fun y hy => S.par y.1 (List.of_mem_zip (show (y.1, y.2) ∈ ps.zip us from hy)).1) (fun h1 hns hsb => ?_) S.kind)
  have hk : ∀ b o, s.heap.get? b = some o → h1.get? b = some o := fun b o e => hsb.extBut b o (Nat.ne_of_lt (Heap.lt_size e)) (Heap.get?_push_of_some _ e)
  refine ⟨I.nolimit.keeps hk, ?_⟩
  show codeAny _ _ (.expr body (envX qual scope s.heap.objs.size f (.ref c1) cl)) _ _
  have J := lam_inv (A1 := A1) (qual := qual) (f := f) (c1 := c1) (tk := s.toks + (ps.zip us).length) I hf hd S r hl hlN hfv hps hns hk
  refine PySem.W.kla_codeExpr (wpAny_mono (hbody [] _ _ H Q J h) (fun u s2 z => ?_) fun _ _ z => z.elim)
  obtain ⟨v, H2, J2, rv, q⟩ := z
  exact I.after ⟨v, H2, J2.os, J2.bare, J2.base, J2.hok, rv, q⟩
end
def codeAtHO (c1 : Addr) (qual : Str) : HO := .ext fun h => h.CodeRec (.ref c1) qual
def lamHO (f c1 : Addr) (name qual : Str) (params : Arguments) (body : Expr) (scope : Scope) (cl : List (Str × Addr)) (pm : Value) : HO := .ext fun h => ∃ ctv, h.get? f = some (kla_obj name qual params body scope cl pm c1 ctv)
def TabSt (H : Hp) (P : Addr) (lp : Pos) (qual : Str) : Prop := H P = some (.tbl #[]) ∨ ∃ c1, H P = some (.tbl #[rawInt lp.line, rawInt lp.col, .ref c1]) ∧ H c1 = some (codeAtHO c1 qual)
theorem codeAtHO_ok {Pr : Program} {w : World} {H : Hp} {h : Heap} {c1 : Addr} {qual : Str} (x : h.CodeRec (.ref c1) qual) : ObjOk Pr w H h c1 (codeAtHO c1 qual) := by
  refine ⟨x, ?_, fun h1 h2 p k => ?_⟩
  · obtain ⟨c, o, vs, t, e, ho, _⟩ := x
    cases e; exact ⟨o, ho⟩
  · obtain ⟨c, o, vs, t, e, ho, r⟩ := p
    cases e; exact ⟨c1, o, vs, t, rfl, k o ho, r⟩
theorem lamHO_ok {Pr : Program} {w : World} {H : Hp} {h : Heap} {f c1 : Addr} {name qual : Str} {params : Arguments} {body : Expr} {scope : Scope} {cl : List (Str × Addr)} {pm ctv : Value} (x : h.get? f = some (kla_obj name qual params body scope cl pm c1 ctv)) :
    ObjOk Pr w H h f (lamHO f c1 name qual params body scope cl pm) := by
  refine ⟨⟨ctv, x⟩, ⟨_, x⟩, fun h1 h2 p k => ?_⟩
  obtain ⟨ct2, e⟩ := p
  exact ⟨ct2, k _ e⟩
structure LamAt (X : Cx) (P : Addr) : Prop where
  code : ∃ c, X.env.code = .ref c ∧ CodeHd X.base c P
  blt : X.base.BuiltinsAt X.mg P
  noP : X.base.get? P = none
section
variable {X : Cx} {pins : List (Addr × Obj)} {σ : St} {H : Hp} {s : Shared} {P : Addr} {params : Arguments} {body : Expr} {scope : Scope} {lp : Pos}
structure LamMade (X : Cx) (H H2 : Hp) (P : Addr) (lp : Pos) (params : Arguments) (body : Expr) (scope : Scope) (cl : List (Str × Addr)) (f c1 : Addr) : Prop where
  tab : H2 P = some (.tbl #[rawInt lp.line, rawInt lp.col, .ref c1])
  code : H2 c1 = some (codeAtHO c1 (X.env.qual ++ "<lambda>"))
  fn : H2 f = some (lamHO f c1 "<lambda>" (X.env.qual ++ "<lambda>") params body scope cl ((X.mg "__name__").getD .none))
  new : H f = none
  keep : ∀ b o, b ≠ P → H b = some o → H2 b = some o
theorem Inv.grow {H2 : Hp} {h2 : Heap} {ps more : Array Value} {tk : Nat} (I : Inv X pins σ H s) (hP : H P = some (.tbl ps)) (keep : ∀ b o, b ≠ P → s.heap.get? b = some o → h2.get? b = some o) (hP2 : H2 P = some (.tbl (ps ++ more)))
    (oP2 : h2.get? P = some { cls := .none, data := .fields (ps ++ more) }) (same : ∀ b o, b ≠ P → H b = some o → H2 b = some o) (fresh : ∀ b, b < s.heap.objs.size → H b = none → H2 b = none)
    (newok : ∀ b o, H b = none → H2 b = some o → ObjOk X.prog X.w H2 h2 b o) : Inv X pins σ H2 { s with heap := h2, toks := tk } := by
  have nP : ∀ b u, H b = some u → u ≠ .tbl ps → b ≠ P := fun b u e d z => by
    rw [z, hP] at e; exact d (Option.some.inj e).symm
  have nP0 : ∀ b, H b = none → b ≠ P := fun b e z => by rw [z, hP] at e; cases e
  refine I.un (h' := h2) (t' := tk) ⟨fun b o e n _ _ => keep b o (nP0 b n) e, fun b o e n _ _ => ⟨o.slots, keep b o (nP0 b n) e⟩, fun b o e n _ => fresh b (Heap.lt_size e) n, fun b o e _ => ?_, fun b xs e => same b _ (nP b _ e (by intro z; cases z)) e,
    fun b o u e => same b _ (nP b _ e (by intro z; cases z)) e, fun b qs e => ?_⟩ fun b o e => ?_
  · by_cases hb : b = P
    · rw [hb]; exact ⟨_, oP2⟩
    · exact ⟨o, keep b o hb e⟩
  · by_cases hb : b = P
    · subst hb
      rw [hP] at e
      cases e
      exact ⟨more, hP2⟩
    · exact ⟨#[], by rw [same b _ hb e]; simp⟩
  · by_cases hb : b = P
    · subst hb
      rw [hP2] at e
      cases e
      exact oP2
    · cases q : H b with
      | none => exact newok b o q e
      | some u =>
        have e2 := same b u hb q
        rw [e] at e2
        cases e2
        refine (I.hok b o q).stay (fun c v hc r => keep c v ?_ r) (fun c r => same c _ (nP c _ r (by intro z; cases z)) r) fun c xs r => same c _ (nP c _ r (by intro z; cases z)) r
        rcases hc with z | z
        · rw [z]; exact hb
        · exact nP c _ z (by intro z; cases z)
theorem lam_make {E : Value → Shared → Prop} {cl : List (Str × Addr)} {Q : Value → Shared → Prop} (I : Inv X pins σ H s) (L : LamAt X P) (hT : TabSt H P lp (X.env.qual ++ "<lambda>")) (hcl : closureFor scope X.env = pure cl) (hdef : defaultsOf params X.env = ([], []))
    (h : ∀ f c1 H2 s2, LamMade X H H2 P lp params body scope cl f c1 → Inv X pins σ H2 s2 → Q (.ref f) s2) : wpAny (model X.prog X.w) X.A (eval (.Lambda params body scope lp) X.env) Q E s := by
  obtain ⟨c, hcode, C⟩ := L.code
  have Cs := C.keeps I.bk
  obtain ⟨bm, ob, b1, b2, b3, b4, b5, b6⟩ := L.blt
  have hB : s.heap.BuiltinsAt X.mg P := ⟨bm, ob, b1, b2, b3, b4, I.bk _ _ b5, b6⟩
  have hg : s.heap.Ns mainGlobals X.mg := I.mod.glob.keeps I.bk
  refine PySem.W.kla_eval hdef ?_
  rcases hT with hT | ⟨c1, hT, hc1⟩
  · have oP : s.heap.get? P = some (tabObj #[]) := I.hok P _ hT
    have gP : mainGlobals ≠ P := fun z => by
      obtain ⟨o, es, ep, e, hd, _⟩ := hg
      rw [z, oP] at e; cases e; cases hd
    refine PySem.W.kla_makeFunction hcl I.ok.glob hg hcode Cs oP trivial rfl gP hB fun c1 ctv h1 tk hx hge hlt hrec htb => ?_
    have nC : H c1 = none := I.hok.fresh hge
    have nF : H h1.objs.size = none := I.hok.fresh (Nat.le_trans hge (Nat.le_of_lt hlt))
    have cP : c1 ≠ P := Ne.symm (ne_of_none hT nC)
    have fP : h1.objs.size ≠ P := Ne.symm (ne_of_none hT nF)
    have cF : c1 ≠ h1.objs.size := Nat.ne_of_lt hlt
    have e2 : ∀ {b : Addr}, b ≠ P → b ≠ c1 → b ≠ h1.objs.size → upd (upd (upd H P (.tbl (#[] ++ #[rawInt lp.line, rawInt lp.col, .ref c1]))) c1 (codeAtHO c1 (X.env.qual ++ "<lambda>"))) h1.objs.size
        (lamHO h1.objs.size c1 "<lambda>" (X.env.qual ++ "<lambda>") params body scope cl ((X.mg "__name__").getD .none)) b = H b := fun p1 p2 p3 => by
      rw [upd_ne p3, upd_ne p2, upd_ne p1]
    refine h h1.objs.size c1 (upd (upd (upd H P (.tbl (#[] ++ #[rawInt lp.line, rawInt lp.col, .ref c1]))) c1 (codeAtHO c1 (X.env.qual ++ "<lambda>"))) h1.objs.size (lamHO h1.objs.size c1 "<lambda>" (X.env.qual ++ "<lambda>") params body scope cl ((X.mg "__name__").getD .none)))
      _ ⟨?_, ?_, upd_same, nF, fun b o hb e => ?_⟩ (I.grow (ps := #[]) (more := #[rawInt lp.line, rawInt lp.col, .ref c1]) hT (fun b o hb e => Heap.get?_push_of_some _ (hx b o hb e)) ?_ (Heap.get?_push_of_some _ htb) (fun b o hb e => ?_) (fun b hb e => ?_) fun b o n e => ?_)
    · rw [upd_ne (Ne.symm fP), upd_ne (Ne.symm cP), upd_same]; rfl
    · rw [upd_ne cF, upd_same]
    · rw [e2 hb (ne_of_none e nC) (ne_of_none e nF)]; exact e
    · rw [upd_ne (Ne.symm fP), upd_ne (Ne.symm cP), upd_same]
    · rw [e2 hb (ne_of_none e nC) (ne_of_none e nF)]; exact e
    · have hbP : b ≠ P := fun z => by rw [z, hT] at e; cases e
      rw [e2 hbP (Nat.ne_of_lt (Nat.lt_of_lt_of_le hb hge)) (Nat.ne_of_lt (Nat.lt_of_lt_of_le hb (Nat.le_trans hge (Nat.le_of_lt hlt))))]; exact e
    · by_cases q1 : b = h1.objs.size
      · subst q1
        rw [upd_same] at e
        cases e
        exact lamHO_ok (Heap.get?_push_size _ rfl)
      · by_cases q2 : b = c1
        · subst q2
          rw [upd_ne q1, upd_same] at e
          cases e
          exact codeAtHO_ok (hrec.push _)
        · have q3 : b ≠ P := fun z => by rw [z, hT] at n; cases n
          rw [e2 q3 q2 q1, n] at e
          cases e
  · have oP : s.heap.get? P = some (tabObj #[rawInt lp.line, rawInt lp.col, .ref c1]) := I.hok P _ hT
    refine PySem.W.kla_makeFunctionHit (cv := .ref c1) hcl I.ok.glob hg hcode Cs oP trivial ?_ hB fun ctv h1 tk hk hsz => ?_
    · show codeAmong lp [rawInt lp.line, rawInt lp.col, .ref c1] = some (.ref c1)
      simp [codeAmong, rawInt]
    · have nF : H h1.objs.size = none := I.hok.fresh hsz
      refine h h1.objs.size c1 (upd H h1.objs.size (lamHO h1.objs.size c1 "<lambda>" (X.env.qual ++ "<lambda>") params body scope cl ((X.mg "__name__").getD .none))) _ ⟨?_, ?_, upd_same, nF, fun b o hb e => ?_⟩
        (I.laid (t' := tk) (fun b o e => Heap.get?_push_of_some _ (hk b o e)) hsz (lamHO_ok (Heap.get?_push_size _ rfl)))
      · rw [upd_ne (ne_of_none hT nF)]; exact hT
      · rw [upd_ne (ne_of_none hc1 nF)]; exact hc1
      · rw [upd_ne (ne_of_none e nF)]; exact e
end
end L2
end
section
namespace L2
open PySem PySem.Spec PyProof.Rows KS
open PySem.W (kla_fn kla_obj envX tabObj CodeHd)
section
variable {X : Cx} {pins : List (Addr × Obj)} {σ : St} {H : Hp} {s : Shared}
theorem Inv.adopt {D k : Addr} {h2 : Heap} {xs : List V} {tk : Nat} (I : Inv X pins σ H s) (fD : FpOk X pins H D) (fk : FpOk X pins H k) (keep : ∀ b o, b ≠ D → b ≠ k → s.heap.get? b = some o → h2.get? b = some o)
    (new : ObjOk X.prog X.w (upd H D (.lst xs)) h2 D (.lst xs)) : Inv X pins σ (upd H D (.lst xs)) { s with heap := h2, toks := tk } := by
  have nD : ∀ b u, H b = some u → b ≠ D := fun b u e => ne_of_none e fD.1
  have nk : ∀ b u, H b = some u → b ≠ k := fun b u e => ne_of_none e fk.1
  have out : ∀ {b : Addr}, b ∉ [D, k] → b ≠ D ∧ b ≠ k := fun {b} hb => ⟨fun z => hb (by simp [z]), fun z => hb (by simp [z])⟩
  refine I.step (g' := s.gens) (d' := s.drawn) (ch := [D, k]) (fun b hb => ?_) (fun b o _ _ hc e _ => keep b o (out hc).1 (out hc).2 e) (fun b o _ _ hc e _ => ⟨o.slots, keep b o (out hc).1 (out hc).2 e⟩) (fun b o hc e n => by rw [upd_ne (out hc).1]; exact n)
    (fun b o hc e => ⟨o, keep b o (out hc).1 (out hc).2 e⟩) (fun b xs e => by rw [upd_ne (nD b _ e)]; exact e) (fun b o u e => by rw [upd_ne (nD b _ e)]; exact e) (fun b ps e => ⟨#[], by rw [upd_ne (nD b _ e), e]; simp⟩) (fun m hm => ?_) (fun b u e => ?_) I.bare
  · rcases List.mem_cons.mp hb with z | z
    · rw [z]; exact ⟨fD.2.2.2.1, fD.2.1, fD.2.2.2.2.1, fD.2.2.2.2.2⟩
    · rw [List.mem_singleton.mp z]; exact ⟨fk.2.2.2.1, fk.2.1, fk.2.2.2.2.1, fk.2.2.2.2.2⟩
  · obtain ⟨o, es, ep, ho, r⟩ := hm
    exact ⟨o, es, ep, keep _ o (Ne.symm fD.2.1) (Ne.symm fk.2.1) ho, r⟩
  · by_cases hb : b = D
    · subst hb
      rw [upd_same] at e
      cases e
      exact new
    · rw [upd_ne hb] at e
      refine (I.hok b u e).stay (fun c v hc q => keep c v ?_ ?_ q) (fun c q => by rw [upd_ne (nD c _ q)]; exact q) fun c xs q => by rw [upd_ne (nD c _ q)]; exact q
      · rcases hc with z | z
        · rw [z]; exact hb
        · exact nD c _ z
      · rcases hc with z | z
        · rw [z]; exact nk b u e
        · exact nk c _ z
theorem FpOk.of {H2 : Hp} {b : Addr} (x : FpOk X pins H b) (h : H2 b = none) : FpOk X pins H2 b := ⟨h, x.2⟩
end
def tRng (t : TA) : TE := fun σ H Q => t σ H fun vs H1 => ∃ j : Int, vs = [.int j] ∧ ∀ p, H1 p = none → Q (.ref p) (upd H1 p (.rng 0 j))
section
variable {X : Cx} {a : Expr} {t : TA} {p pos : Pos}
theorem pe_rng (hg : Gl X "range") (hm : X.mg "range" = none) (ha : PA X [a] t) (hs : starEach [a] X.env = [(false, eval a X.env)] := by rfl) : PE X (.Call (.Name "range" p) [a] [] pos) (tRng t) := by
  intro pins s0 σ H Q I h
  refine Call_ (ld_blt I hg hm boot_range (PyProof.Rows.callWith_type1 (thn (ha pos pins s0 σ H _ I h) fun us s1 z => ?_) hs rfl))
  obtain ⟨vs, H1, I1, r1, j, rfl, q⟩ := z
  cases r1 with
  | cons r rr =>
    cases rr
    obtain ⟨t, rfl⟩ := r
    refine call_range_1 ?_
    have hf : H1 s1.heap.objs.size = none := I1.hok.fresh (Nat.le_refl _)
    exact ⟨.ref s1.heap.objs.size, upd H1 s1.heap.objs.size (.rng 0 j), I1.laid (fun b u e => Heap.get?_push_of_some _ e) (Nat.le_refl _) ⟨_, _, _, Heap.get?_push_size _ rfl⟩, rfl, q _ hf⟩
end
end L2
end
section
namespace L2
open PySem PySem.Spec PyProof.Rows KS
open PySem.W (kla_fn kla_obj envX tabObj CodeHd)
def PairAt (H : Hp) (u : Value) (k : Int × Int) : Prop := ∃ t, u = .ref t ∧ H t = some (.tup [.int k.1, .int k.2])
theorem paired_imp {α β : Type} {F G : α → β → Prop} (f : ∀ a b, F a b → G a b) : ∀ {l : List α} {m : List β}, Paired F l m → Paired G l m
  | _, _, .nil => .nil
  | _, _, .cons r t => .cons (f _ _ r) (paired_imp f t)
theorem paired_snoc {α β : Type} {F : α → β → Prop} : ∀ {l : List α} {m : List β} {a : α} {b : β}, Paired F l m → F a b → Paired F (l ++ [a]) (m ++ [b])
  | _, _, _, _, .nil, h => .cons h .nil
  | _, _, _, _, .cons r t, h => .cons r (paired_snoc t h)
section
variable {X : Cx} {pins : List (Addr × Obj)} {σ : St} {H : Hp} {s : Shared}
theorem PairAt.two (I : Inv X pins σ H s) {u : Value} {k : Int × Int} (h : PairAt H u k) : Two s.heap u k := by
  obtain ⟨t, rfl, ht⟩ := h
  obtain ⟨_, its, hv, o, ho, hc, n, hd⟩ := (show ObjOk X.prog X.w H s.heap t (.tup _) from I.hok t _ ht)
  cases hv with
  | cons r1 hv =>
    cases hv with
    | cons r2 hv =>
      cases hv
      obtain ⟨t1, rfl⟩ := r1
      obtain ⟨t2, rfl⟩ := r2
      exact ⟨t, o, t1, t2, n, rfl, ho, hc, hd⟩
end
def idxOf (u : Value) : Nat := match u with
  | .int i _ => i.toNat
  | _ => 0
theorem upTo_getD {n i : Nat} (h : i < n) : (KS.upTo n).getD i 0 = (i : Int) := by
  unfold KS.upTo
  rw [List.getD_eq_getElem?_getD, List.getElem?_map, List.getElem?_range h]; rfl
theorem upTo_length (n : Nat) : (KS.upTo n).length = n := by unfold KS.upTo; rw [List.length_map, List.length_range]
theorem val_at {n : Nat} {vs : List Value} (hi : IntsAre vs (KS.upTo n)) {i : Nat} {v : Value} (h : vs[i]? = some v) : i < n ∧ ∃ t, v = .int (i : Int) t := by
  have hl : vs.length = n := by rw [hi.length, upTo_length]
  have hlt : i < n := by rw [← hl]; exact (List.getElem?_eq_some_iff.mp h).1
  obtain ⟨t, e⟩ := HT.intsAre_at hi (by rw [upTo_length]; exact hlt)
  rw [upTo_getD hlt, h] at e
  exact ⟨hlt, t, Option.some.inj e⟩
theorem idx_vals {n : Nat} {vs : List Value} (hi : IntsAre vs (KS.upTo n)) : vs.map idxOf = List.range n := by
  have hl : vs.length = n := by rw [hi.length, upTo_length]
  refine List.ext_getElem? fun i => ?_
  rw [List.getElem?_map]
  cases e : vs[i]? with
  | none =>
    have : n ≤ i := by rw [← hl]; exact List.getElem?_eq_none_iff.mp e
    rw [List.getElem?_eq_none (by rw [List.length_range]; exact this)]; rfl
  | some v =>
    obtain ⟨hlt, t, rfl⟩ := val_at hi e
    rw [List.getElem?_range hlt]
    show some ((i : Int).toNat) = some i
    rw [Int.toNat_natCast]
theorem zip_mem {n : Nat} {vs : List Value} (kz : Nat → Int × Int) (hi : IntsAre vs (KS.upTo n)) {p : (Int × Int) × Value} (h : p ∈ ((List.range n).map kz).zip vs) : p.1 = kz (idxOf p.2) ∧ ∃ t, p.2 = .int (idxOf p.2 : Nat) t := by
  obtain ⟨i, hlt, e⟩ := List.getElem_of_mem h
  have e' : (((List.range n).map kz).zip vs)[i]? = some p := by rw [List.getElem?_eq_getElem hlt, e]
  rw [List.getElem?_zip_eq_some] at e'
  obtain ⟨e1, e2⟩ := e'
  obtain ⟨hn, t, e3⟩ := val_at hi e2
  rw [List.getElem?_map, List.getElem?_range hn] at e1
  have e4 := (Option.some.inj e1).symm
  have e5 : idxOf p.2 = i := by rw [e3]; exact Int.toNat_natCast i
  exact ⟨by rw [e5]; exact e4, t, by rw [e5]; exact e3⟩
theorem zip_idx {n : Nat} {vs : List Value} (kz : Nat → Int × Int) (hi : IntsAre vs (KS.upTo n)) : (((List.range n).map kz).zip vs).map (fun p => idxOf p.2) = List.range n := by
  have hl : vs.length = n := by rw [hi.length, upTo_length]
  have : (((List.range n).map kz).zip vs).map (fun p => idxOf p.2) = ((((List.range n).map kz).zip vs).map Prod.snd).map idxOf := by rw [List.map_map]; rfl
  rw [this, List.map_snd_zip (by rw [List.length_map, List.length_range]; omega), idx_vals hi]
theorem vals_by : ∀ (ps : List ((Int × Int) × Value)), (∀ p ∈ ps, ∃ t, p.2 = .int (idxOf p.2 : Nat) t) → Vals ((ps.map fun p => idxOf p.2).map fun (i : Nat) => V.int (i : Int)) (ps.map (·.2))
  | [], _ => .nil
  | p :: ps, h => by
    rw [List.map_cons, List.map_cons, List.map_cons]
    refine .cons ?_ (vals_by ps fun q hq => h q (List.mem_cons_of_mem _ hq))
    obtain ⟨t, e⟩ := h p List.mem_cons_self
    exact ⟨t, e⟩
end L2
end
section
namespace L2
open PySem PySem.Spec PyProof.Rows KS
open PySem.W (kla_fn kla_obj envX tabObj CodeHd)
section
variable {X : Cx} {pins : List (Addr × Obj)} {σ : St} {H : Hp} {s : Shared} {N : List Str} {x : Str} {name qual : Str} {params : Arguments} {body : Expr} {scope : Scope} {cl : List (Str × Addr)} {f c1 r : Addr} {pm : Value} {n : Nat} {fv : List V} {te : TE} {Q : VK}
theorem sort_lam (I : Inv X pins σ H s) (hc : X.calm = true) (hdep : X.A.depth < recursionLimit) (hr : H r = some (.rng 0 (n : Int))) (hn : n ≤ 1000) (hlam : H f = some (lamHO f c1 name qual params body scope cl pm)) (hcode : H c1 = some (codeAtHO c1 qual))
    (S : LamScope X N [x] scope cl) (hb : ∀ (u ctv : Value), bindArgs (kla_fn name qual params body scope cl pm (.ref c1) ctv) ⟨[u], []⟩ = pure [(x, u)]) (hlN : 1 + fv.length = N.length)
    (hfv : ∀ (pins1 : List (Addr × Obj)) (H1 : Hp) (s1 : Shared), Inv X pins1 σ H1 s1 → ∀ (j : Nat) (y : Str) (v : V), N[1 + j]? = some y → fv[j]? = some v → scope.names.lookup y = some .free → CellVal X s1 y v)
    (hps : ∀ (j : Nat) (y : Str), N[1 + j]? = some y → scope.names.lookup y ≠ some .local)
    (hbody : ∀ (s1 : Shared) (H1 : Hp), PE (lamCx X X.A.in1.in1 N qual scope cl f c1 s1 H1) body te) (kz : Nat → Int × Int)
    (hte : ∀ (i : Nat) (H1 : Hp), i < n → (∀ b o, H b = some o → H1 b = some o) → te (some (V.int (i : Int)) :: fv.map some) H1 fun v H2 => ∃ t, v = .ref t ∧ H1 t = none ∧ H2 = upd H1 t (.tup [.int (kz i).1, .int (kz i).2]))
    (fin : ∀ (ms : List Nat) (D : Addr) (H2 : Hp), ms.Perm (List.range n) → (ms.Pairwise fun i j => twoLe (kz i) (kz j)) → H D = none → H2 D = some (.lst (ms.map fun (i : Nat) => V.int (i : Int))) → (∀ b o, H b = some o → H2 b = some o) → Q (.ref D) H2) :
    wpAny (model X.prog X.w) X.A (call (.builtin "sorted") [.ref r] [(Str.ofString "key", .ref f)]) (EP X pins σ Q) X.xe s := by
  obtain ⟨t, u, v, hrg⟩ := (show ObjOk X.prog X.w H s.heap r (.rng 0 (n : Int)) from I.hok r _ hr)
  refine sorted_range (I.ok.hd hc) hrg rfl hn fun vs D s1 hi hD g1 g2 g3 kk oD kS e1 h1 hkS keep1 oK oA => ?_
  have hl : vs.length = n := by rw [hi.length, upTo_length]
  have hD1 : D < s1.heap.objs.size := Heap.lt_size oD
  have hsS : s.heap.objs.size ≤ kS := Nat.le_trans hD (Nat.le_trans (Nat.le_of_lt hD1) hkS)
  have fD0 : FpOk X pins H D := I.fpOk hD (I.hok.fresh hD)
  have fK0 : FpOk X pins H kS := I.fpOk hsS (I.hok.fresh hsS)
  refine ⟨fun ks s2 => ∃ H1, Inv X pins σ H1 s2 ∧ (∀ b o, H b = some o → H1 b = some o) ∧ FpOk X pins H1 D ∧ FpOk X pins H1 kS ∧ Paired (PairAt H1) ks ((List.range ks.length).map kz), ⟨H, ?_, fun _ _ e => e, fD0, fK0, .nil⟩, ⟨?_, ?_⟩⟩
  · obtain ⟨hp, g, d, tk, os⟩ := s1
    cases g1; cases g2; cases g3
    exact I.kept (t' := tk) fun b o e => keep1 b o (Nat.ne_of_lt (Nat.lt_of_lt_of_le (Heap.lt_size e) hD)) (kk b o e)
  · rintro ks e v s2 ⟨H1, I1, sub, fD, fK, pk⟩ hv o1 o2
    obtain ⟨hlt, t, rfl⟩ := val_at hi hv
    have I1p : Inv X (pins ++ [(kS, seqObj "list" ks.toArray e), (D, seqObj "list" #[] e1)]) σ H1 s2 := I1.pins_of fun p hp => by
      rcases List.mem_append.mp hp with hp | hp
      · exact I1.pin p (List.mem_append_right _ hp)
      · rcases List.mem_cons.mp hp with z | z
        · subst z; exact ⟨o1, fK.1, fK.2.1, fK.2.2.1, fun v q => by cases q⟩
        · rw [List.mem_singleton.mp z]; exact ⟨o2, fD.1, fD.2.1, fD.2.2.1, fun v q => by cases q⟩
    obtain ⟨⟨ctv, hof⟩, _, _⟩ := (show ObjOk X.prog X.w H1 s2.heap f (lamHO f c1 name qual params body scope cl pm) from I1.hok f _ (sub _ _ hlam))
    obtain ⟨hcd, _, _⟩ := (show ObjOk X.prog X.w H1 s2.heap c1 (codeAtHO c1 qual) from I1.hok c1 _ (sub _ _ hcode))
    have run := lam_run (E := fun _ _ => False) (A1 := X.A.in1.in1) (vs := [V.int (ks.length : Int)]) (us := [Value.int (ks.length : Int) t]) (fv := fv) I1p I1.ok.frames (I1.ok.hd hc) hdep S hof hcd (hb _ ctv) (.cons ⟨t, rfl⟩ .nil) rfl hlN
      (fun j y v h1 h2 h3 => hfv _ _ _ I1p j y v h1 h2 h3) hps (hbody s2 H1) (hte ks.length H1 hlt sub)
    refine wpAny_mono run (fun k s3 z => ?_) fun _ _ z => z
    obtain ⟨v2, H2, I2, rv, t2, rfl, ht, rfl⟩ := z
    cases rv
    have pK := I2.pin (kS, seqObj "list" ks.toArray e) (List.mem_append_right _ (List.mem_append_right _ (by simp)))
    have pD := I2.pin (D, seqObj "list" #[] e1) (List.mem_append_right _ (List.mem_append_right _ (by simp)))
    refine ⟨pK.1, pD.1, fun h3 sb => ⟨_, I2.unpinned.turned (t' := s3.toks) (fun b o hb e => (sb.2 b hb).trans e) pK.2.1 fK.2.1 fK.2.2.2.1 fK.2.2.2.2.1 fK.2.2.2.2.2, fun b o e => ?_, fD.of pD.2.1, fK.of pK.2.1, ?_⟩⟩
    · rw [upd_ne (ne_of_none (sub b o e) ht)]; exact sub b o e
    · rw [List.length_append, List.length_singleton, List.range_succ, List.map_append]
      refine paired_snoc (paired_imp (fun a b z => ?_) pk) ⟨t2, rfl, upd_same⟩
      obtain ⟨t3, e3, h3⟩ := z
      exact ⟨t3, e3, by rw [upd_ne (ne_of_none h3 ht)]; exact h3⟩
  · rintro ks e s2 hkl ⟨H1, I1, sub, fD, fK, pk⟩ o1 o2
    have hkn : ks.length = n := hkl.trans hl
    rw [hkn] at pk
    refine ⟨(List.range n).map kz, paired_imp (fun a b z => PairAt.two I1 z) pk, fun ps h2 c hp hsr oD2 keep2 hsz => ⟨rfl, ?_⟩⟩
    have hm : ∀ p ∈ ps, p.1 = kz (idxOf p.2) ∧ ∃ t, p.2 = .int (idxOf p.2 : Nat) t := fun p hpm => zip_mem kz hi (hp.mem_iff.mp hpm)
    have hperm : (ps.map fun p => idxOf p.2).Perm (List.range n) := by
      have := hp.map fun p => idxOf p.2
      rw [zip_idx kz hi] at this; exact this
    have hlen : ((ps.map fun p => idxOf p.2).map fun (i : Nat) => V.int (i : Int)).length ≤ sizeLine := by
      rw [List.length_map, hperm.length_eq, List.length_range, sizeLine_eq]; omega
    refine ⟨.ref D, upd H1 D (.lst ((ps.map fun p => idxOf p.2).map fun (i : Nat) => V.int (i : Int))), I1.adopt (tk := s2.toks) fD fK (fun b o hb hk e => keep2 b o hb hk e) ⟨hlen, ps.map (·.2), c, vals_by ps fun p hpm => (hm p hpm).2, oD2⟩, rfl,
      fin (ps.map fun p => idxOf p.2) D _ hperm ?_ fD0.1 upd_same fun b o e => ?_⟩
    · rw [List.pairwise_map]
      exact hsr.imp_of_mem fun {a b} ha hb z => by rw [← (hm a ha).1, ← (hm b hb).1]; exact z
    · rw [upd_ne (ne_of_none (sub b o e) fD.1)]; exact sub b o e
end
end L2
end
section
namespace L2
open PySem PySem.Spec PyProof.Rows KS
open PySem.W (kla_fn kla_obj envX tabObj CodeHd)
section
variable {X : Cx} {P : Addr} {N : List Str} {x : Str} {params : Arguments} {body e : Expr} {scope : Scope} {cl : List (Str × Addr)} {lp p pos kp : Pos} {te : TE} {t : TA}
def Outs (X : Cx) (N : List Str) (scope : Scope) (σ : St) (fv : List V) : Prop := ∀ (j : Nat) (y : Str) (v : V), N[1 + j]? = some y → fv[j]? = some v → scope.names.lookup y = some .free →
  ∃ k : Nat, X.N[k]? = some y ∧ σ[k]? = some (some v) ∧ (X.env.scope.names.lookup y = some .cell ∨ X.env.scope.names.lookup y = some .free)
def tSortL (X : Cx) (P : Addr) (lp : Pos) (N : List Str) (scope : Scope) (te : TE) (t : TA) : TE := fun σ H Q => t σ H fun vs H1 => ∃ (r : Addr) (n : Nat) (fv : List V) (kz : Nat → Int × Int), vs = [.ref r] ∧ H1 r = some (.rng 0 (n : Int)) ∧ n ≤ 1000 ∧ TabSt H1 P lp (X.env.qual ++ "<lambda>") ∧
  1 + fv.length = N.length ∧ Outs X N scope σ fv ∧
  (∀ (i : Nat) (H2 : Hp), i < n → (∀ b o, b ≠ P → H1 b = some o → H2 b = some o) → te (some (V.int (i : Int)) :: fv.map some) H2 fun v H3 => ∃ t, v = .ref t ∧ H2 t = none ∧ H3 = upd H2 t (.tup [.int (kz i).1, .int (kz i).2])) ∧
  ∀ (ms : List Nat) (D : Addr) (H2 : Hp), ms.Perm (List.range n) → (ms.Pairwise fun i j => twoLe (kz i) (kz j)) → H1 D = none → H2 D = some (.lst (ms.map fun (i : Nat) => V.int (i : Int))) → (∀ b o, b ≠ P → H1 b = some o → H2 b = some o) →
    TabSt H2 P lp (X.env.qual ++ "<lambda>") → Q (.ref D) H2
theorem pe_sortL (hc : X.calm = true) (hdep : X.A.depth < recursionLimit) (L : LamAt X P) (hg : Gl X "sorted") (hm : X.mg "sorted" = none) (S : LamScope X N [x] scope cl) (hcl : closureFor scope X.env = pure cl) (hdef : defaultsOf params X.env = ([], []))
    (hb : ∀ (c1 : Addr) (u ctv : Value), bindArgs (kla_fn "<lambda>" (X.env.qual ++ "<lambda>") params body scope cl ((X.mg "__name__").getD .none) (.ref c1) ctv) ⟨[u], []⟩ = pure [(x, u)])
    (hps : ∀ (j : Nat) (y : Str), N[1 + j]? = some y → scope.names.lookup y ≠ some .local)
    (hbody : ∀ (f c1 : Addr) (s1 : Shared) (H1 : Hp), PE (lamCx X X.A.in1.in1 N (X.env.qual ++ "<lambda>") scope cl f c1 s1 H1) body te) (ha : PA X [e] t) (hs : starEach [e] X.env = [(false, eval e X.env)] := by rfl) :
    PE X (.Call (.Name "sorted" p) [e] [⟨some "key", .Lambda params body scope lp, kp⟩] pos) (tSortL X P lp N scope te t) := by
  intro pins s0 σ H Q I h
  refine wpAny_Call_Name_kw (ld_blt I hg hm PyProof.Rows.boot_sorted ?_)
  refine PyProof.Rows.callWith_kw ?_ (by rw [hs]; rfl) (by rw [hs]; rfl) rfl rfl
  refine thn (ha pos pins s0 σ H _ I h) fun us s1 z => ?_
  obtain ⟨vs, H1, I1, rv, r, n, fv, kz, rfl, hr, hn, hT, hlN, ho, hte, fin⟩ := z
  refine kws_cons (lam_make I1 L hT hcl hdef fun f c1 H2 s2 M I2 => kws_nil ?_)
  rw [Vals.ref1 rv]
  have rP : ∀ b o, H1 b = some o → (∀ ps, o ≠ .tbl ps) → b ≠ P := fun b o q d z => by
    subst z
    rcases hT with z | ⟨_, z, _⟩
    · rw [q] at z; exact d _ (Option.some.inj z)
    · rw [q] at z; exact d _ (Option.some.inj z)
  refine sort_lam I2 hc hdep (M.keep r _ (rP r _ hr fun ps z => by cases z) hr) hn M.fn M.code S (hb c1) hlN (fun pins1 H3 s3 I3 j y v h1 h2 h3 => ?_) hps (fun s3 H3 => hbody f c1 s3 H3) kz (fun i H3 hi sub => ?_) fun ms D H3 q1 q2 q3 q4 q5 => ?_
  · obtain ⟨k, e1, e2, e3⟩ := ho j y v h1 h2 h3
    exact I3.cellVal e1 e2 e3
  · exact hte i H3 hi fun b o hb q => sub b o (M.keep b o hb q)
  · refine fin ms D H3 q1 q2 ?_ q4 (fun b o hb q => q5 b o (M.keep b o hb q)) (.inr ⟨c1, q5 _ _ M.tab, q5 _ _ M.code⟩)
    cases q : H1 D with
    | none => rfl
    | some o =>
      by_cases hD : D = P
      · rw [hD, M.tab] at q3; cases q3
      · rw [M.keep D o hD q] at q3; cases q3
end
end L2
end
section
namespace Cv
open PySem PySem.Spec PyProof.Rows L2
def top (i : Nat) : Stmt := PySem.Challenge.pw_culverts_s01_answers.main.body.getD i (.Pass ⟨0, 0, 0, 0⟩)
abbrev sStInit : Stmt := inClass (top 36) 0
abbrev sCovers : Stmt := inClass (top 36) 1
abbrev sGInit : Stmt := inClass (top 37) 0
abbrev sBegun : Stmt := inClass (top 37) 2
abbrev sHasStation : Stmt := inClass (top 37) 3
abbrev sHasStretch : Stmt := inClass (top 37) 4
abbrev sIsSite : Stmt := inClass (top 37) 5
def sf (x y q : Int) : List (Str × V) := putF "flow" (.int q) (putF "last" (.int y) (putF "first" (.int x) []))
theorem ne_fl : ¬ ("first" : Str) = "flow" := by decide +kernel
theorem ne_ff : ¬ ("first" : Str) = "last" := by decide +kernel
theorem ne_lf : ¬ ("last" : Str) = "flow" := by decide +kernel
theorem sf_first (x y q : Int) : (sf x y q).lookup ("first" : Str) = some (.int x) := by
  unfold sf; rw [lookup_putF, if_neg ne_fl, lookup_putF, if_neg ne_ff, lookup_putF, if_pos rfl]
theorem sf_last (x y q : Int) : (sf x y q).lookup ("last" : Str) = some (.int y) := by
  unfold sf; rw [lookup_putF, if_neg ne_lf, lookup_putF, if_pos rfl]
theorem sf_flow (x y q : Int) : (sf x y q).lookup ("flow" : Str) = some (.int q) := by
  unfold sf; rw [lookup_putF, if_pos rfl]
theorem sf_no (x y q : Int) {m : Str} (h1 : ¬ m = "flow") (h2 : ¬ m = "last") (h3 : ¬ m = "first") : (sf x y q).lookup m = none := by
  unfold sf; rw [lookup_putF, if_neg h1, lookup_putF, if_neg h2, lookup_putF, if_neg h3]; rfl
def StAt (C : Addr) (H : Hp) (p : Addr) (l : Kv365.Low) : Prop := ∃ dx, H p = some (.ins C dx (sf l.from_ l.to_ l.water))
theorem StAt.same {C : Addr} {H H' : Hp} {p : Addr} {l : Kv365.Low} (h : StAt C H p l) (s : Same H H') : StAt C H' p l := let ⟨dx, e⟩ := h; ⟨dx, s _ _ e⟩
def gf (r p t : Addr) : List (Str × V) := putF "stretches" (.ref t) (putF "prices" (.ref p) (putF "rocky" (.ref r) []))
theorem ne_rs : ¬ ("rocky" : Str) = "stretches" := by decide +kernel
theorem ne_rp : ¬ ("rocky" : Str) = "prices" := by decide +kernel
theorem ne_ps : ¬ ("prices" : Str) = "stretches" := by decide +kernel
theorem gf_rocky (r p t : Addr) : (gf r p t).lookup ("rocky" : Str) = some (.ref r) := by
  unfold gf; rw [lookup_putF, if_neg ne_rs, lookup_putF, if_neg ne_rp, lookup_putF, if_pos rfl]
theorem gf_prices (r p t : Addr) : (gf r p t).lookup ("prices" : Str) = some (.ref p) := by
  unfold gf; rw [lookup_putF, if_neg ne_ps, lookup_putF, if_pos rfl]
theorem gf_stretches (r p t : Addr) : (gf r p t).lookup ("stretches" : Str) = some (.ref t) := by
  unfold gf; rw [lookup_putF, if_pos rfl]
theorem gf_no (r p t : Addr) {m : Str} (h1 : ¬ m = "stretches") (h2 : ¬ m = "prices") (h3 : ¬ m = "rocky") : (gf r p t).lookup m = none := by
  unfold gf; rw [lookup_putF, if_neg h1, lookup_putF, if_neg h2, lookup_putF, if_neg h3]; rfl
def rockyOf : Kv365.State → List Bool
  | none => []
  | some a => (List.range a.n).map fun s => a.rocks.contains s
def priceOf : Kv365.State → List Nat
  | none => []
  | some a => a.price
def lowsOf : Kv365.State → List Kv365.Low
  | none => []
  | some a => a.lows
abbrev natV (l : List Nat) : List V := l.map fun (i : Nat) => V.int (i : Int)
structure GAt (Cg Cs : Addr) (H : Hp) (g : Addr) (st : Kv365.State) (r p t : Addr) (ss : List Addr) : Prop where
  ins : ∃ dx, H g = some (.ins Cg dx (gf r p t))
  rk : H r = some (.lst ((rockyOf st).map V.bl))
  pr : H p = some (.lst (natV (priceOf st)))
  lo : H t = some (.lst (ss.map V.ref))
  st : Paired (StAt Cs H) ss (lowsOf st)
  nd : ss.Nodup
  rp : r ≠ p
theorem paired_same {C : Addr} {H H' : Hp} (s : Same H H') {ss : List Addr} {ls : List Kv365.Low} (h : Paired (StAt C H) ss ls) : Paired (StAt C H') ss ls := paired_imp (fun _ _ z => z.same s) h
theorem GAt.same {Cg Cs : Addr} {H H' : Hp} {g : Addr} {st : Kv365.State} {r p t : Addr} {ss : List Addr} (h : GAt Cg Cs H g st r p t ss) (s : Same H H') : GAt Cg Cs H' g st r p t ss :=
  let ⟨dx, e⟩ := h.ins
  ⟨⟨dx, s _ _ e⟩, s _ _ h.rk, s _ _ h.pr, s _ _ h.lo, paired_same s h.st, h.nd, h.rp⟩
def Gnd (Cg Cs : Addr) (H : Hp) (g : Addr) (st : Kv365.State) : Prop := ∃ r p t ss, GAt Cg Cs H g st r p t ss
theorem Gnd.same {Cg Cs : Addr} {H H' : Hp} {g : Addr} {st : Kv365.State} (h : Gnd Cg Cs H g st) (s : Same H H') : Gnd Cg Cs H' g st := let ⟨r, p, t, ss, q⟩ := h; ⟨r, p, t, ss, q.same s⟩
structure TxtS (K : PySem.W.Frag) (mg : Str → Option Value) (C : Addr) : Prop where
  cl : Cls K C
  n1 : NoAttr K C "first"
  n2 : NoAttr K C "last"
  n3 : NoAttr K C "flow"
  mgC : mg "Stretch" = some (.ref C)
structure TxtG (K : PySem.W.Frag) (mg : Str → Option Value) (C : Addr) : Prop where
  cl : Cls K C
  n1 : NoAttr K C "rocky"
  n2 : NoAttr K C "prices"
  n3 : NoAttr K C "stretches"
  mgC : mg "Ground" = some (.ref C)
def spStInit (C : Addr) : Sp := fun vs H Q _ => ∃ (p dx : Addr) (x y q : Int), vs = [.ref p, .int x, .int y, .int q] ∧ H p = some (.ins C dx []) ∧ Q .non (upd H p (.ins C dx (sf x y q)))
def spCovers (C : Addr) : Sp := fun vs H Q _ => ∃ (p : Addr) (l : Kv365.Low) (s : Nat), vs = [.ref p, .int (s : Int)] ∧ StAt C H p l ∧ Q (.bl (l.has s)) H
section
variable {P : Program} {w : World} {K : PySem.W.Frag} {mg : Str → Option Value} {base : Heap}
theorem scStInit : FnScope ["self", "first", "last", "flow"] ["self", "first", "last", "flow"] (defScope sStInit) := ⟨rfl, rfl, rfl, by decide +kernel, rfl, by decide +kernel, by decide +kernel⟩
theorem ok_StInit {f C : Addr} {fd : FuncData} (F : Fun K "__init__" "Stretch.__init__" sStInit f fd) (T : TxtS K mg C) : FnOk P w K mg base CX0 1 f fd ["self", "first", "last", "flow"] (spStInit C) := by
  refine F.ok scStInit (fun vs H Q E h => ?_) (fun cdv A outer s H vs Q E hr h => ?_)
  · obtain ⟨p, dx, x, y, q, rfl, _⟩ := h
    rfl
  · obtain ⟨p, dx, x, y, q, rfl, hp, k⟩ := h
    refine ⟨_, pss_cons (ps_fld (pv 0) (pv 1) rfl) (pss_cons (ps_fld (pv 0) (pv 2) rfl) (pss_one (ps_fld (pv 0) (pv 3) rfl))), ?_⟩
    refine ⟨_, rfl, _, rfl, p, C, dx, [], rfl, hp, T.cl, T.n1, (by show 0 < 1000; decide), ?_⟩
    refine ⟨_, rfl, _, rfl, p, C, dx, _, rfl, upd_same, T.cl, T.n2, (by show 1 < 1000; decide), ?_⟩
    refine ⟨_, rfl, _, rfl, p, C, dx, _, rfl, upd_same, T.cl, T.n3, ?_, ?_⟩
    · exact Nat.lt_of_le_of_lt (length_putF _ _ _) (by show 1 + 1 < 1000; decide)
    · show Q .non _
      rw [upd_upd, upd_upd]
      exact k
theorem scCovers : FnScope ["self", "station"] ["self", "station"] (defScope sCovers) := ⟨rfl, rfl, rfl, by decide +kernel, rfl, by decide +kernel, by decide +kernel⟩
theorem ok_covers {f C : Addr} {fd : FuncData} (F : Fun K "covers" "Stretch.covers" sCovers f fd) (T : TxtS K mg C) : FnOk P w K mg base CX0 1 f fd ["self", "station"] (spCovers C) := by
  refine F.ok scCovers (fun vs H Q E h => ?_) (fun cdv A outer s H vs Q E hr h => ?_)
  · obtain ⟨p, l, n, rfl, _⟩ := h
    rfl
  · obtain ⟨p, l, n, rfl, ⟨dx, hp⟩, k⟩ := h
    refine ⟨_, pss_one (ps_ret (pe_chain op_le op_le (pe_fld (pv 0) rfl) (pv 1) (pe_fld (pv 0) rfl))), ?_⟩
    refine ⟨_, rfl, p, C, dx, _, _, rfl, hp, T.cl, T.n1, sf_first _ _ _, _, rfl, _, _, rfl, rfl, _, rfl, ?_⟩
    by_cases h1 : (l.from_ : Int) ≤ (n : Int)
    · rw [if_pos (decide_eq_true h1)]
      refine ⟨_, rfl, p, C, dx, _, _, rfl, hp, T.cl, T.n2, sf_last _ _ _, _, _, rfl, rfl, ?_⟩
      have e : decide ((n : Int) ≤ (l.to_ : Int)) = l.has n := by
        unfold Kv365.Low.has
        rw [decide_eq_true (show l.from_ ≤ n by omega), Bool.true_and]
        congr 1; apply propext; omega
      show Q (.bl (decide ((n : Int) ≤ (l.to_ : Int)))) H
      rw [e]; exact k
    · rw [if_neg (by rw [decide_eq_false h1]; exact Bool.false_ne_true)]
      have e : false = l.has n := by
        unfold Kv365.Low.has
        rw [decide_eq_false (show ¬ l.from_ ≤ n by omega), Bool.false_and]
      show Q (.bl false) H
      rw [e]; exact k
end
end Cv
end
section
namespace Cv
open PySem PySem.Spec PyProof.Rows L2
structure TxtB (mg : Str → Option Value) : Prop where
  len : mg "len" = none
  range : mg "range" = none
  all : mg "all" = none
  any : mg "any" = none
  min : mg "min" = none
  sum : mg "sum" = none
  list : mg "list" = none
  sorted : mg "sorted" = none
  reversed : mg "reversed" = none
  enumerate : mg "enumerate" = none
def stN : Kv365.State → Nat
  | none => 0
  | some a => a.n
theorem rockyOf_len (st : Kv365.State) : (rockyOf st).length = stN st := by
  cases st with
  | none => rfl
  | some a => show ((List.range a.n).map _).length = a.n; rw [List.length_map, List.length_range]
theorem rockyOf_at {st : Kv365.State} {s : Nat} (h : s < stN st) : ∃ a, st = some a ∧ (rockyOf st)[s]? = some (a.rocks.contains s) := by
  cases st with
  | none => exact absurd h (Nat.not_lt_zero _)
  | some a =>
    refine ⟨a, rfl, ?_⟩
    show ((List.range a.n).map fun s => a.rocks.contains s)[s]? = _
    rw [List.getElem?_map, List.getElem?_range (show s < a.n from h)]; rfl
def siteOf : Kv365.State → Nat → Bool
  | none, _ => false
  | some a, s => decide (s < a.n) && !a.rocks.contains s
def spGInit (Cg Cs : Addr) : Sp := fun vs H Q _ => ∃ (g dx : Addr), vs = [.ref g] ∧ H g = some (.ins Cg dx []) ∧ ∀ (H' : Hp) (r p t : Addr), GAt Cg Cs H' g none r p t [] → H r = none → H p = none → H t = none → (∀ b o, H b = some o → b ≠ g → H' b = some o) → Q .non H'
def spBegun (Cg Cs : Addr) : Sp := fun vs H Q _ => ∃ (g : Addr) (st : Kv365.State), vs = [.ref g] ∧ Gnd Cg Cs H g st ∧ Q (.bl (decide (0 < stN st))) H
def spHasStation (Cg Cs : Addr) : Sp := fun vs H Q _ => ∃ (g : Addr) (st : Kv365.State) (z : Nat), vs = [.ref g, .int (z : Int)] ∧ Gnd Cg Cs H g st ∧ Q (.bl (decide (z < stN st))) H
def spHasStretch (Cg Cs : Addr) : Sp := fun vs H Q _ => ∃ (g : Addr) (st : Kv365.State) (z : Nat), vs = [.ref g, .int (z : Int)] ∧ Gnd Cg Cs H g st ∧ Q (.bl (decide (z < (lowsOf st).length))) H
def spIsSite (Cg Cs : Addr) : Sp := fun vs H Q _ => ∃ (g : Addr) (st : Kv365.State) (z : Nat), vs = [.ref g, .int (z : Int)] ∧ Gnd Cg Cs H g st ∧ Q (.bl (siteOf st z)) H
abbrev sRockCount : Stmt := inClass (top 37) 6
def spRockCount (Cg Cs : Addr) : Sp := fun vs H Q _ => ∃ (g : Addr) (st : Kv365.State), vs = [.ref g] ∧ Gnd Cg Cs H g st ∧ Q (.int ((rockyOf st).count true : Nat)) H
section
variable {P : Program} {w : World} {K : PySem.W.Frag} {mg : Str → Option Value} {base : Heap}
theorem scGInit : FnScope ["self"] ["self"] (defScope sGInit) := ⟨rfl, rfl, rfl, by decide +kernel, rfl, by decide +kernel, by decide +kernel⟩
theorem ok_GInit {f Cg Cs : Addr} {fd : FuncData} (F : Fun K "__init__" "Ground.__init__" sGInit f fd) (T : TxtG K mg Cg) : FnOk P w K mg base CX0 1 f fd ["self"] (spGInit Cg Cs) := by
  refine F.ok scGInit (fun vs H Q E h => ?_) (fun cdv A outer s H vs Q E hr h => ?_)
  · obtain ⟨g, dx, rfl, _⟩ := h
    rfl
  · obtain ⟨g, dx, rfl, hg, k⟩ := h
    refine ⟨_, pss_cons (ps_fld (pv 0) (pe_lst pa_nil) rfl) (pss_cons (ps_fld (pv 0) (pe_lst pa_nil) rfl) (pss_one (ps_fld (pv 0) (pe_lst pa_nil) rfl))), ?_⟩
    refine ⟨Nat.zero_le _, fun r hr0 => ?_⟩
    have g1 := ne_of_none hg hr0
    refine ⟨_, rfl, g, Cg, dx, [], rfl, by rw [upd_ne g1]; exact hg, T.cl, T.n1, (by show 0 < 1000; decide), ?_⟩
    refine ⟨Nat.zero_le _, fun p hp0 => ?_⟩
    have pg : p ≠ g := fun z => by rw [z, upd_same] at hp0; cases hp0
    have hp1 : upd H r (.lst []) p = none := by rw [upd_ne pg] at hp0; exact hp0
    have pr : p ≠ r := fun z => by rw [z, upd_same] at hp1; cases hp1
    have hp2 : H p = none := by rw [upd_ne pr] at hp1; exact hp1
    refine ⟨_, rfl, g, Cg, dx, _, rfl, by rw [upd_ne (Ne.symm pg), upd_same], T.cl, T.n2, (by show 1 < 1000; decide), ?_⟩
    refine ⟨Nat.zero_le _, fun t ht0 => ?_⟩
    have tg : t ≠ g := fun z => by rw [z, upd_same] at ht0; cases ht0
    rw [upd_ne tg] at ht0
    have tp : t ≠ p := fun z => by rw [z, upd_same] at ht0; cases ht0
    rw [upd_ne tp, upd_ne tg] at ht0
    have tr : t ≠ r := fun z => by rw [z, upd_same] at ht0; cases ht0
    rw [upd_ne tr] at ht0
    refine ⟨_, rfl, g, Cg, dx, _, rfl, by rw [upd_ne (Ne.symm tg), upd_same], T.cl, T.n3, Nat.lt_of_le_of_lt (length_putF _ _ _) (by show 1 + 1 < 1000; decide), ?_⟩
    refine k _ r p t ⟨⟨dx, upd_same⟩, ?_, ?_, ?_, .nil, List.nodup_nil, Ne.symm pr⟩ hr0 hp2 ht0 fun b o e hb => ?_
    · rw [upd_ne (Ne.symm g1), upd_ne (Ne.symm tr), upd_ne (Ne.symm g1), upd_ne (Ne.symm pr), upd_ne (Ne.symm g1), upd_same]; rfl
    · rw [upd_ne pg, upd_ne (Ne.symm tp), upd_ne pg, upd_same]; rfl
    · rw [upd_ne tg, upd_same]; rfl
    · rw [upd_ne hb, upd_ne (ne_of_none e ht0), upd_ne hb, upd_ne (ne_of_none e hp2), upd_ne hb, upd_ne (ne_of_none e hr0)]; exact e
theorem scBegun : FnScope ["self"] ["self"] (defScope sBegun) := ⟨rfl, rfl, rfl, by decide +kernel, rfl, by decide +kernel, by decide +kernel⟩
theorem ok_begun {f Cg Cs : Addr} {fd : FuncData} (F : Fun K "is_begun" "Ground.is_begun" sBegun f fd) (T : TxtG K mg Cg) (B : TxtB mg) : FnOk P w K mg base CX0 1 f fd ["self"] (spBegun Cg Cs) := by
  refine F.ok scBegun (fun vs H Q E h => ?_) (fun cdv A outer s H vs Q E hr h => ?_)
  · obtain ⟨g, st, rfl, _⟩ := h
    rfl
  · obtain ⟨g, st, rfl, ⟨r, p, t, ss, G⟩, k⟩ := h
    obtain ⟨dx, hg⟩ := G.ins
    refine ⟨_, pss_one (ps_ret (pe_cmpR op_gt (pe_callB call_len_seq (by rfl) B.len PySem.boot_len (pa_cons (pe_fld (pv 0) rfl) pa_nil)) pe_int (nomark _))), ?_⟩
    refine ⟨_, rfl, g, Cg, dx, _, _, rfl, hg, T.cl, T.n1, gf_rocky _ _ _, r, _, rfl, .inl (SqL.of G.rk), _, _, rfl, rfl, ?_⟩
    have e : decide ((0 : Int) < (((rockyOf st).map V.bl).length : Int)) = decide (0 < stN st) := by
      rw [List.length_map, rockyOf_len]; congr 1; apply propext; omega
    show Q (.bl (decide ((0 : Int) < (((rockyOf st).map V.bl).length : Int)))) H
    rw [e]; exact k
theorem scHasStation : FnScope ["self", "station"] ["self", "station"] (defScope sHasStation) := ⟨rfl, rfl, rfl, by decide +kernel, rfl, by decide +kernel, by decide +kernel⟩
theorem ok_hasStation {f Cg Cs : Addr} {fd : FuncData} (F : Fun K "has_station" "Ground.has_station" sHasStation f fd) (T : TxtG K mg Cg) (B : TxtB mg) : FnOk P w K mg base CX0 1 f fd ["self", "station"] (spHasStation Cg Cs) := by
  refine F.ok scHasStation (fun vs H Q E h => ?_) (fun cdv A outer s H vs Q E hr h => ?_)
  · obtain ⟨g, st, z, rfl, _⟩ := h
    rfl
  · obtain ⟨g, st, z, rfl, ⟨r, p, t, ss, G⟩, k⟩ := h
    obtain ⟨dx, hg⟩ := G.ins
    refine ⟨_, pss_one (ps_ret (pe_cmpR op_lt (pv 1) (pe_callB call_len_seq (by rfl) B.len PySem.boot_len (pa_cons (pe_fld (pv 0) rfl) pa_nil)) (nomark _))), ?_⟩
    refine ⟨_, rfl, _, rfl, g, Cg, dx, _, _, rfl, hg, T.cl, T.n1, gf_rocky _ _ _, r, _, rfl, .inl (SqL.of G.rk), _, _, rfl, rfl, ?_⟩
    have e : decide ((z : Int) < (((rockyOf st).map V.bl).length : Int)) = decide (z < stN st) := by
      rw [List.length_map, rockyOf_len]; congr 1; apply propext; omega
    show Q (.bl (decide ((z : Int) < (((rockyOf st).map V.bl).length : Int)))) H
    rw [e]; exact k
theorem scHasStretch : FnScope ["self", "number"] ["self", "number"] (defScope sHasStretch) := ⟨rfl, rfl, rfl, by decide +kernel, rfl, by decide +kernel, by decide +kernel⟩
theorem paired_len {α β : Type} {F : α → β → Prop} : ∀ {l : List α} {m : List β}, Paired F l m → l.length = m.length
  | _, _, .nil => rfl
  | _, _, .cons _ t => by rw [List.length_cons, List.length_cons, paired_len t]
theorem ok_hasStretch {f Cg Cs : Addr} {fd : FuncData} (F : Fun K "has_stretch" "Ground.has_stretch" sHasStretch f fd) (T : TxtG K mg Cg) (B : TxtB mg) : FnOk P w K mg base CX0 1 f fd ["self", "number"] (spHasStretch Cg Cs) := by
  refine F.ok scHasStretch (fun vs H Q E h => ?_) (fun cdv A outer s H vs Q E hr h => ?_)
  · obtain ⟨g, st, z, rfl, _⟩ := h
    rfl
  · obtain ⟨g, st, z, rfl, ⟨r, p, t, ss, G⟩, k⟩ := h
    obtain ⟨dx, hg⟩ := G.ins
    refine ⟨_, pss_one (ps_ret (pe_cmpR op_lt (pv 1) (pe_callB call_len_seq (by rfl) B.len PySem.boot_len (pa_cons (pe_fld (pv 0) rfl) pa_nil)) (nomark _))), ?_⟩
    refine ⟨_, rfl, _, rfl, g, Cg, dx, _, _, rfl, hg, T.cl, T.n3, gf_stretches _ _ _, t, _, rfl, .inl (SqL.of G.lo), _, _, rfl, rfl, ?_⟩
    have e : decide ((z : Int) < ((ss.map V.ref).length : Int)) = decide (z < (lowsOf st).length) := by
      rw [List.length_map, paired_len G.st]; congr 1; apply propext; omega
    show Q (.bl (decide ((z : Int) < ((ss.map V.ref).length : Int)))) H
    rw [e]; exact k
theorem scIsSite : FnScope ["self", "station"] ["self", "station"] (defScope sIsSite) := ⟨rfl, rfl, rfl, by decide +kernel, rfl, by decide +kernel, by decide +kernel⟩
theorem ok_isSite {f Cg Cs fH : Addr} {fd fdH : FuncData} (F : Fun K "is_site" "Ground.is_site" sIsSite f fd) (T : TxtG K mg Cg) (G1 : FnOk P w K mg base CX0 1 fH fdH ["self", "station"] (spHasStation Cg Cs)) (bH : Binds K fdH ["self", "station"] []) (mH : Meth K Cg "has_station" fH) :
    FnOk P w K mg base CX0 2 f fd ["self", "station"] (spIsSite Cg Cs) := by
  refine F.ok scIsSite (fun vs H Q E h => ?_) (fun cdv A outer s H vs Q E hr h => ?_)
  · obtain ⟨g, st, z, rfl, _⟩ := h
    rfl
  · obtain ⟨g, st, z, rfl, hG, k⟩ := h
    obtain ⟨r, p, t, ss, G⟩ := id hG
    obtain ⟨dx, hg⟩ := G.ins
    refine ⟨_, pss_one (ps_ret (pe_and (pe_meth (pv 0) T.cl mH G1 hr bH .nil pass0 (pa_cons (pv 1) pa_nil)) (pe_one (pe_not (pe_ix ix_list (pe_fld (pv 0) rfl) (pv 1) (fun _ _ => rfl)))))), ?_⟩
    refine ⟨_, rfl, g, dx, _, rfl, hg, gf_no _ _ _ (by decide +kernel) (by decide +kernel) (by decide +kernel), _, rfl, g, st, z, rfl, hG, _, rfl, ?_⟩
    by_cases hz : z < stN st
    · rw [if_pos (decide_eq_true hz)]
      obtain ⟨a, rfl, hb⟩ := rockyOf_at hz
      refine ⟨_, rfl, g, Cg, dx, _, _, rfl, hg, T.cl, T.n1, gf_rocky _ _ _, _, rfl, r, _, _, _, rfl, rfl, SqL.of G.rk, at_of (j := z) (v := V.bl (a.rocks.contains z)) rfl (by rw [List.getElem?_map, hb]; rfl), _, rfl, ?_⟩
      have e : siteOf (some a) z = !a.rocks.contains z := by
        show (decide (z < a.n) && !a.rocks.contains z) = _
        rw [decide_eq_true (show z < a.n from hz), Bool.true_and]
      rw [e] at k; exact k
    · rw [if_neg (by rw [decide_eq_false hz]; exact Bool.false_ne_true)]
      have e : siteOf st z = false := by
        cases st with
        | none => rfl
        | some a =>
          show (decide (z < a.n) && !a.rocks.contains z) = _
          rw [decide_eq_false (show ¬ z < a.n from hz), Bool.false_and]
      rw [e] at k; exact k
theorem scRockCount : FnScope ["self"] ["self"] (defScope sRockCount) := ⟨rfl, rfl, rfl, by decide +kernel, rfl, by decide +kernel, by decide +kernel⟩
theorem ok_rockCount {f Cg Cs : Addr} {fd : FuncData} (F : Fun K "rock_count" "Ground.rock_count" sRockCount f fd) (T : TxtG K mg Cg) : FnOk P w K mg base CX0 1 f fd ["self"] (spRockCount Cg Cs) := by
  refine F.ok scRockCount (fun vs H Q E h => ?_) (fun cdv A outer s H vs Q E hr h => ?_)
  · obtain ⟨g, st, rfl, _⟩ := h
    rfl
  · obtain ⟨g, st, rfl, ⟨r, p, t, ss, G⟩, k⟩ := h
    obtain ⟨dx, hg⟩ := G.ins
    refine ⟨_, pss_one (ps_ret (pe_bm PySem.F.plainAttrs_list PySem.F.slot_list_count PySem.F.type_list_count mt_countB (pe_fld (pv 0) rfl) (pa_cons pe_bl pa_nil))), ?_⟩
    exact ⟨_, rfl, g, Cg, dx, _, _, rfl, hg, T.cl, T.n1, gf_rocky _ _ _, .inl ⟨rfl, _, SqL.of G.rk⟩, r, _, true, rfl, rfl, G.rk, k⟩
end
end Cv
end
section
namespace Cv
open PySem PySem.Spec PyProof.Rows L2
abbrev sSites : Stmt := inClass (top 37) 7
abbrev sSitesOf : Stmt := inClass (top 37) 8
def freeOf : Kv365.State → List Nat
  | none => []
  | some a => a.free
theorem freeOf_eq (st : Kv365.State) : (List.range (stN st)).filter (siteOf st) = freeOf st := by
  cases st with
  | none => rfl
  | some a =>
    show (List.range a.n).filter (siteOf (some a)) = (List.range a.n).filter _
    refine List.filter_congr fun s hs => ?_
    show (decide (s < a.n) && !a.rocks.contains s) = !a.rocks.contains s
    rw [decide_eq_true (List.mem_range.mp hs), Bool.true_and]
def NewList (H : Hp) (Q : VK) (xs : List V) : Prop := ∀ (H' : Hp) (D : Addr), H D = none → H' D = some (.lst xs) → Same H H' → Q (.ref D) H'
def spSites (Cg Cs : Addr) : Sp := fun vs H Q _ => ∃ (g : Addr) (st : Kv365.State), vs = [.ref g] ∧ Gnd Cg Cs H g st ∧ stN st ≤ 12 ∧ NewList H Q (natV (freeOf st))
theorem same_new {H : Hp} {D : Addr} {o : HO} (h : H D = none) : Same H (upd H D o) := fun b u e => by rw [upd_ne (ne_of_none e h)]; exact e
theorem small12 {n : Nat} (h : n ≤ 12) : n < sizeLine := by rw [sizeLine_eq]; omega
section
variable {P : Program} {w : World} {K : PySem.W.Frag} {mg : Str → Option Value} {base : Heap}
theorem scSites : FnScope ["self", "station"] ["self"] (defScope sSites) := ⟨rfl, rfl, rfl, by decide +kernel, rfl, by decide +kernel, by decide +kernel⟩
theorem filter_snoc (f : Nat → Bool) (i : Nat) : ((List.range (i + 1)).filter f) = if f i then (List.range i).filter f ++ [i] else (List.range i).filter f := by
  rw [List.range_succ, List.filter_append, List.filter_cons, List.filter_nil]
  split <;> simp
theorem ok_sites {f Cg Cs fS : Addr} {fd fdS : FuncData} (F : Fun K "sites" "Ground.sites" sSites f fd) (T : TxtG K mg Cg) (B : TxtB mg) (G1 : FnOk P w K mg base CX0 2 fS fdS ["self", "station"] (spIsSite Cg Cs)) (bS : Binds K fdS ["self", "station"] []) (mS : Meth K Cg "is_site" fS) :
    FnOk P w K mg base CX0 3 f fd ["self"] (spSites Cg Cs) := by
  refine F.ok scSites (fun vs H Q E h => ?_) (fun cdv A outer s H vs Q E hr h => ?_)
  · obtain ⟨g, st, rfl, _⟩ := h
    rfl
  · obtain ⟨g, st, rfl, hG, h12, k⟩ := h
    obtain ⟨r, p, t, ss, G⟩ := id hG
    obtain ⟨dx, hg⟩ := G.ins
    refine ⟨_, pss_one (ps_ret (pe_lc (own := [("station", 1)]) rfl scSites.nd (pi_range1 rfl B.range (pa_cons (pe_callB call_len_seq (by rfl) B.len PySem.boot_len (pa_cons (pe_fld (pv 0) rfl) pa_nil)) pa_nil)) (blkOk_by (by show blkC ["self", "station"] (defScope sSites) _ _ = true; decide +kernel))
      (fun _ _ _ _ _ => pg_name (i := 1) scSites.nd rfl (Or.inl rfl)) (fun _ _ _ _ _ => pts_one (pt_val (pe_meth (pv 0) T.cl mS G1 hr bS .nil pass0 (pa_cons (pv 1) pa_nil)))) (fun _ _ _ _ _ => pv 1))), ?_⟩
    refine ⟨_, rfl, g, Cg, dx, _, _, rfl, hg, T.cl, T.n1, gf_rocky _ _ _, r, _, rfl, .inl (SqL.of G.rk), (stN st : Int), by rw [List.length_map, rockyOf_len], by omega, by omega, fun D hD => ?_⟩
    rw [Int.toNat_natCast]
    refine lc_range (fun i H' => H' D = some (.lst (natV ((List.range i).filter (siteOf st)))) ∧ Same H H') ⟨upd_same, same_new hD⟩ (fun i H' hi ⟨h1, h2⟩ => ?_) fun H' ⟨h1, h2⟩ => ?_
    · refine ⟨rfl, _, rfl, g, dx, _, rfl, h2 _ _ hg, gf_no _ _ _ (by decide +kernel) (by decide +kernel) (by decide +kernel), _, rfl, g, st, i, ?_, hG.same h2, _, rfl, ?_⟩
      · show [V.ref g, V.int (0 + (i : Int))] = [V.ref g, V.int (i : Int)]
        rw [Int.zero_add]
      · rw [filter_snoc]
        cases e : siteOf st i with
        | true =>
          refine iteT ⟨_, rfl, natV ((List.range i).filter (siteOf st)), h1, ?_, ?_, ?_⟩
          · rw [List.length_map]; exact small12 (Nat.le_trans (List.length_filter_le _ _) (by rw [List.length_range]; omega))
          · rw [upd_same, if_pos rfl]
            unfold natV; rw [List.map_append]
            show some (HO.lst (_ ++ [V.int (0 + (i : Int))])) = some (HO.lst (_ ++ [V.int (i : Int)]))
            rw [Int.zero_add]
          · exact fun b o q => by rw [upd_ne (ne_of_none q hD)]; exact h2 b o q
        | false => exact iteF ⟨by rw [if_neg Bool.false_ne_true]; exact h1, h2⟩
    · rw [freeOf_eq] at h1
      exact k H' D hD h1 h2
end
end Cv
end
section
namespace Cv
open PySem PySem.Spec PyProof.Rows L2
abbrev sRises : Stmt := top 1
abbrev sCulverts : Stmt := top 2
abbrev sHasOne : Stmt := top 3
abbrev sTheyDo : Stmt := top 5
abbrev sSomeDo : Stmt := top 6
def Reads (H : Hp) (Q : VK) (v : V) : Prop := ∀ H' : Hp, Same H H' → Q v H'
theorem lc_add {H H' : Hp} {D : Addr} {acc : List V} (hD : H D = none) (h1 : H' D = some (.lst acc)) (h2 : Same H H') (hl : acc.length < sizeLine) (y : V) : ∃ acc', H' D = some (.lst acc') ∧ acc'.length < sizeLine ∧
    (upd H' D (.lst (acc' ++ [y])) D = some (.lst (acc ++ [y])) ∧ Same H (upd H' D (.lst (acc' ++ [y])))) :=
  ⟨acc, h1, hl, upd_same, fun b o q => by rw [upd_ne (ne_of_none q hD)]; exact h2 b o q⟩
theorem natV_at {m : List Nat} {i : Nat} {x : V} (h : (natV m)[i]? = some x) : ∃ s, m[i]? = some s ∧ x = V.int (s : Int) := by
  unfold natV at h
  rw [List.getElem?_map] at h
  cases e : m[i]? with
  | none => rw [e] at h; cases h
  | some s => rw [e] at h; exact ⟨s, rfl, (Option.some.inj h).symm⟩
theorem take_snoc {α : Type} {l : List α} {i : Nat} {x : α} (h : l[i]? = some x) : l.take (i + 1) = l.take i ++ [x] := by
  rw [List.take_add_one, h]; rfl
theorem natV_len (m : List Nat) : (natV m).length = m.length := List.length_map _
def spSitesOf (Cg Cs : Addr) : Sp := fun vs H Q _ => ∃ (g p : Addr) (st : Kv365.State) (l : Kv365.Low), vs = [.ref g, .ref p] ∧ Gnd Cg Cs H g st ∧ stN st ≤ 12 ∧ StAt Cs H p l ∧ NewList H Q (natV ((freeOf st).filter l.has))
def spRises : PySem.W.Frag → Sp := fun K vs H Q _ => ∃ (a : Addr) (m : List Nat), vs = [.ref a] ∧ SqL K H a (natV m) ∧ m.length ≤ 30000 ∧ Reads H Q (.bl (Kv365.rises m))
def spCulverts (Cg Cs : Addr) : PySem.W.Frag → Sp := fun K vs H Q _ => ∃ (g a : Addr) (st : Kv365.State) (m : List Nat), vs = [.ref g, .ref a] ∧ Gnd Cg Cs H g st ∧ SqL K H a (natV m) ∧ m.length ≤ 30000 ∧ Reads H Q (.bl (Kv365.rises m && m.all (siteOf st)))
def spHasOne (Cs : Addr) : PySem.W.Frag → Sp := fun K vs H Q _ => ∃ (p a : Addr) (l : Kv365.Low) (m : List Nat), vs = [.ref p, .ref a] ∧ StAt Cs H p l ∧ SqL K H a (natV m) ∧ m.length ≤ 30000 ∧ Reads H Q (.bl (m.any l.has))
def spTheyDo (Cg Cs : Addr) : PySem.W.Frag → Sp := fun K vs H Q _ => ∃ (g a : Addr) (st : Kv365.State) (m : List Nat), vs = [.ref g, .ref a] ∧ Gnd Cg Cs H g st ∧ (lowsOf st).length ≤ 8 ∧ SqL K H a (natV m) ∧ m.length ≤ 30000 ∧ Reads H Q (.bl ((lowsOf st).all fun l => m.any l.has))
def spSomeDo (Cg Cs : Addr) : Sp := fun vs H Q _ => ∃ (g : Addr) (st : Kv365.State), vs = [.ref g] ∧ Gnd Cg Cs H g st ∧ (lowsOf st).length ≤ 8 ∧ stN st ≤ 12 ∧ Reads H Q (.bl ((lowsOf st).all fun l => (freeOf st).any l.has))
theorem freeOf_len {st : Kv365.State} : (freeOf st).length ≤ stN st := by
  cases st with
  | none => exact Nat.le_refl _
  | some a =>
    show ((List.range a.n).filter _).length ≤ a.n
    exact Nat.le_trans (List.length_filter_le _ _) (by rw [List.length_range]; exact Nat.le_refl _)
theorem small1000 {n : Nat} (h : n ≤ 30000) : n < sizeLine := by rw [sizeLine_eq]; omega
section
variable {P : Program} {w : World} {K : PySem.W.Frag} {mg : Str → Option Value} {base : Heap}
theorem scSitesOf : FnScope ["self", "stretch", "station"] ["self", "stretch"] (defScope sSitesOf) := ⟨rfl, rfl, rfl, by decide +kernel, rfl, by decide +kernel, by decide +kernel⟩
theorem ok_sitesOf {f Cg Cs fS fC : Addr} {fd fdS fdC : FuncData} (F : Fun K "sites_of" "Ground.sites_of" sSitesOf f fd) (T : TxtG K mg Cg) (TS : TxtS K mg Cs) (G1 : FnOk P w K mg base CX0 3 fS fdS ["self"] (spSites Cg Cs)) (bS : Binds K fdS ["self"] []) (mS : Meth K Cg "sites" fS)
    (G2 : FnOk P w K mg base CX0 1 fC fdC ["self", "station"] (spCovers Cs)) (bC : Binds K fdC ["self", "station"] []) (mC : Meth K Cs "covers" fC) : FnOk P w K mg base CX0 4 f fd ["self", "stretch"] (spSitesOf Cg Cs) := by
  refine F.ok scSitesOf (fun vs H Q E h => ?_) (fun cdv A outer s H vs Q E hr h => ?_)
  · obtain ⟨g, p, st, l, rfl, _⟩ := h
    rfl
  · obtain ⟨g, p, st, l, rfl, hG, h12, hp, k⟩ := h
    obtain ⟨r0, p0, t0, ss, G⟩ := id hG
    obtain ⟨dx, hg⟩ := G.ins
    refine ⟨_, pss_one (ps_ret (pe_lc (own := [("station", 2)]) rfl scSitesOf.nd (pi_list (pe_meth0 (pv 0) T.cl mS G1 hr bS .nil pass0)) (blkOk_by (by show blkC ["self", "stretch", "station"] (defScope sSitesOf) _ _ = true; decide +kernel))
      (fun _ _ _ _ _ => pg_name (i := 2) scSitesOf.nd rfl (Or.inl rfl)) (fun _ _ _ _ _ => pts_one (pt_val (pe_meth (pv 1) TS.cl mC G2 (hr.mono (by decide)) bC .nil pass0 (pa_cons (pv 2) pa_nil)))) (fun _ _ _ _ _ => pv 2))), ?_⟩
    refine ⟨_, rfl, g, dx, _, rfl, hg, gf_no _ _ _ (by decide +kernel) (by decide +kernel) (by decide +kernel), g, st, rfl, hG, h12, fun H1 L hL h1 s1 => ⟨L, rfl, ⟨_, SqL.of h1⟩, fun D hD => ?_⟩⟩
    have sD : Same H1 (upd H1 D (.lst [])) := same_new hD
    have nLD : L ≠ D := ne_of_none h1 hD
    refine lc_list (K := K) (a := L) (xs := natV (freeOf st)) (fun i H' => H' D = some (.lst (natV (((freeOf st).take i).filter l.has))) ∧ Same H1 H') ⟨upd_same, sD⟩ (fun i H' _ ⟨_, q⟩ => SqL.of (q _ _ h1)) (fun i x H' hx ⟨q1, q2⟩ => ?_) fun H' ⟨q1, q2⟩ => ?_
    · obtain ⟨sn, hs, rfl⟩ := natV_at hx
      obtain ⟨dp, hpp⟩ := hp
      refine ⟨rfl, _, rfl, p, dp, _, rfl, q2 _ _ (s1 _ _ hpp), sf_no _ _ _ (by decide +kernel) (by decide +kernel) (by decide +kernel), _, rfl, p, l, sn, rfl, ⟨dp, q2 _ _ (s1 _ _ hpp)⟩, _, rfl, ?_⟩
      have et := take_snoc hs
      have hlen : (natV (((freeOf st).take i).filter l.has)).length < sizeLine := by
        rw [natV_len]
        refine small12 (Nat.le_trans (List.length_filter_le _ _) (Nat.le_trans ?_ h12))
        rw [List.length_take]; exact Nat.le_trans (Nat.min_le_right _ _) freeOf_len
      cases e : l.has sn with
      | true =>
        refine iteT ⟨_, rfl, ?_⟩
        rw [et, List.filter_append, List.filter_cons, if_pos e, List.filter_nil]
        have := lc_add hD q1 q2 hlen (V.int (sn : Int))
        unfold natV at this ⊢; rw [List.map_append]; exact this
      | false =>
        refine iteF ⟨?_, q2⟩
        rw [et, List.filter_append, List.filter_cons, if_neg (by rw [e]; exact Bool.false_ne_true), List.filter_nil, List.append_nil]; exact q1
    · rw [natV_len, List.take_length] at q1
      exact k H' D (s1.free hD) q1 (s1.trans q2)
end
end Cv
end
section
namespace Cv
open PySem PySem.Spec PyProof.Rows L2
theorem yesT {σ : L2.St} {H : Hp} {A B : Hp → Prop} (h : A H) : tYes σ H (fun b H3 => if b = true then A H3 else B H3) := by
  show (if true = true then A H else B H)
  rw [if_pos rfl]; exact h
theorem rises_eq : ∀ m : List Nat, ((List.range (m.length - 1)).map fun i => decide (m.getD i 0 < m.getD (i + 1) 0)).all id = Kv365.rises m
  | [] => rfl
  | [_] => rfl
  | x :: y :: m => by
    have ih := rises_eq (y :: m)
    show ((List.range (m.length + 1)).map fun i => decide ((x :: y :: m).getD i 0 < (x :: y :: m).getD (i + 1) 0)).all id = _
    rw [List.range_succ_eq_map, List.map_cons, List.all_cons, List.map_map]
    have e : ((List.range m.length).map ((fun i => decide ((x :: y :: m).getD i 0 < (x :: y :: m).getD (i + 1) 0)) ∘ Nat.succ)) = (List.range ((y :: m).length - 1)).map fun i => decide ((y :: m).getD i 0 < (y :: m).getD (i + 1) 0) := rfl
    rw [e, ih]
    show (decide (x < y) && Kv365.rises (y :: m)) = Kv365.rises (x :: y :: m)
    unfold Kv365.rises
    rfl
section
variable {P : Program} {w : World} {K : PySem.W.Frag} {mg : Str → Option Value} {base : Heap}
theorem scRises : FnScope ["row", "place"] ["row"] (defScope sRises) := ⟨rfl, rfl, rfl, by decide +kernel, rfl, by decide +kernel, by decide +kernel⟩
theorem ok_rises {f : Addr} {fd : FuncData} (F : Fun K "rises" "rises" sRises f fd) (B : TxtB mg) : FnOk P w K mg base CX0 1 f fd ["row"] (spRises K) := by
  refine F.ok scRises (fun vs H Q E h => ?_) (fun cdv A outer s H vs Q E hr h => ?_)
  · obtain ⟨a, m, rfl, _⟩ := h
    rfl
  · obtain ⟨a, m, rfl, hS, hm, k⟩ := h
    refine ⟨_, pss_one (ps_ret (pe_callB (cr_all rfl) (by rfl) B.all PyProof.Rows.boot_all (pa_cons (pe_lc (own := [("place", 1)]) rfl scRises.nd
      (pi_range1 rfl B.range (pa_cons (pe_op op_sub (pe_callB call_len_seq (by rfl) B.len PySem.boot_len (pa_cons (pv 0) pa_nil)) pe_int) pa_nil)) (blkOk_by (by show blkC ["row", "place"] (defScope sRises) _ _ = true; decide +kernel))
      (fun _ _ _ _ _ => pg_name (i := 1) scRises.nd rfl (Or.inl rfl)) (fun _ _ _ _ _ => pts_nil)
      (fun _ _ _ _ _ => pe_cmpR op_lt (pe_ix (r := rIxL K) ix_list (pv 0) (pv 1) (fun _ _ => rfl)) (pe_ix (r := rIxL K) ix_list (pv 0) (pe_op op_add (pv 1) pe_int) (fun _ _ => rfl)) (nomark _))) pa_nil))), ?_⟩
    refine ⟨_, rfl, a, _, rfl, .inl hS, _, _, rfl, rfl, _, rfl, by rw [natV_len]; omega, by rw [natV_len]; omega, fun D hD => ?_⟩
    have en : (((natV m).length : Int) - 1).toNat = m.length - 1 := by rw [natV_len]; omega
    rw [en]
    refine lc_range (fun i H' => H' D = some (.lst (((List.range i).map fun i => decide (m.getD i 0 < m.getD (i + 1) 0)).map V.bl)) ∧ Same H H') ⟨upd_same, same_new hD⟩ (fun i H' hi ⟨q1, q2⟩ => ?_) fun H' ⟨q1, q2⟩ => ?_
    · have g1 : (natV m)[i]? = some (V.int (m.getD i 0 : Nat)) := by
        unfold natV; rw [List.getElem?_map, List.getD_eq_getElem?_getD, List.getElem?_eq_getElem (show i < m.length by omega)]; rfl
      have g2 : (natV m)[i + 1]? = some (V.int (m.getD (i + 1) 0 : Nat)) := by
        unfold natV; rw [List.getElem?_map, List.getD_eq_getElem?_getD, List.getElem?_eq_getElem (show i + 1 < m.length by omega)]; rfl
      refine ⟨rfl, yesT ⟨_, rfl, _, rfl, a, _, _, _, rfl, rfl, q2.seq hS, at_of (j := i) (show (0 : Int) + (i : Int) = (i : Int) by omega) g1, _, rfl, _, rfl, _, _, rfl, rfl, a, _, _, _, rfl, rfl, q2.seq hS, at_of (j := i + 1) (show (0 : Int) + (i : Int) + 1 = ((i + 1 : Nat) : Int) by omega) g2, _, _, rfl, rfl, ?_⟩⟩
      have e : decide (((m.getD i 0 : Nat) : Int) < ((m.getD (i + 1) 0 : Nat) : Int)) = decide (m.getD i 0 < m.getD (i + 1) 0) := by congr 1; apply propext; omega
      have := lc_add hD q1 q2 (by rw [List.length_map, List.length_map, List.length_range]; exact small1000 (by omega)) (V.bl (decide (((m.getD i 0 : Nat) : Int) < ((m.getD (i + 1) 0 : Nat) : Int))))
      rw [List.range_succ, List.map_append, List.map_append]
      rw [e] at this
      dsimp only
      rw [e]
      exact this
    · refine ⟨D, _, rfl, SqL.of q1, ?_⟩
      rw [rises_eq]
      exact k H' q2
theorem scHasOne : FnScope ["stretch", "row", "station"] ["stretch", "row"] (defScope sHasOne) := ⟨rfl, rfl, rfl, by decide +kernel, rfl, by decide +kernel, by decide +kernel⟩
theorem ok_hasOne {f Cs fC : Addr} {fd fdC : FuncData} (F : Fun K "has_one" "has_one" sHasOne f fd) (B : TxtB mg) (TS : TxtS K mg Cs) (G2 : FnOk P w K mg base CX0 1 fC fdC ["self", "station"] (spCovers Cs)) (bC : Binds K fdC ["self", "station"] []) (mC : Meth K Cs "covers" fC) :
    FnOk P w K mg base CX0 2 f fd ["stretch", "row"] (spHasOne Cs K) := by
  refine F.ok scHasOne (fun vs H Q E h => ?_) (fun cdv A outer s H vs Q E hr h => ?_)
  · obtain ⟨p, a, l, m, rfl, _⟩ := h
    rfl
  · obtain ⟨p, a, l, m, rfl, ⟨dp, hp⟩, hS, hm, k⟩ := h
    refine ⟨_, pss_one (ps_ret (pe_callB (cr_any rfl) (by rfl) B.any PyProof.Rows.boot_any (pa_cons (pe_lc (own := [("station", 2)]) rfl scHasOne.nd (pi_list (pv 1)) (blkOk_by (by show blkC ["stretch", "row", "station"] (defScope sHasOne) _ _ = true; decide +kernel))
      (fun _ _ _ _ _ => pg_name (i := 2) scHasOne.nd rfl (Or.inl rfl)) (fun _ _ _ _ _ => pts_nil) (fun _ _ _ _ _ => pe_meth (pv 0) TS.cl mC G2 hr bC .nil pass0 (pa_cons (pv 2) pa_nil))) pa_nil))), ?_⟩
    refine ⟨_, rfl, a, rfl, ⟨_, hS⟩, fun D hD => ?_⟩
    refine lc_list (K := K) (a := a) (xs := natV m) (fun i H' => H' D = some (.lst (((m.take i).map l.has).map V.bl)) ∧ Same H H') ⟨upd_same, same_new hD⟩ (fun i H' _ ⟨_, q⟩ => q.seq hS) (fun i x H' hx ⟨q1, q2⟩ => ?_) fun H' ⟨q1, q2⟩ => ?_
    · obtain ⟨sn, hs, rfl⟩ := natV_at hx
      refine ⟨rfl, yesT ⟨_, rfl, p, dp, _, rfl, q2 _ _ hp, sf_no _ _ _ (by decide +kernel) (by decide +kernel) (by decide +kernel), _, rfl, p, l, sn, rfl, ⟨dp, q2 _ _ hp⟩, ?_⟩⟩
      rw [take_snoc hs, List.map_append, List.map_append]
      exact lc_add hD q1 q2 (by rw [List.length_map, List.length_map, List.length_take]; exact small1000 (Nat.le_trans (Nat.min_le_right _ _) hm)) _
    · rw [natV_len, List.take_length] at q1
      refine ⟨D, _, rfl, SqL.of q1, ?_⟩
      have e : (m.map l.has).any id = m.any l.has := by rw [List.any_map]; rfl
      rw [e]
      exact k H' q2
theorem refs_at {ss : List Addr} {i : Nat} {x : V} (h : (ss.map V.ref)[i]? = some x) : ∃ p, ss[i]? = some p ∧ x = V.ref p := by
  rw [List.getElem?_map] at h
  cases e : ss[i]? with
  | none => rw [e] at h; cases h
  | some p => rw [e] at h; exact ⟨p, rfl, (Option.some.inj h).symm⟩
theorem paired_get {α β : Type} {R : α → β → Prop} : ∀ {l : List α} {m : List β} {i : Nat} {a : α}, Paired R l m → l[i]? = some a → ∃ b, m[i]? = some b ∧ R a b
  | _, _, _, _, .nil, h => by simp at h
  | _, _, 0, _, .cons r _, h => ⟨_, rfl, by have e := Option.some.inj h; rw [← e]; exact r⟩
  | _, _, i + 1, _, .cons _ t, h => by
    obtain ⟨b, h1, h2⟩ := paired_get (i := i) t (by simpa using h)
    exact ⟨b, by simpa using h1, h2⟩
abbrev sMissed : Stmt := top 4
def missOf (L : List Kv365.Low) (m : List Nat) : List Nat := (List.range L.length).filter fun i => !m.any (L.getD i ⟨0, 0, 0⟩).has
def missAt (L : List Kv365.Low) (m : List Nat) (i : Nat) : List Nat := (List.range i).filter fun i => !m.any (L.getD i ⟨0, 0, 0⟩).has
theorem miss_none (L : List Kv365.Low) (m : List Nat) : decide ((missOf L m).length = 0) = L.all fun l => m.any l.has := by
  rw [Bool.eq_iff_iff, decide_eq_true_eq, List.length_eq_zero_iff, List.all_eq_true]
  unfold missOf
  rw [List.filter_eq_nil_iff]
  constructor
  · intro h l hl
    obtain ⟨i, hi, e⟩ := List.getElem_of_mem hl
    have := h i (List.mem_range.mpr hi)
    rw [List.getD_eq_getElem?_getD, List.getElem?_eq_getElem hi] at this
    have e2 : (some L[i]).getD (⟨0, 0, 0⟩ : Kv365.Low) = l := e
    rw [e2] at this
    simpa using this
  · intro h i hi
    have hi := List.mem_range.mp hi
    rw [List.getD_eq_getElem?_getD, List.getElem?_eq_getElem hi]
    have := h L[i] (List.getElem_mem hi)
    show ¬ (!m.any (L[i]).has) = true
    rw [this]; simp
theorem lc_enum {K : PySem.W.Frag} {a : Addr} {xs : List V} {g : TG} {tt : TT} {te : TE} {vs : List Nat} {σ : L2.St} {H1 : Hp} {D : Addr} {Qd : Hp → Prop} (Pv : Nat → Hp → Prop) (h0 : Pv 0 (upd H1 D (.lst []))) (hl : ∀ i H, i ≤ xs.length → Pv i H → SqL K H a xs)
    (hs : ∀ i x T H, xs[i]? = some x → H T = none → Pv i H → g (.ref T) (wipe σ vs) (upd H T (.tup [.int (i : Nat), x])) fun σ2 H2 => wipe σ2 vs = wipe σ vs ∧ tt σ2 H2 fun b H3 =>
      if b = true then te σ2 H3 fun y H4 => ∃ acc, H4 D = some (.lst acc) ∧ acc.length < sizeLine ∧ Pv (i + 1) (upd H4 D (.lst (acc ++ [y]))) else Pv (i + 1) H3) (hd : ∀ H, Pv xs.length H → Qd H) :
    ∃ W : Nat → Nat → Hp → Prop, (∃ m, W 0 m (upd H1 D (.lst []))) ∧ ∀ i m H, W i m H →
      ((Ite K a).stop i H ∧ Qd H) ∨ ((Ite K a).go i H ∧ ∃ Nx : Hp → Prop, (∀ H', Nx H' → ∃ m', m' < m ∧ W (i + 1) m' H') ∧ ∀ x H', (Ite K a).yld i H x H' → g x (wipe σ vs) H' fun σ2 H2 => wipe σ2 vs = wipe σ vs ∧ tt σ2 H2 fun b H3 =>
        if b = true then te σ2 H3 fun y H4 => ∃ acc, H4 D = some (.lst acc) ∧ acc.length < sizeLine ∧ Nx (upd H4 D (.lst (acc ++ [y]))) else Nx H3) := by
  refine ⟨fun i m H => m = xs.length - i ∧ i ≤ xs.length ∧ Pv i H, ⟨xs.length, by simp, Nat.zero_le _, h0⟩, ?_⟩
  rintro i m H ⟨rfl, hi, p⟩
  have q := hl i H hi p
  by_cases hlt : i < xs.length
  · refine .inr ⟨⟨xs, xs[i], q, by simp [hlt]⟩, Pv (i + 1), fun H' p' => ⟨xs.length - (i + 1), by omega, rfl, hlt, p'⟩, fun x H' y => ?_⟩
    obtain ⟨T, z, e1, e2, e3, y⟩ := y
    subst e1 e3
    exact hs i z T H (y xs q) e2 p
  · have e : i = xs.length := by omega
    subst e
    exact .inl ⟨⟨xs, q, Nat.le_refl _⟩, hd H p⟩
theorem pg_tupB {X : Cx} {pos : Pos} {K : PySem.W.Frag} {es : List Expr} {k : Nat} {t : TGs} {n : Nat} (hK : X.K = K) (hc : X.calm = true) (h : PGs X es t)
    (hn : (assignEach es X.env).length = n := by rfl) (hst : (assignEach es X.env).findIdx? (·.1) = none := by rfl) : PG X (.Tuple es k pos) (gTup K n t) := by
  subst hK; exact pg_tup hc h hn hst
def spMissed (Cg Cs : Addr) : PySem.W.Frag → Sp := fun K vs H Q _ => ∃ (g a : Addr) (st : Kv365.State) (m : List Nat), vs = [.ref g, .ref a] ∧ Gnd Cg Cs H g st ∧ (lowsOf st).length ≤ 8 ∧ SqL K H a (natV m) ∧ m.length ≤ 30000 ∧ NewList H Q (natV (missOf (lowsOf st) m))
theorem scMissed : FnScope ["ground", "row", "number", "stretch"] ["ground", "row"] (defScope sMissed) := ⟨rfl, rfl, rfl, by decide +kernel, rfl, by decide +kernel, by decide +kernel⟩
theorem ok_missed {f Cg Cs fO : Addr} {fd fdO : FuncData} (F : Fun K "missed_numbers" "missed_numbers" sMissed f fd) (B : TxtB mg) (T : TxtG K mg Cg) (gO : mg "has_one" = some (.ref fO)) (kO : PySem.W.keepIn K (.ref fO) = true) (G2 : FnOk P w K mg base CX0 2 fO fdO ["stretch", "row"] (spHasOne Cs K)) (bO : Binds K fdO ["stretch", "row"] []) :
    FnOk P w K mg base CX0 3 f fd ["ground", "row"] (spMissed Cg Cs K) := by
  refine F.ok scMissed (fun vs H Q E h => ?_) (fun cdv A outer s H vs Q E hr h => ?_)
  · obtain ⟨g, a, st, m, rfl, _⟩ := h
    rfl
  · obtain ⟨g, a, st, m, rfl, ⟨r0, p0, t0, ss, G⟩, h8, hS, hm, k⟩ := h
    obtain ⟨dx, hg⟩ := G.ins
    refine ⟨_, pss_one (ps_ret (pe_lc (own := [("number", 2), ("stretch", 3)]) rfl scMissed.nd (pi_enum rfl B.enumerate (pa_cons (pe_fld (pv 0) rfl) pa_nil)) (blkOk_by (by show blkC ["ground", "row", "number", "stretch"] (defScope sMissed) _ _ = true; decide +kernel))
      (fun _ _ _ _ _ => pg_tupB (K := K) (n := 2) rfl rfl (pgs_cons (pg_name (i := 2) scMissed.nd rfl (Or.inl rfl)) (pgs_cons (pg_name (i := 3) scMissed.nd rfl (Or.inl rfl)) pgs_nil)))
      (fun _ _ _ _ _ => pts_one (pt_not (pt_val (pe_call G2 hr rfl gO kO bO .nil pass0 (pa_cons (pv 3) (pa_cons (pv 1) pa_nil)))))) (fun _ _ _ _ _ => pv 2))), ?_⟩
    refine ⟨_, rfl, g, Cg, dx, _, _, rfl, hg, T.cl, T.n3, gf_stretches _ _ _, t0, _, rfl, SqL.of G.lo, fun D hD => ?_⟩
    refine lc_enum (K := K) (a := t0) (xs := ss.map V.ref) (fun i H' => H' D = some (.lst (natV (missAt (lowsOf st) m i))) ∧ Same H H') ⟨upd_same, same_new hD⟩ (fun i H' _ ⟨_, q⟩ => SqL.of (q _ _ G.lo)) (fun i x T1 H' hx hT1 ⟨q1, q2⟩ => ?_) fun H' ⟨q1, q2⟩ => ?_
    · obtain ⟨p, hp, rfl⟩ := refs_at hx
      obtain ⟨l, hl, hpl⟩ := paired_get G.st hp
      have s1 : Same H' (upd H' T1 (.tup [.int (i : Nat), .ref p])) := same_new hT1
      refine ⟨T1, _, rfl, SqT.of upd_same, rfl, _, _, rfl, _, _, rfl, rfl, rfl, _, rfl, _, rfl, p, a, l, m, rfl, hpl.same (q2.trans s1), (q2.trans s1).seq hS, hm, fun H2 s2 => ⟨_, rfl, ?_⟩⟩
      have e2 : missAt (lowsOf st) m (i + 1) = if !m.any l.has then missAt (lowsOf st) m i ++ [i] else missAt (lowsOf st) m i := by
        unfold missAt
        rw [filter_snoc, List.getD_eq_getElem?_getD, hl]; rfl
      have hlen : (natV (missAt (lowsOf st) m i)).length < sizeLine := by
        rw [natV_len]
        have hi : i < (lowsOf st).length := (List.getElem?_eq_some_iff.mp hl).1
        have : (missAt (lowsOf st) m i).length ≤ i := by unfold missAt; exact Nat.le_trans (List.length_filter_le _ _) (by rw [List.length_range]; exact Nat.le_refl _)
        exact small12 (by omega)
      cases e : m.any l.has with
      | false =>
        refine iteT ⟨_, rfl, ?_⟩
        rw [e2, e, if_pos (by rfl)]
        have := lc_add hD (s2 _ _ (s1 _ _ q1)) (q2.trans (s1.trans s2)) hlen (V.int (i : Int))
        unfold natV at this ⊢; rw [List.map_append]; exact this
      | true =>
        refine iteF ⟨?_, q2.trans (s1.trans s2)⟩
        rw [e2, e, if_neg (by intro z; cases z)]
        exact s2 _ _ (s1 _ _ q1)
    · have el : (ss.map V.ref).length = (lowsOf st).length := by rw [List.length_map, paired_len G.st]
      rw [el] at q1
      exact k H' D hD q1 q2
theorem scTheyDo : FnScope ["ground", "row"] ["ground", "row"] (defScope sTheyDo) := ⟨rfl, rfl, rfl, by decide +kernel, rfl, by decide +kernel, by decide +kernel⟩
theorem ok_theyDo {f Cg Cs fO : Addr} {fd fdO : FuncData} (F : Fun K "they_do" "they_do" sTheyDo f fd) (B : TxtB mg) (gO : mg "missed_numbers" = some (.ref fO)) (kO : PySem.W.keepIn K (.ref fO) = true) (G2 : FnOk P w K mg base CX0 3 fO fdO ["ground", "row"] (spMissed Cg Cs K)) (bO : Binds K fdO ["ground", "row"] []) :
    FnOk P w K mg base CX0 4 f fd ["ground", "row"] (spTheyDo Cg Cs K) := by
  refine F.ok scTheyDo (fun vs H Q E h => ?_) (fun cdv A outer s H vs Q E hr h => ?_)
  · obtain ⟨g, a, st, m, rfl, _⟩ := h
    rfl
  · obtain ⟨g, a, st, m, rfl, hG, h8, hS, hm, k⟩ := h
    refine ⟨_, pss_one (ps_ret (pe_cmpR op_eq (pe_callB call_len_seq (by rfl) B.len PySem.boot_len (pa_cons (pe_call G2 hr rfl gO kO bO .nil pass0 (pa_cons (pv 0) (pa_cons (pv 1) pa_nil))) pa_nil)) pe_int (nomark _))), ?_⟩
    refine ⟨_, rfl, _, rfl, g, a, st, m, rfl, hG, h8, hS, hm, fun H1 D hD h1 s1 => ⟨D, _, rfl, .inl (SqL.of h1), rfl, ?_⟩⟩
    have e : decide (V.int ((natV (missOf (lowsOf st) m)).length : Int) = V.int 0) = (lowsOf st).all fun l => m.any l.has := by
      rw [← miss_none, natV_len]
      congr 1
      apply propext
      constructor
      · intro z; injection z with z; omega
      · intro z; rw [z]; rfl
    rw [e]
    exact k H1 s1
end
end Cv
end
section
namespace Cv
open PySem PySem.Spec PyProof.Rows L2
abbrev sByEnds : Stmt := top 7
abbrev sSkipped : Stmt := top 8
theorem pe_fldB {X : Cx} {K : PySem.W.Frag} {e : Expr} {ta : TE} {f : Str} {pos : Pos} (hK : X.K = K) (he : PE X e ta) (hb : attributeBase e f X.env (eval e X.env) = eval e X.env) : PE X (.Attribute e f pos) (tFld K ta f) := by
  subst hK; exact pe_fld he hb
def spSkipped (Cs : Addr) : PySem.W.Frag → Sp := fun K vs H Q _ => ∃ (t : Addr) (ss : List Addr) (L : List Kv365.Low) (x y : Int), vs = [.ref t, .int x, .int y] ∧ SqL K H t (ss.map V.ref) ∧ Paired (StAt Cs H) ss L ∧ L.length ≤ 8 ∧ Reads H Q (.bl (My.skip L x y))
section
variable {P : Program} {w : World} {K : PySem.W.Frag} {mg : Str → Option Value} {base : Heap}
theorem scCulverts : FnScope ["ground", "row", "station"] ["ground", "row"] (defScope sCulverts) := ⟨rfl, rfl, rfl, by decide +kernel, rfl, by decide +kernel, by decide +kernel⟩
theorem ok_culverts {f Cg Cs fR fS : Addr} {fd fdR fdS : FuncData} (F : Fun K "are_culverts" "are_culverts" sCulverts f fd) (B : TxtB mg) (T : TxtG K mg Cg) (gR : mg "rises" = some (.ref fR)) (kR : PySem.W.keepIn K (.ref fR) = true) (GR : FnOk P w K mg base CX0 1 fR fdR ["row"] (spRises K)) (bR : Binds K fdR ["row"] [])
    (GS : FnOk P w K mg base CX0 2 fS fdS ["self", "station"] (spIsSite Cg Cs)) (bS : Binds K fdS ["self", "station"] []) (mS : Meth K Cg "is_site" fS) : FnOk P w K mg base CX0 3 f fd ["ground", "row"] (spCulverts Cg Cs K) := by
  refine F.ok scCulverts (fun vs H Q E h => ?_) (fun cdv A outer s H vs Q E hr h => ?_)
  · obtain ⟨g, a, st, m, rfl, _⟩ := h
    rfl
  · obtain ⟨g, a, st, m, rfl, hG, hS, hm, k⟩ := h
    obtain ⟨r0, p0, t0, ss, G⟩ := id hG
    obtain ⟨dx, hg⟩ := G.ins
    refine ⟨_, pss_one (ps_ret (pe_and (pe_call GR (hr.mono (by decide)) rfl gR kR bR .nil pass0 (pa_cons (pv 1) pa_nil)) (pe_one (pe_callB (cr_all rfl) (by rfl) B.all PyProof.Rows.boot_all (pa_cons (pe_lc (own := [("station", 2)]) rfl scCulverts.nd (pi_list (pv 1))
      (blkOk_by (by show blkC ["ground", "row", "station"] (defScope sCulverts) _ _ = true; decide +kernel)) (fun _ _ _ _ _ => pg_name (i := 2) scCulverts.nd rfl (Or.inl rfl)) (fun _ _ _ _ _ => pts_nil) (fun _ _ _ _ _ => pe_meth (pv 0) T.cl mS GS hr bS .nil pass0 (pa_cons (pv 2) pa_nil))) pa_nil))))), ?_⟩
    refine ⟨_, rfl, a, m, rfl, hS, hm, fun H1 s1 => ⟨_, rfl, ?_⟩⟩
    cases e : Kv365.rises m with
    | false =>
      refine iteF ?_
      rw [e, Bool.false_and] at k
      exact k H1 s1
    | true =>
      rw [e, Bool.true_and] at k
      refine iteT ⟨_, rfl, a, rfl, ⟨_, s1.seq hS⟩, fun D hD => ?_⟩
      refine lc_list (K := K) (a := a) (xs := natV m) (fun i H' => H' D = some (.lst (((m.take i).map (siteOf st)).map V.bl)) ∧ Same H1 H') ⟨upd_same, same_new hD⟩ (fun i H' _ ⟨_, q⟩ => (s1.trans q).seq hS) (fun i x H' hx ⟨q1, q2⟩ => ?_) fun H' ⟨q1, q2⟩ => ?_
      · obtain ⟨sn, hs, rfl⟩ := natV_at hx
        refine ⟨rfl, yesT ⟨_, rfl, g, dx, _, rfl, q2 _ _ (s1 _ _ hg), gf_no _ _ _ (by decide +kernel) (by decide +kernel) (by decide +kernel), _, rfl, g, st, sn, rfl, hG.same (s1.trans q2), ?_⟩⟩
        rw [take_snoc hs, List.map_append, List.map_append]
        exact lc_add hD q1 q2 (by rw [List.length_map, List.length_map, List.length_take]; exact small1000 (Nat.le_trans (Nat.min_le_right _ _) hm)) _
      · rw [natV_len, List.take_length] at q1
        refine ⟨D, _, rfl, SqL.of q1, ?_⟩
        have e2 : (m.map (siteOf st)).all id = m.all (siteOf st) := by rw [List.all_map]; rfl
        rw [e2]
        exact k H' (s1.trans q2)
theorem scSomeDo : FnScope ["ground"] ["ground"] (defScope sSomeDo) := ⟨rfl, rfl, rfl, by decide +kernel, rfl, by decide +kernel, by decide +kernel⟩
theorem ok_someDo {f Cg Cs fT fS : Addr} {fd fdT fdS : FuncData} (F : Fun K "some_do" "some_do" sSomeDo f fd) (T : TxtG K mg Cg) (gT : mg "they_do" = some (.ref fT)) (kT : PySem.W.keepIn K (.ref fT) = true) (GT : FnOk P w K mg base CX0 4 fT fdT ["ground", "row"] (spTheyDo Cg Cs K)) (bT : Binds K fdT ["ground", "row"] [])
    (GS : FnOk P w K mg base CX0 3 fS fdS ["self"] (spSites Cg Cs)) (bS : Binds K fdS ["self"] []) (mS : Meth K Cg "sites" fS) : FnOk P w K mg base CX0 5 f fd ["ground"] (spSomeDo Cg Cs) := by
  refine F.ok scSomeDo (fun vs H Q E h => ?_) (fun cdv A outer s H vs Q E hr h => ?_)
  · obtain ⟨g, st, rfl, _⟩ := h
    rfl
  · obtain ⟨g, st, rfl, hG, h8, h12, k⟩ := h
    obtain ⟨r0, p0, t0, ss, G⟩ := id hG
    obtain ⟨dx, hg⟩ := G.ins
    refine ⟨_, pss_one (ps_ret (pe_call GT hr rfl gT kT bT .nil pass0 (pa_cons (pv 0) (pa_cons (pe_meth0 (pv 0) T.cl mS GS (hr.mono (by decide)) bS .nil pass0) pa_nil)))), ?_⟩
    refine ⟨_, rfl, _, rfl, g, dx, _, rfl, hg, gf_no _ _ _ (by decide +kernel) (by decide +kernel) (by decide +kernel), g, st, rfl, hG, h12, fun H1 D hD h1 s1 => ?_⟩
    exact ⟨g, D, st, freeOf st, rfl, hG.same s1, h8, SqL.of h1, Nat.le_trans freeOf_len (by omega), fun H2 s2 => k H2 (s1.trans s2)⟩
theorem scSkipped : FnScope ["stretches", "left", "right", "stretch"] ["stretches", "left", "right"] (defScope sSkipped) := ⟨rfl, rfl, rfl, by decide +kernel, rfl, by decide +kernel, by decide +kernel⟩
theorem ok_skipped {f Cs : Addr} {fd : FuncData} (F : Fun K "is_skipped" "is_skipped" sSkipped f fd) (B : TxtB mg) (TS : TxtS K mg Cs) : FnOk P w K mg base CX0 1 f fd ["stretches", "left", "right"] (spSkipped Cs K) := by
  refine F.ok scSkipped (fun vs H Q E h => ?_) (fun cdv A outer s H vs Q E hr h => ?_)
  · obtain ⟨t, ss, L, x, y, rfl, _⟩ := h
    rfl
  · obtain ⟨t, ss, L, x, y, rfl, hS, hP, h8, k⟩ := h
    refine ⟨_, pss_one (ps_ret (pe_callB (cr_any rfl) (by rfl) B.any PyProof.Rows.boot_any (pa_cons (pe_lc (own := [("stretch", 3)]) rfl scSkipped.nd (pi_list (pv 0)) (blkOk_by (by show blkC ["stretches", "left", "right", "stretch"] (defScope sSkipped) _ _ = true; decide +kernel))
      (fun _ _ _ _ _ => pg_name (i := 3) scSkipped.nd rfl (Or.inl rfl)) (fun _ _ _ _ _ => pts_nil) (fun _ _ _ _ _ => pe_and (pe_cmpR op_lt (pv 1) (pe_fldB (K := K) rfl (pv 3) rfl) (nomark _)) (pe_one (pe_cmpR op_lt (pe_fldB (K := K) rfl (pv 3) rfl) (pv 2) (nomark _))))) pa_nil))), ?_⟩
    refine ⟨_, rfl, t, rfl, ⟨_, hS⟩, fun D hD => ?_⟩
    refine lc_list (K := K) (a := t) (xs := ss.map V.ref) (fun i H' => H' D = some (.lst (((L.take i).map fun l => decide (x < (l.from_ : Int)) && decide ((l.to_ : Int) < y)).map V.bl)) ∧ Same H H') ⟨upd_same, same_new hD⟩ (fun i H' _ ⟨_, q⟩ => q.seq hS) (fun i v H' hx ⟨q1, q2⟩ => ?_) fun H' ⟨q1, q2⟩ => ?_
    · obtain ⟨p, hp, rfl⟩ := refs_at hx
      obtain ⟨l, hl, dp, hpl⟩ := paired_get hP hp
      have fin : ∀ b, b = (decide (x < (l.from_ : Int)) && decide ((l.to_ : Int) < y)) → ∃ acc', H' D = some (.lst acc') ∧ acc'.length < sizeLine ∧ (upd H' D (.lst (acc' ++ [V.bl b])) D = some (.lst (((L.take (i + 1)).map fun l => decide (x < (l.from_ : Int)) && decide ((l.to_ : Int) < y)).map V.bl)) ∧ Same H (upd H' D (.lst (acc' ++ [V.bl b])))) := fun b hb => by
        rw [take_snoc hl, List.map_append, List.map_append, hb]
        exact lc_add hD q1 q2 (by rw [List.length_map, List.length_map, List.length_take]; exact small1000 (Nat.le_trans (Nat.min_le_right _ _) (by omega))) _
      refine ⟨rfl, yesT ⟨_, rfl, _, rfl, p, Cs, dp, _, _, rfl, q2 _ _ hpl, TS.cl, TS.n1, sf_first _ _ _, _, _, rfl, rfl, _, rfl, ?_⟩⟩
      by_cases h1 : x < (l.from_ : Int)
      · rw [if_pos (decide_eq_true h1)]
        refine ⟨_, rfl, p, Cs, dp, _, _, rfl, q2 _ _ hpl, TS.cl, TS.n2, sf_last _ _ _, _, rfl, _, _, rfl, rfl, ?_⟩
        exact fin _ (by rw [decide_eq_true h1, Bool.true_and])
      · rw [if_neg (by rw [decide_eq_false h1]; exact Bool.false_ne_true)]
        exact fin _ (by rw [decide_eq_false h1, Bool.false_and])
    · have el : (ss.map V.ref).length = L.length := by rw [List.length_map, paired_len hP]
      rw [el, List.take_length] at q1
      refine ⟨D, _, rfl, SqL.of q1, ?_⟩
      have e2 : (L.map fun l => decide (x < (l.from_ : Int)) && decide ((l.to_ : Int) < y)).any id = My.skip L x y := by rw [List.any_map]; rfl
      rw [e2]
      exact k H' q2
end
end Cv
end
section
namespace Cv
open PySem PySem.Spec PyProof.Rows L2
open PySem.W (kla_fn kla_obj envX tabObj CodeHd)
section
variable {P : Program} {w : World} {K : PySem.W.Frag} {mg : Str → Option Value} {base : Heap}
theorem Fun.okC {x qual : Str} {st : Stmt} {f : Addr} {fd : FuncData} {N ps : List Str} {k : Nat} {sp : Sp} (F : Fun K x qual st f fd) (S : FnScope N ps (defScope st)) (len : ∀ vs H Q E, sp vs H Q E → vs.length = ps.length)
    (hbody : ∀ (cdv : Value) (A : Around) (outer : List Env) (s : Shared) (H : Hp) (vs : List V) (Q : VK) (E : XK), fd.code = cdv → Room k (A.deeper (envOfC qual (defScope st) s.heap.objs.size f cdv)) → sp vs H Q E →
      ∃ t, PSs (cxOf CX0 P w K mg base N qual (defScope st) f cdv A outer s H E).nox (defBody st) t ∧ t { nx := fun _ H' => Q .non H', rt := Q } (start N vs) H) : FnOk P w K mg base CX0 (k + 1) f fd ps sp := by
  obtain ⟨oc, od, kV, doc, pm, an, cdv, ct, osl, rfl, lk, hcd⟩ := F.ex
  refine fn_of lk hcd S len fun A outer s H vs Q E hr hsp => ?_
  obtain ⟨t, h, q⟩ := hbody cdv A outer s H vs Q E rfl hr hsp
  exact ⟨t, h.nox, q⟩
structure TabAt (mg : Str → Option Value) (base : Heap) (fd : FuncData) (Pt : Addr) : Prop where
  code : ∃ c, fd.code = .ref c ∧ CodeHd base c Pt
  blt : base.BuiltinsAt mg Pt
  noP : base.get? Pt = none
def Kept (Pt : Addr) (H H' : Hp) : Prop := ∀ b o, b ≠ Pt → H b = some o → H' b = some o
theorem Same.kept {Pt : Addr} {H H' : Hp} (s : Same H H') : Kept Pt H H' := fun b o _ e => s b o e
theorem Kept.trans {Pt : Addr} {H H1 H2 : Hp} (a : Kept Pt H H1) (b : Kept Pt H1 H2) : Kept Pt H H2 := fun c o n h => b c o n (a c o n h)
def lamPos : Pos := match sByEnds with
  | .FunctionDef _ _ (.Return (some (.Call _ _ [⟨_, .Lambda _ _ _ p, _⟩] _)) _ :: _) _ _ _ _ _ _ _ => p
  | _ => ⟨0, 0, 0, 0⟩
def lamQual : Str := ("by_ends" : Str) ++ ".<locals>." ++ "<lambda>"
abbrev Tab (H : Hp) (Pt : Addr) : Prop := TabSt H Pt lamPos lamQual
def spByEnds (Cs Pt : Addr) : PySem.W.Frag → Sp := fun K vs H Q _ => ∃ (t : Addr) (ss : List Addr) (a : Kv365.Abs), vs = [.ref t] ∧ H t = some (.lst (ss.map V.ref)) ∧ Paired (StAt Cs H) ss a.lows ∧ a.lows.length ≤ 8 ∧ Tab H Pt ∧
  ∀ (H' : Hp) (D : Addr), H D = none → H' D = some (.lst (natV a.byEnd)) → Kept Pt H H' → Tab H' Pt → Q (.ref D) H'
theorem scByEnds : FnScope ["stretches"] ["stretches"] (defScope sByEnds) := ⟨rfl, rfl, rfl, by decide +kernel, rfl, by decide +kernel, by decide +kernel⟩
theorem byEnd_of {a : Kv365.Abs} {ms : List Nat} (hp : ms.Perm (List.range a.lows.length)) (hs : ms.Pairwise fun i j => KS.twoLe (((a.low i).to_ : Int), (i : Int)) (((a.low j).to_ : Int), (j : Int))) : ms = a.byEnd := by
  refine My.byEnd_is hp (hs.imp fun {i j} h => ?_)
  rw [My.endLe_iff]
  have h : ((a.low i).to_ : Int) < ((a.low j).to_ : Int) ∨ (((a.low i).to_ : Int) = ((a.low j).to_ : Int) ∧ (i : Int) ≤ (j : Int)) := h
  omega
theorem ok_byEnds {f Cs Pt : Addr} {fd : FuncData} (F : Fun K "by_ends" "by_ends" sByEnds f fd) (B : TxtB mg) (TS : TxtS K mg Cs) (TT : TabAt mg base fd Pt) : FnOk P w K mg base CX0 1 f fd ["stretches"] (spByEnds Cs Pt K) := by
  refine Fun.okC F scByEnds (fun vs H Q E h => ?_) (fun cdv A outer s H vs Q E hcd hr h => ?_)
  · obtain ⟨t, ss, a, rfl, _⟩ := h
    rfl
  · obtain ⟨t, ss, a, rfl, hS, hP, h8, hT, k⟩ := h
    obtain ⟨c, hc1, hc2⟩ := TT.code
    rw [hc1] at hcd
    subst hcd
    refine ⟨_, pss_one (ps_ret (pe_sortL (P := Pt) (N := ["number", "stretches"]) (x := "number") (cl := [("stretches", s.heap.objs.size + 1)]) rfl hr.depth ⟨⟨c, rfl, hc2⟩, TT.blt, TT.noP⟩ (by rfl) B.sorted ⟨rfl, rfl, rfl, by decide +kernel, by decide +kernel, rfl, by decide +kernel, ?clo, ?free⟩ ?cl rfl
      (fun _ _ _ => rfl) ?hps (fun _ _ _ _ => pe_tup (pa_cons (pe_fldB (K := K) rfl (pe_ix (r := rIxL K) ix_list (pv 1) (pv 0) (fun _ _ => rfl)) rfl) (pa_cons (pv 0) pa_nil)))
      (pa_cons (pe_rng rfl B.range (pa_cons (pe_callB call_len_seq (by rfl) B.len PySem.boot_len (pa_cons (pv 0) pa_nil)) pa_nil)) pa_nil))), ?_⟩
    case clo =>
      intro x c e
      rw [List.lookup_cons] at e
      by_cases q : (x == ("stretches" : Str)) = true
      · rw [q] at e
        cases e
        rw [eq_of_beq q]
        rfl
      · rw [Bool.eq_false_iff.mpr q] at e
        cases e
    case free =>
      intro x e
      have hm : (x, NameKind.free) ∈ [(("number" : Str), NameKind.local), (("stretches" : Str), NameKind.free)] := PySem.mem_of_lookup e
      have hx : x = ("stretches" : Str) := by
        rcases List.mem_cons.mp hm with z | z
        · cases z
        · exact congrArg Prod.fst (List.mem_singleton.mp z)
      subst hx
      exact ⟨_, rfl⟩
    case cl => rfl
    case hps =>
      intro j y e
      match j, e with
      | 0, e =>
        have hy : ("stretches" : Str) = y := Option.some.inj e
        subst hy
        intro z
        have z2 : some NameKind.free = some NameKind.local := z
        cases z2
      | j + 1, e =>
        have e2 : (["number", "stretches"] : List Str)[1 + (j + 1)]? = some y := e
        rw [List.getElem?_eq_none (by show 2 ≤ 1 + (j + 1); omega)] at e2
        cases e2
    refine ⟨_, rfl, t, _, rfl, .inl (SqL.of hS), _, rfl, fun r hr0 => ?_⟩
    have hlen : (ss.map V.ref).length = a.lows.length := by rw [List.length_map, paired_len hP]
    have tP : ∀ b u, H b = some u → (∀ ps, u ≠ .tbl ps) → b ≠ Pt := fun b u e d z => by
      subst z
      rcases hT with q | ⟨_, q, _⟩
      · rw [e] at q; exact d _ (Option.some.inj q)
      · rw [e] at q; exact d _ (Option.some.inj q)
    have up : ∀ b o, H b = some o → upd H r (.rng 0 ((ss.map V.ref).length : Int)) b = some o := same_new hr0
    refine ⟨r, a.lows.length, [.ref t], fun i => (((a.low i).to_ : Int), (i : Int)), rfl, by rw [upd_same, hlen], by omega, ?_, rfl, ?_, ?_, ?_⟩
    · rcases hT with q | ⟨c1, q1, q2⟩
      · exact .inl (up _ _ q)
      · exact .inr ⟨c1, up _ _ q1, up _ _ q2⟩
    · intro j y v e1 e2 _
      match j, e1, e2 with
      | 0, e1, e2 =>
        have hy : ("stretches" : Str) = y := Option.some.inj e1
        have hv : V.ref t = v := Option.some.inj e2
        subst hy hv
        exact ⟨0, rfl, rfl, .inl rfl⟩
      | j + 1, _, e2 => exact absurd (show ([] : List V)[j]? = some v from e2) (by simp)
    · intro i H2 hi sub
      have hii : i < ss.length := by rw [paired_len hP]; exact hi
      obtain ⟨l, hl, dp, hpl⟩ := paired_get hP (List.getElem?_eq_getElem hii)
      have el : a.low i = l := My.low_at hl
      have gi : (ss.map V.ref)[i]? = some (V.ref ss[i]) := by rw [List.getElem?_map, List.getElem?_eq_getElem hii]; rfl
      have hp2 : H2 ss[i] = some (.ins Cs dp (sf l.from_ l.to_ l.water)) := sub _ _ (tP _ _ hpl fun ps z => by cases z) (up _ _ hpl)
      refine ⟨_, rfl, _, rfl, t, _, _, _, rfl, rfl, SqL.of (sub _ _ (tP _ _ hS fun ps z => by cases z) (up _ _ hS)), at_of (j := i) rfl gi, ss[i], Cs, dp, _, _, rfl, hp2, TS.cl, TS.n2, sf_last _ _ _, _, rfl, by show 2 ≤ sizeLine; rw [sizeLine_eq]; omega, fun q hq => ⟨q, rfl, hq, ?_⟩⟩
      rw [← el]
    · intro ms D H2 q1 q2 q3 q4 q5 q6
      have eb := byEnd_of q1 q2
      rw [eb] at q4
      have hDr : D ≠ r := fun z => by rw [z, upd_same] at q3; cases q3
      rw [upd_ne hDr] at q3
      exact k H2 D q3 q4 (fun b o hb e => q5 b o hb (up b o e)) q6
end
end Cv
end
section
namespace Cv
open PySem PySem.Spec PyProof.Rows L2 HT
abbrev sBest : Stmt := top 9
def t3 (t : My.Tail) : T3 := ((t.cost : Int), t.row.map (fun (i : Nat) => (i : Int)), (t.first : Int))
theorem lexLt_ahead : ∀ a b : List Nat, lexLt (a.map fun (i : Nat) => (i : Int)) (b.map fun (i : Nat) => (i : Int)) = Kv365.ahead a b
  | [], [] => rfl
  | [], _ :: _ => rfl
  | _ :: _, [] => rfl
  | x :: a, y :: b => by
    rw [List.map_cons, List.map_cons, lexLt_cons, lexLt_ahead a b]
    show _ = (decide (x < y) || (x == y && Kv365.ahead a b))
    by_cases e : x = y
    · subst e; simp
    · rw [if_neg (by omega)]
      have e2 : (x == y) = false := beq_eq_false_iff_ne.mpr e
      rw [e2, Bool.false_and, Bool.or_false]
      congr 1; apply propext; omega
theorem cast_inj {a b : List Nat} (h : (a.map fun (i : Nat) => (i : Int)) = b.map fun (i : Nat) => (i : Int)) : a = b := by
  induction a generalizing b with
  | nil => cases b with
    | nil => rfl
    | cons y b => cases h
  | cons x a ih => cases b with
    | nil => cases h
    | cons y b =>
      rw [List.map_cons, List.map_cons] at h
      injection h with h1 h2
      rw [ih h2, Int.ofNat.inj h1]
theorem trip_tail (t u : My.Tail) : tripLt (t3 t) (t3 u) = My.tailLt t u := by
  unfold tripLt My.tailLt t3
  dsimp only
  by_cases e1 : t.cost = u.cost
  · rw [if_pos (by rw [e1])]
    have z1 : decide (t.cost < u.cost) = false := decide_eq_false (by omega)
    have z2 : (t.cost == u.cost) = true := beq_iff_eq.mpr e1
    rw [z1, z2, Bool.false_or, Bool.true_and, lexLt_ahead]
    by_cases e2 : t.row = u.row
    · rw [if_pos (by rw [e2]), e2, My.ahead_irrefl]
      simp
    · rw [if_neg (fun z => e2 (cast_inj z))]
      have z3 : (t.row == u.row) = false := beq_eq_false_iff_ne.mpr e2
      rw [z3, Bool.false_and, Bool.or_false]
  · rw [if_neg (by omega)]
    have z2 : (t.cost == u.cost) = false := beq_eq_false_iff_ne.mpr e1
    rw [z2, Bool.false_and, Bool.or_false]
    congr 1; apply propext; omega
abbrev TailH (H : Hp) (p : Addr) (t : My.Tail) : Prop := TripH H p (t3 t)
def bestP (b : Addr × My.Tail) (r : List (Addr × My.Tail)) : Addr × My.Tail := r.foldl (fun b x => if My.tailLt x.2 b.2 then x else b) b
theorem bestP_least : ∀ (r : List (Addr × My.Tail)) (b : Addr × My.Tail), leastOf (b.1, t3 b.2) (r.map fun x => (x.1, t3 x.2)) = ((bestP b r).1, t3 (bestP b r).2)
  | [], b => rfl
  | x :: r, b => by
    rw [List.map_cons, leastOf_cons, trip_tail]
    show _ = ((bestP (if My.tailLt x.2 b.2 then x else b) r).1, t3 (bestP (if My.tailLt x.2 b.2 then x else b) r).2)
    cases e : My.tailLt x.2 b.2 with
    | true => rw [if_pos rfl, if_pos rfl]; exact bestP_least r x
    | false => rw [if_neg Bool.false_ne_true, if_neg Bool.false_ne_true]; exact bestP_least r b
theorem bestP_snd : ∀ (r : List (Addr × My.Tail)) (b : Addr × My.Tail), (bestP b r).2 = (r.map (·.2)).foldl (fun b t => if My.tailLt t b then t else b) b.2
  | [], b => rfl
  | x :: r, b => by
    rw [List.map_cons, List.foldl_cons]
    show (bestP (if My.tailLt x.2 b.2 then x else b) r).2 = _
    rw [bestP_snd r]
    congr 1
    split <;> rfl
theorem bestP_mem : ∀ (r : List (Addr × My.Tail)) (b : Addr × My.Tail), bestP b r ∈ b :: r
  | [], b => List.mem_cons_self
  | x :: r, b => by
    show bestP (if My.tailLt x.2 b.2 then x else b) r ∈ _
    have := bestP_mem r (if My.tailLt x.2 b.2 then x else b)
    rcases List.mem_cons.mp this with z | z
    · rw [z]; split
      · exact List.mem_cons_of_mem _ List.mem_cons_self
      · exact List.mem_cons_self
    · exact List.mem_cons_of_mem _ (List.mem_cons_of_mem _ z)
theorem zip_t3 : ∀ (ps : List Addr) (ts : List My.Tail), ps.zip (ts.map t3) = (ps.zip ts).map fun x => (x.1, t3 x.2)
  | [], _ => rfl
  | _ :: _, [] => rfl
  | p :: ps, t :: ts => by
    rw [List.map_cons, List.zip_cons_cons, List.zip_cons_cons, List.map_cons, zip_t3 ps ts]
theorem paired_t3 {H : Hp} : ∀ {ps : List Addr} {ts : List My.Tail}, Paired (TailH H) ps ts → Paired (TripH H) ps (ts.map t3)
  | _, _, .nil => .nil
  | _, _, .cons r t => .cons r (paired_t3 t)
theorem paired_zip {α β : Type} {R : α → β → Prop} : ∀ {l : List α} {m : List β}, Paired R l m → (∀ x ∈ l.zip m, R x.1 x.2) ∧ (l.zip m).map (·.2) = m
  | _, _, .nil => ⟨fun x h => (nomatch h), rfl⟩
  | _, _, .cons r t => by
    obtain ⟨h1, h2⟩ := paired_zip t
    refine ⟨fun x h => ?_, by rw [List.zip_cons_cons, List.map_cons, h2]⟩
    rw [List.zip_cons_cons] at h
    rcases List.mem_cons.mp h with z | z
    · rw [z]; exact r
    · exact h1 x z
theorem min_tails {H : Hp} {ps : List Addr} {ts : List My.Tail} (h : Paired (TailH H) ps ts) : (My.minTail ts = none ∧ minH (ps.zip (ts.map t3)) = .non) ∨ ∃ p t, My.minTail ts = some t ∧ TailH H p t ∧ minH (ps.zip (ts.map t3)) = .ref p := by
  obtain ⟨h1, h2⟩ := paired_zip h
  rw [zip_t3]
  cases h with
  | nil => exact .inl ⟨rfl, rfl⟩
  | cons r t =>
    rename_i p t0 ps ts
    right
    rw [List.zip_cons_cons] at h1 h2 ⊢
    rw [List.map_cons] at h2 ⊢
    have hz : (ps.zip ts).map (·.2) = ts := (List.cons.inj h2).2
    refine ⟨(bestP (p, t0) (ps.zip ts)).1, (bestP (p, t0) (ps.zip ts)).2, ?_, h1 _ (bestP_mem _ _), ?_⟩
    · rw [bestP_snd, hz]; rfl
    · show V.ref (leastOf (p, t3 t0) ((ps.zip ts).map fun x => (x.1, t3 x.2))).1 = _
      rw [bestP_least (ps.zip ts) (p, t0)]
end Cv
end
section
namespace Cv
open PySem PySem.Spec PyProof.Rows L2 HT
theorem TripH.same {H H' : Hp} {p : Addr} {t : T3} (h : TripH H p t) (s : Same H H') : TripH H' p t := let ⟨r, h1, h2⟩ := h; ⟨r, s _ _ h1, s _ _ h2⟩
def spBest (Cg Cs : Addr) : PySem.W.Frag → Sp := fun K vs H Q _ => ∃ (g tl : Addr) (st : Kv365.State) (ps : List Addr) (ts : List My.Tail) (x : Int), vs = [.ref g, .ref tl, .int x] ∧ Gnd Cg Cs H g st ∧ (lowsOf st).length ≤ 8 ∧ H tl = some (.lst (ps.map V.ref)) ∧ Paired (TailH H) ps ts ∧ ts.length ≤ 30000 ∧
  (My.bestBehind (lowsOf st) ts x = none → Reads H Q .non) ∧ ∀ (p : Addr) (t : My.Tail), My.bestBehind (lowsOf st) ts x = some t → TailH H p t → Reads H Q (.ref p)
def fitP (L : List Kv365.Low) (x : Int) (z : List (Addr × My.Tail)) : List (Addr × My.Tail) := z.filter fun q => !My.skip L x q.2.first
theorem fitP_paired {H : Hp} {L : List Kv365.Low} {x : Int} {z : List (Addr × My.Tail)} (h : ∀ q ∈ z, TailH H q.1 q.2) : Paired (TailH H) ((fitP L x z).map (·.1)) ((fitP L x z).map (·.2)) := by
  unfold fitP
  induction z with
  | nil => exact .nil
  | cons q z ih =>
    have ih2 := ih fun r hr => h r (List.mem_cons_of_mem _ hr)
    rw [List.filter_cons]
    split
    · exact .cons (h q List.mem_cons_self) ih2
    · exact ih2
theorem fitP_snd (L : List Kv365.Low) (x : Int) : ∀ z : List (Addr × My.Tail), (fitP L x z).map (·.2) = My.fitting L (z.map (·.2)) x
  | [] => rfl
  | q :: z => by
    have ih := fitP_snd L x z
    unfold fitP My.fitting at *
    rw [List.filter_cons, List.map_cons, List.filter_cons]
    split
    · rw [List.map_cons, ih]
    · exact ih
theorem zip_at {α β : Type} {R : α → β → Prop} {l : List α} {m : List β} (h : Paired R l m) {i : Nat} {a : α} {b : β} (h1 : l[i]? = some a) (h2 : m[i]? = some b) : (l.zip m)[i]? = some (a, b) := by
  rw [List.getElem?_zip_eq_some]; exact ⟨h1, h2⟩
section
variable {P : Program} {w : World} {K : PySem.W.Frag} {mg : Str → Option Value} {base : Heap}
theorem scBest : FnScope ["ground", "tails", "station", "fitting", "tail"] ["ground", "tails", "station"] (defScope sBest) := ⟨rfl, rfl, rfl, by decide +kernel, rfl, by decide +kernel, by decide +kernel⟩
theorem ok_best {f Cg Cs fK : Addr} {fd fdK : FuncData} (F : Fun K "best_behind" "best_behind" sBest f fd) (B : TxtB mg) (T : TxtG K mg Cg) (gK : mg "is_skipped" = some (.ref fK)) (kK : PySem.W.keepIn K (.ref fK) = true) (GK : FnOk P w K mg base CX0 1 fK fdK ["stretches", "left", "right"] (spSkipped Cs K)) (bK : Binds K fdK ["stretches", "left", "right"] []) :
    FnOk P w K mg base CX0 2 f fd ["ground", "tails", "station"] (spBest Cg Cs K) := by
  refine F.ok scBest (fun vs H Q E h => ?_) (fun cdv A outer s H vs Q E hr h => ?_)
  · obtain ⟨g, tl, st, ps, ts, x, rfl, _⟩ := h
    rfl
  · obtain ⟨g, tl, st, ps, ts, x, rfl, ⟨r0, p0, t0, ss, G⟩, h8, hS, hP, hn, k1, k2⟩ := h
    obtain ⟨dx, hg⟩ := G.ins
    refine ⟨_, pss_cons (ps_setLc (i := 3) (own := [("tail", 4)]) rfl scBest.nd rfl rfl (sw_true rfl rfl rfl rfl) (pi_list (pv 1)) (blkOk_by (by show blkC ["ground", "tails", "station", "fitting", "tail"] (defScope sBest) _ _ = true; decide +kernel))
      (fun _ _ _ _ _ => pg_name (i := 4) scBest.nd rfl (Or.inl rfl)) (fun _ _ _ _ _ => pts_one (pt_not (pt_val (pe_call GK hr rfl gK kK bK .nil pass0 (pa_cons (pe_fldB (K := K) rfl (pv 0) rfl) (pa_cons (pv 2) (pa_cons (pe_ix (r := rIxT K) ix_tup (pv 4) pe_int (fun _ _ => rfl)) pa_nil))))))) (fun _ _ _ _ _ => pv 4))
      (pss_one (ps_ret (pe_minD rfl (Nat.lt_of_le_of_lt (Nat.add_le_add_left (by decide : 3 ≤ 64) _) hr.units) (by rfl) B.min (pa_cons (pv 3) pa_nil)))), ?_⟩
    refine ⟨_, rfl, tl, rfl, ⟨_, SqL.of hS⟩, fun D hD => ?_⟩
    obtain ⟨z1, z2⟩ := paired_zip hP
    have hpl := paired_len hP
    have lenz : (ps.zip ts).length = ps.length := by rw [List.length_zip, hpl, Nat.min_self]
    refine lc_list (K := K) (a := tl) (xs := ps.map V.ref) (fun i H' => H' D = some (.lst (((fitP (lowsOf st) x ((ps.zip ts).take i)).map (·.1)).map V.ref)) ∧ Same H H') ⟨upd_same, same_new hD⟩ (fun i H' _ ⟨_, q⟩ => SqL.of (q _ _ hS)) (fun i v H' hx ⟨q1, q2⟩ => ?_) fun H' ⟨q1, q2⟩ => ?_
    · obtain ⟨p, hp, rfl⟩ := refs_at hx
      obtain ⟨t, ht, rr, hp1, hp2⟩ := paired_get hP hp
      have hz := zip_at hP hp ht
      refine ⟨rfl, _, rfl, g, Cg, dx, _, _, rfl, q2 _ _ hg, T.cl, T.n3, gf_stretches _ _ _, _, rfl, _, rfl, p, _, _, _, rfl, rfl, SqT.of (q2 _ _ hp1), at_of (j := 2) rfl rfl, t0, ss, lowsOf st, x, (t.first : Int), rfl, SqL.of (q2 _ _ G.lo), paired_same q2 G.st, h8, fun H2 s2 => ⟨_, rfl, ?_⟩⟩
      have hlen : (((fitP (lowsOf st) x ((ps.zip ts).take i)).map (·.1)).map V.ref).length < sizeLine := by
        rw [List.length_map, List.length_map]
        refine small1000 (Nat.le_trans (List.length_filter_le _ _) ?_)
        rw [List.length_take, lenz, hpl]; omega
      have et : fitP (lowsOf st) x ((ps.zip ts).take (i + 1)) = if !My.skip (lowsOf st) x t.first then fitP (lowsOf st) x ((ps.zip ts).take i) ++ [(p, t)] else fitP (lowsOf st) x ((ps.zip ts).take i) := by
        unfold fitP
        rw [take_snoc hz, List.filter_append, List.filter_cons, List.filter_nil]
        split <;> simp
      cases e : My.skip (lowsOf st) x t.first with
      | false =>
        refine iteT ⟨_, rfl, ?_⟩
        rw [et, e, if_pos (by rfl), List.map_append, List.map_append]
        exact lc_add hD (s2 _ _ q1) (q2.trans s2) hlen _
      | true =>
        refine iteF ⟨?_, q2.trans s2⟩
        rw [et, e, if_neg (by intro z; cases z)]
        exact s2 _ _ q1
    · rw [List.length_map, ← lenz, List.take_length] at q1
      have hF := fitP_paired (L := lowsOf st) (x := x) (H := H') (z := ps.zip ts) fun q hq => TripH.same (z1 q hq) q2
      have e2 : (fitP (lowsOf st) x (ps.zip ts)).map (·.2) = My.fitting (lowsOf st) ts x := by rw [fitP_snd, z2]
      refine ⟨_, rfl, D, (fitP (lowsOf st) x (ps.zip ts)).map (·.1), ((fitP (lowsOf st) x (ps.zip ts)).map (·.2)).map t3, rfl, SqL.of q1, paired_t3 hF, ?_⟩
      have hF0 := fitP_paired (L := lowsOf st) (x := x) (H := H) (z := ps.zip ts) z1
      rcases min_tails hF0 with ⟨m1, m2⟩ | ⟨p, t, m1, m2, m3⟩
      · rw [m2]
        rw [e2] at m1
        exact k1 m1 H' q2
      · rw [m3]
        rw [e2] at m1
        exact k2 p t m1 m2 H' q2
end
end Cv
end
section
namespace Cv
open PySem PySem.Spec PyProof.Rows L2 HT
abbrev sLeast : Stmt := top 10
theorem for_rev {K : PySem.W.Frag} {a : Addr} {xs : List V} {g : TG} {tb : TS} {D : Ends} {σ : L2.St} {H : Hp} (Pv : Nat → L2.St → Hp → Prop) (h0 : Pv 0 σ H) (hl : ∀ i σ H, i ≤ xs.length → Pv i σ H → SqL K H a xs)
    (hs : ∀ i x σ H, xs.reverse[i]? = some x → Pv i σ H → g x σ H fun σ2 H2 => tb { D with nx := Pv (i + 1), ct := Pv (i + 1), bk := D.nx } σ2 H2) (hd : ∀ σ H, Pv xs.length σ H → D.nx σ H) :
    ∃ W : Nat → Nat → L2.St → Hp → Prop, (∃ m, W 0 m σ H) ∧ ∀ i m σ H, W i m σ H →
      ((Itv K a xs.length).stop i H ∧ D.nx σ H) ∨ ((Itv K a xs.length).go i H ∧ ∃ N : L2.St → Hp → Prop, (∀ σ' H', N σ' H' → ∃ m', m' < m ∧ W (i + 1) m' σ' H') ∧ ∀ x H', (Itv K a xs.length).yld i H x H' → g x σ H' fun σ2 H2 => tb { D with nx := N, ct := N, bk := D.nx } σ2 H2) := by
  refine ⟨fun i m σ H => m = xs.length - i ∧ i ≤ xs.length ∧ Pv i σ H, ⟨xs.length, by simp, Nat.zero_le _, h0⟩, ?_⟩
  rintro i m σ H ⟨rfl, hi, p⟩
  have q := hl i σ H hi p
  by_cases hlt : i < xs.length
  · have hr : ∀ x, xs[xs.length - 1 - i]? = some x → xs.reverse[i]? = some x := fun x e => by rw [List.getElem?_reverse hlt]; exact e
    refine .inr ⟨⟨hlt, xs, xs[xs.length - 1 - i], q, List.getElem?_eq_getElem (by omega)⟩, Pv (i + 1), fun σ' H' p' => ⟨xs.length - (i + 1), by omega, rfl, hlt, p'⟩, fun x H' y => ?_⟩
    obtain ⟨e, y⟩ := y
    subst e
    exact hs i x σ _ (hr x (y xs q)) p
  · have e : i = xs.length := by omega
    subst e
    exact .inl ⟨Nat.le_refl _, hd σ H p⟩
theorem natV_t3 (t : My.Tail) : ((t3 t).2.1.map V.int) = natV t.row := by
  show ((t.row.map fun (i : Nat) => (i : Int)).map V.int) = _
  rw [List.map_map]; rfl
theorem ne_refs {m : List Nat} {ps : List Addr} (h : ps ≠ []) : HO.lst (natV m) ≠ HO.lst (ps.map V.ref) := fun z => by
  injection z with z
  cases ps with
  | nil => exact h rfl
  | cons p ps =>
    cases m with
    | nil => cases z
    | cons x m => rw [show natV (x :: m) = V.int (x : Int) :: natV m from rfl, List.map_cons] at z; injection z with z1; cases z1
theorem TailH.put {H : Hp} {p tl : Addr} {t : My.Tail} {ps : List Addr} {o : HO} (h : TailH H p t) (hl : H tl = some (.lst (ps.map V.ref))) (hn : ps ≠ []) : TailH (upd H tl o) p t := by
  obtain ⟨r, h1, h2⟩ := h
  refine ⟨r, ?_, ?_⟩
  · rw [upd_ne (ne_of h1 hl (by intro z; cases z))]; exact h1
  · rw [natV_t3] at h2 ⊢
    rw [upd_ne (ne_of h2 hl (ne_refs hn))]; exact h2
def spLeast (Cg Cs : Addr) : PySem.W.Frag → Sp := fun K vs H Q _ => ∃ (g c : Addr) (a : Kv365.Abs) (costs : List Nat), vs = [.ref g, .ref c] ∧ Gnd Cg Cs H g (some a) ∧ My.Wf a ∧ SqL K H c (natV costs) ∧ costs.length = a.n ∧
  (My.leastRow a.lows a.n costs a.free = none → Reads H Q .non) ∧ ∀ t, My.leastRow a.lows a.n costs a.free = some t → ∀ (H' : Hp) (p r : Addr), Same H H' → H' p = some (.tup [.int (t.cost : Int), .ref r]) → H' r = some (.lst (natV t.row)) → Q (.ref p) H'
def tailsAt (a : Kv365.Abs) (costs : List Nat) (i : Nat) : List My.Tail := (a.free.reverse.take i).foldl (My.stepTails a.lows costs) [⟨0, [], a.n⟩]
theorem tailsAt_succ {a : Kv365.Abs} {costs : List Nat} {i : Nat} {s : Nat} (h : a.free.reverse[i]? = some s) : tailsAt a costs (i + 1) = My.stepTails a.lows costs (tailsAt a costs i) s := by
  unfold tailsAt
  rw [take_snoc h, List.foldl_append]; rfl
theorem stepTails_len (L : List Kv365.Low) (costs : List Nat) (ts : List My.Tail) (s : Nat) : (My.stepTails L costs ts s).length ≤ ts.length + 1 := by
  unfold My.stepTails
  split
  · exact Nat.le_succ _
  · rw [List.length_append]; exact Nat.le_refl _
theorem tails_len (L : List Kv365.Low) (costs : List Nat) : ∀ (l : List Nat) (ts : List My.Tail), (l.foldl (My.stepTails L costs) ts).length ≤ ts.length + l.length
  | [], ts => Nat.le_refl _
  | s :: l, ts => by
    rw [List.foldl_cons]
    have := tails_len L costs l (My.stepTails L costs ts s)
    have h2 := stepTails_len L costs ts s
    rw [List.length_cons]; omega
theorem tailsAt_len {a : Kv365.Abs} (W : My.Wf a) (costs : List Nat) (i : Nat) : (tailsAt a costs i).length ≤ 13 := by
  have := tails_len a.lows costs (a.free.reverse.take i) [⟨0, [], a.n⟩]
  have h1 : (a.free.reverse.take i).length ≤ a.n := by
    rw [List.length_take, List.length_reverse]
    exact Nat.le_trans (Nat.min_le_right _ _) (freeOf_len (st := some a))
  have := W.n12
  unfold tailsAt
  simp only [List.length_singleton] at *
  omega
theorem tailsAt_all (a : Kv365.Abs) (costs : List Nat) : tailsAt a costs a.free.length = My.allTails a.lows a.n costs a.free := by
  unfold tailsAt My.allTails
  rw [← List.length_reverse, List.take_length]
end Cv
end
section
namespace Cv
open PySem PySem.Spec PyProof.Rows L2 HT
section
variable {P : Program} {w : World} {K : PySem.W.Frag} {mg : Str → Option Value} {base : Heap}
theorem tailsAt_row {a : Kv365.Abs} (W : My.Wf a) {costs : List Nat} {i : Nat} {x : Int} {t : My.Tail} (h : My.bestBehind a.lows (tailsAt a costs i) x = some t) : t.row.length ≤ 12 := by
  have e : tailsAt a costs i = My.allTails a.lows a.n costs (a.free.reverse.take i).reverse := by
    unfold tailsAt My.allTails; rw [List.reverse_reverse]
  rw [e] at h
  have TO := My.allTails_ok a.lows a.n costs (a.free.reverse.take i).reverse
  have h1 := (TO.sub t (TO.best_some h).1).length_le
  rw [List.length_reverse, List.length_take, List.length_reverse] at h1
  have h2 := freeOf_len (st := some a)
  have h3 : a.free.length ≤ a.n := h2
  have := W.n12
  omega
theorem scLeast : FnScope ["ground", "costs", "tails", "site", "best", "whole"] ["ground", "costs"] (defScope sLeast) := ⟨rfl, rfl, rfl, by decide +kernel, rfl, by decide +kernel, by decide +kernel⟩
theorem ok_least {f Cg Cs fB fS : Addr} {fd fdB fdS : FuncData} (F : Fun K "least_row" "least_row" sLeast f fd) (B : TxtB mg) (T : TxtG K mg Cg) (gB : mg "best_behind" = some (.ref fB)) (kB : PySem.W.keepIn K (.ref fB) = true) (GB : FnOk P w K mg base CX0 2 fB fdB ["ground", "tails", "station"] (spBest Cg Cs K)) (bB : Binds K fdB ["ground", "tails", "station"] [])
    (GS : FnOk P w K mg base CX0 3 fS fdS ["self"] (spSites Cg Cs)) (bS : Binds K fdS ["self"] []) (mS : Meth K Cg "sites" fS) : FnOk P w K mg base CX0 4 f fd ["ground", "costs"] (spLeast Cg Cs K) := by
  refine F.ok scLeast (fun vs H Q E h => ?_) (fun cdv A outer s H vs Q E hr h => ?_)
  · obtain ⟨g, c, a, costs, rfl, _⟩ := h
    rfl
  · obtain ⟨g, c, a, costs, rfl, hG, W, hC, hcl, k1, k2⟩ := h
    obtain ⟨r0, p0, t0, ss, G⟩ := id hG
    obtain ⟨dx, hg⟩ := G.ins
    have hr2 : Room 2 _ := hr.mono (by decide)
    refine ⟨_, pss_cons (ps_set (i := 2) scLeast.nd rfl (Or.inl rfl) (pe_lst (pa_cons (pe_tup (pa_cons pe_int (pa_cons (pe_lst pa_nil) (pa_cons (pe_callB call_len_seq (by rfl) B.len PySem.boot_len (pa_cons (pe_fld (pv 0) rfl) pa_nil)) pa_nil)))) pa_nil)))
      (pss_cons (ps_for PassesOwn.never rfl (pi_reversed rfl B.reversed (pa_cons (pe_meth0 (pv 0) T.cl mS GS hr bS .nil pass0) pa_nil)) (pg_name (i := 3) scLeast.nd rfl (Or.inl rfl))
        (pss_cons (ps_set (i := 4) scLeast.nd rfl (Or.inl rfl) (pe_call GB hr2 rfl gB kB bB .nil pass0 (pa_cons (pv 0) (pa_cons (pv 2) (pa_cons (pv 3) pa_nil)))))
        (pss_one (ps_if (pt_cmp (pc_notN (pv 4))) (pss_one (ps_expr (pe_bm PySem.F.plainAttrs_list PySem.F.slot_list_append PySem.F.type_list_append mt_append (pv 2)
          (pa_cons (pe_tup (pa_cons (pe_op op_add (pe_ix ix_list (pv 1) (pv 3) (fun _ _ => rfl)) (pe_ix ix_tup (pv 4) pe_int (fun _ _ => rfl))) (pa_cons (pe_op op_cat (pe_lst (pa_cons (pv 3) pa_nil)) (pe_ix ix_tup (pv 4) pe_int (fun _ _ => rfl))) (pa_cons (pv 3) pa_nil)))) pa_nil)))) pss_nil))))
      (pss_cons (ps_set (i := 5) scLeast.nd rfl (Or.inl rfl) (pe_call GB hr2 rfl gB kB bB .nil pass0 (pa_cons (pv 0) (pa_cons (pv 2) (pa_cons (pe_un un_neg pe_int) pa_nil)))))
      (pss_one (ps_ret (pe_ifExp (pt_cmp (pc_isN (pv 5))) pe_non (pe_tup (pa_cons (pe_ix ix_tup (pv 5) pe_int (fun _ _ => rfl)) (pa_cons (pe_ix ix_tup (pv 5) pe_int (fun _ _ => rfl)) pa_nil)))))))), ?_⟩
    refine ⟨Nat.zero_le _, fun e0 he0 => ?_⟩
    have s0 : Same H (upd H e0 (.lst [])) := same_new he0
    refine ⟨_, rfl, g, Cg, dx, _, _, rfl, s0 _ _ hg, T.cl, T.n1, gf_rocky _ _ _, r0, _, rfl, .inl (SqL.of (s0 _ _ G.rk)), by show 3 ≤ sizeLine; rw [sizeLine_eq]; omega, fun q0 hq0 => ?_⟩
    have s1 := s0.trans (same_new (o := .tup [.int 0, .ref e0, .int (((rockyOf (some a)).map V.bl).length : Int)]) hq0)
    refine ⟨by show 1 ≤ sizeLine; rw [sizeLine_eq]; omega, fun tl htl => ?_⟩
    generalize hH1 : upd (upd (upd H e0 (.lst [])) q0 (.tup [.int 0, .ref e0, .int (((rockyOf (some a)).map V.bl).length : Int)])) tl (.lst [.ref q0]) = H1
    have s2 : Same H H1 := by rw [← hH1]; exact s1.trans (same_new htl)
    have nl : H tl = none := s1.free htl
    have qtl : q0 ≠ tl := fun z => by rw [← z, upd_same] at htl; cases htl
    have eq0 : e0 ≠ q0 := fun z => by rw [← z, upd_same] at hq0; cases hq0
    have etl : e0 ≠ tl := fun z => by rw [← z, upd_ne eq0, upd_same] at htl; cases htl
    have htl1 : H1 tl = some (.lst ([q0].map V.ref)) := by rw [← hH1]; exact upd_same
    have T0 : TailH H1 q0 ⟨0, [], a.n⟩ := by
      refine ⟨e0, ?_, ?_⟩
      · rw [← hH1, upd_ne qtl, upd_same, List.length_map, rockyOf_len]; rfl
      · rw [← hH1, upd_ne etl, upd_ne eq0, upd_same]; rfl
    refine ⟨_, rfl, g, dx, _, rfl, s2 _ _ hg, gf_no _ _ _ (by decide +kernel) (by decide +kernel) (by decide +kernel), g, some a, rfl, hG.same s2, W.n12, fun H2 L0 hL0 h2 s3 => ⟨L0, _, rfl, SqL.of h2, ?_⟩⟩
    refine for_rev (K := K) (a := L0) (xs := natV (freeOf (some a))) (fun i σ H' => ∃ (ps : List Addr) (v3 v4 : Option V), σ = [some (.ref g), some (.ref c), some (.ref tl), v3, v4, none] ∧ H' tl = some (.lst (ps.map V.ref)) ∧ ps ≠ [] ∧ Paired (TailH H') ps (tailsAt a costs i) ∧ Same H H' ∧ H' L0 = some (.lst (natV (freeOf (some a)))))
      ⟨[q0], none, none, rfl, s3 _ _ htl1, by simp, .cons (TripH.same T0 s3) .nil, s2.trans s3, h2⟩ (fun i σ H' _ ⟨_, _, _, _, _, _, _, _, h⟩ => SqL.of h) ?_ ?_
    · rintro i x σ H' hx ⟨ps, v3, v4, rfl, j1, j2, j3, j4, j5⟩
      have hx2 : (natV a.free.reverse)[i]? = some x := by
        unfold natV at hx ⊢; rw [List.map_reverse]; exact hx
      obtain ⟨sn, hs, rfl⟩ := natV_at hx2
      have hsn : sn ∈ a.free := List.mem_reverse.mp (List.mem_of_getElem? hs)
      have hsl : sn < costs.length := by rw [hcl]; exact (My.mem_free.mp hsn).1
      refine ⟨_, rfl, _, rfl, _, rfl, g, tl, some a, ps, tailsAt a costs i, (sn : Int), rfl, hG.same j4, W.ll, j1, j3, Nat.le_trans (tailsAt_len W costs i) (by decide), fun e H3 s5 => ?_, fun p t e ht H3 s5 => ?_⟩
      · -- none follows
        refine ⟨_, rfl, _, rfl, ?_⟩
        refine iteF ⟨ps, _, _, rfl, s5 _ _ j1, j2, ?_, j4.trans s5, s5 _ _ j5⟩
        have et : tailsAt a costs (i + 1) = tailsAt a costs i := by
          rw [tailsAt_succ hs]; unfold My.stepTails; rw [show My.bestBehind a.lows (tailsAt a costs i) sn = none from e]
        rw [et]
        exact paired_imp (fun _ _ z => TripH.same z s5) j3
      · -- one more tail
        obtain ⟨rr, ht1, ht2⟩ := ht
        have jc : (natV costs)[sn]? = some (V.int (costs.getD sn 0 : Nat)) := by
          unfold natV; rw [List.getElem?_map, List.getD_eq_getElem?_getD, List.getElem?_eq_getElem hsl]; rfl
        refine ⟨_, rfl, _, rfl, ?_⟩
        refine iteT ⟨_, rfl, .inl ⟨rfl, _, SqL.of (s5 _ _ j1)⟩, ?_⟩
        refine ⟨_, rfl, _, rfl, c, _, _, _, rfl, rfl, (j4.trans s5).seq hC, at_of (j := sn) rfl jc, _, rfl, p, _, _, _, rfl, rfl, SqT.of (s5 _ _ ht1), at_of (j := 0) rfl rfl, _, _, rfl, rfl, ?_⟩
        refine ⟨_, rfl, by show 1 ≤ sizeLine; rw [sizeLine_eq]; omega, fun l1 hl1 => ?_⟩
        have s6 : Same H3 (upd H3 l1 (.lst [.int (sn : Int)])) := same_new hl1
        refine ⟨_, rfl, p, _, _, _, rfl, rfl, SqT.of (s6 _ _ (s5 _ _ ht1)), at_of (j := 1) rfl rfl, l1, rr, _, _, rfl, rfl, upd_same, s6 _ _ (s5 _ _ ht2), ?_, fun l2 hl2 => ?_⟩
        · rw [natV_t3, natV_len]
          have := tailsAt_row W (show My.bestBehind a.lows (tailsAt a costs i) sn = some t from e)
          rw [sizeLine_eq]; show 1 + t.row.length ≤ _; omega
        · have s7 : Same H3 _ := s6.trans (same_new (o := .lst ([.int (sn : Int)] ++ (t3 t).2.1.map V.int)) hl2)
          refine ⟨_, rfl, by show 3 ≤ sizeLine; rw [sizeLine_eq]; omega, fun tp htp => ?_⟩
          generalize hH4 : upd (upd H3 l1 (.lst [.int (sn : Int)])) l2 (.lst ([.int (sn : Int)] ++ (t3 t).2.1.map V.int)) = H4 at s7 htp
          have l2H : H4 l2 = some (.lst ([.int (sn : Int)] ++ (t3 t).2.1.map V.int)) := by rw [← hH4]; exact upd_same
          generalize hH5 : upd H4 tp (.tup [.int ((costs.getD sn 0 : Nat) + (t3 t).1), .ref l2, .int (sn : Int)]) = H5
          have s8 : Same H3 H5 := by rw [← hH5]; exact s7.trans (same_new htp)
          have tl5 : H5 tl = some (.lst (ps.map V.ref)) := s8 _ _ (s5 _ _ j1)
          refine ⟨tl, _, _, rfl, rfl, tl5, ?_, ?_⟩
          · rw [List.length_map, paired_len j3]
            exact small1000 (Nat.le_trans (tailsAt_len W costs i) (by decide))
          · have et : tailsAt a costs (i + 1) = tailsAt a costs i ++ [⟨costs.getD sn 0 + t.cost, sn :: t.row, sn⟩] := by
              rw [tailsAt_succ hs]; unfold My.stepTails; rw [show My.bestBehind a.lows (tailsAt a costs i) sn = some t from e]
            have tn : TailH H5 tp ⟨costs.getD sn 0 + t.cost, sn :: t.row, sn⟩ := by
              refine ⟨l2, ?_, ?_⟩
              · rw [← hH5, upd_same]
                show some (HO.tup [.int ((costs.getD sn 0 : Nat) + (t.cost : Int)), .ref l2, .int (sn : Int)]) = some (HO.tup [.int ((costs.getD sn 0 + t.cost : Nat) : Int), .ref l2, .int (sn : Int)])
                rw [Int.natCast_add]
              · rw [← hH5, upd_ne (ne_of_none l2H htp)]; exact l2H
            refine ⟨ps ++ [tp], _, _, rfl, ?_, by simp, ?_, fun b o q => ?_, ?_⟩
            · rw [upd_same, List.map_append]; rfl
            · rw [et]
              exact paired_snoc (paired_imp (fun _ _ z => TailH.put (TripH.same z (s5.trans s8)) tl5 j2) j3) (TailH.put tn tl5 j2)
            · rw [upd_ne (ne_of_none q nl)]; exact (j4.trans (s5.trans s8)) b o q
            · rw [upd_ne (ne_of ((s5.trans s8) _ _ j5) tl5 (ne_refs j2))]; exact (s5.trans s8) _ _ j5
    · rintro σ H' ⟨ps, v3, v4, rfl, j1, j2, j3, j4, j5⟩
      rw [natV_len, show (freeOf (some a)).length = a.free.length from rfl, tailsAt_all] at j3
      refine ⟨_, rfl, _, rfl, _, rfl, g, tl, some a, ps, _, -1, rfl, hG.same j4, W.ll, j1, j3, ?_, fun e H3 s5 => ?_, fun p t e ht H3 s5 => ?_⟩
      · rw [← tailsAt_all]; exact Nat.le_trans (tailsAt_len W costs _) (by decide)
      · refine ⟨_, rfl, _, rfl, ?_⟩
        exact iteT (k1 e H3 (j4.trans s5))
      · obtain ⟨rr, ht1, ht2⟩ := ht
        refine ⟨_, rfl, _, rfl, ?_⟩
        refine iteF ⟨_, rfl, p, _, _, _, rfl, rfl, SqT.of (s5 _ _ ht1), at_of (j := 0) rfl rfl, _, rfl, p, _, _, _, rfl, rfl, SqT.of (s5 _ _ ht1), at_of (j := 1) rfl rfl, by show 2 ≤ sizeLine; rw [sizeLine_eq]; omega, fun tp htp => ?_⟩
        refine k2 t e _ tp rr ((j4.trans s5).trans (same_new htp)) upd_same ?_
        rw [upd_ne (ne_of_none (s5 _ _ ht2) htp), s5 _ _ ht2, natV_t3]
end
end Cv
end
section
namespace Cv
open PySem PySem.Spec PyProof.Rows L2 HT
abbrev sFewestRow : Stmt := top 11
abbrev sAreApart : Stmt := top 12
def spFewestRow (Cg Cs : Addr) : Sp := fun vs H Q _ => ∃ (g : Addr) (a : Kv365.Abs), vs = [.ref g] ∧ Gnd Cg Cs H g (some a) ∧ My.Wf a ∧ (a.fewest = none → Reads H Q .non) ∧ ∀ m, a.fewest = some m → ∀ (H' : Hp) (r : Addr), Same H H' → H' r = some (.lst (natV m)) → Q (.ref r) H'
def spAreApart (Cg Cs : Addr) : Sp := fun vs H Q _ => ∃ (g p1 p2 : Addr) (st : Kv365.State) (l1 l2 : Kv365.Low), vs = [.ref g, .ref p1, .ref p2] ∧ Gnd Cg Cs H g st ∧ stN st ≤ 12 ∧ StAt Cs H p1 l1 ∧ StAt Cs H p2 l2 ∧ Reads H Q (.bl (!((freeOf st).filter l2.has).any l1.has))
theorem rep_one (n : Nat) : (List.replicate n [V.int 1]).flatten = natV (List.replicate n 1) := by
  induction n with
  | zero => rfl
  | succ n ih => rw [List.replicate_succ, List.flatten_cons, ih, List.replicate_succ]; rfl
section
variable {P : Program} {w : World} {K : PySem.W.Frag} {mg : Str → Option Value} {base : Heap}
theorem scFewestRow : FnScope ["ground", "least"] ["ground"] (defScope sFewestRow) := ⟨rfl, rfl, rfl, by decide +kernel, rfl, by decide +kernel, by decide +kernel⟩
theorem ok_fewestRow {f Cg Cs fL : Addr} {fd fdL : FuncData} (F : Fun K "fewest_row" "fewest_row" sFewestRow f fd) (B : TxtB mg) (T : TxtG K mg Cg) (gL : mg "least_row" = some (.ref fL)) (kL : PySem.W.keepIn K (.ref fL) = true) (GL : FnOk P w K mg base CX0 4 fL fdL ["ground", "costs"] (spLeast Cg Cs K)) (bL : Binds K fdL ["ground", "costs"] []) :
    FnOk P w K mg base CX0 5 f fd ["ground"] (spFewestRow Cg Cs) := by
  refine F.ok scFewestRow (fun vs H Q E h => ?_) (fun cdv A outer s H vs Q E hr h => ?_)
  · obtain ⟨g, a, rfl, _⟩ := h
    rfl
  · obtain ⟨g, a, rfl, hG, W, k1, k2⟩ := h
    obtain ⟨r0, p0, t0, ss, G⟩ := id hG
    obtain ⟨dx, hg⟩ := G.ins
    have hn := W.n12
    refine ⟨_, pss_cons (ps_set (i := 1) scFewestRow.nd rfl (Or.inl rfl) (pe_call GL hr rfl gL kL bL .nil pass0 (pa_cons (pv 0) (pa_cons (pe_op op_rep (pe_lst (pa_cons pe_int pa_nil)) (pe_callB call_len_seq (by rfl) B.len PySem.boot_len (pa_cons (pe_fld (pv 0) rfl) pa_nil))) pa_nil))))
      (pss_one (ps_ret (pe_ifExp (pt_cmp (pc_isN (pv 1))) pe_non (pe_ix ix_tup (pv 1) pe_int (fun _ _ => rfl))))), ?_⟩
    refine ⟨_, rfl, by show 1 ≤ sizeLine; rw [sizeLine_eq]; omega, fun l1 hl1 => ?_⟩
    have s1 : Same H (upd H l1 (.lst [.int 1])) := same_new hl1
    have el : (((rockyOf (some a)).map V.bl).length : Int) = (a.n : Int) := by rw [List.length_map, rockyOf_len]; rfl
    refine ⟨_, rfl, g, Cg, dx, _, _, rfl, s1 _ _ hg, T.cl, T.n1, gf_rocky _ _ _, r0, _, rfl, .inl (SqL.of (s1 _ _ G.rk)), l1, _, _, rfl, rfl, upd_same, by rw [el]; omega, by rw [el]; omega, ?_, fun l2 hl2 => ?_⟩
    · rw [el, Int.toNat_natCast, sizeLine_eq]; show 1 * a.n ≤ _; omega
    · rw [el, Int.toNat_natCast, rep_one] at *
      have s2 : Same H _ := s1.trans (same_new (o := .lst (natV (List.replicate a.n 1))) hl2)
      have hf := My.leastRow_fewest (a := a) fun l hl => ⟨(W.lb l hl).1, (W.lb l hl).2.1⟩
      refine ⟨g, l2, a, List.replicate a.n 1, rfl, hG.same s2, W, SqL.of upd_same, List.length_replicate, fun e H3 s3 => ?_, fun t e H3 p r s3 hp hr3 => ?_⟩
      · refine ⟨_, rfl, _, rfl, iteT (k1 ?_ H3 (s2.trans s3))⟩
        rw [← hf, e]; rfl
      · refine ⟨_, rfl, _, rfl, iteF ⟨_, rfl, p, _, _, _, rfl, rfl, SqT.of hp, at_of (j := 1) rfl rfl, ?_⟩⟩
        exact k2 t.row (by rw [← hf, e]; rfl) H3 r (s2.trans s3) hr3
theorem scAreApart : FnScope ["ground", "one", "other"] ["ground", "one", "other"] (defScope sAreApart) := ⟨rfl, rfl, rfl, by decide +kernel, rfl, by decide +kernel, by decide +kernel⟩
theorem ok_areApart {f Cg Cs fO fS : Addr} {fd fdO fdS : FuncData} (F : Fun K "are_apart" "are_apart" sAreApart f fd) (T : TxtG K mg Cg) (gO : mg "has_one" = some (.ref fO)) (kO : PySem.W.keepIn K (.ref fO) = true) (GO : FnOk P w K mg base CX0 2 fO fdO ["stretch", "row"] (spHasOne Cs K)) (bO : Binds K fdO ["stretch", "row"] [])
    (GS : FnOk P w K mg base CX0 4 fS fdS ["self", "stretch"] (spSitesOf Cg Cs)) (bS : Binds K fdS ["self", "stretch"] []) (mS : Meth K Cg "sites_of" fS) : FnOk P w K mg base CX0 5 f fd ["ground", "one", "other"] (spAreApart Cg Cs) := by
  refine F.ok scAreApart (fun vs H Q E h => ?_) (fun cdv A outer s H vs Q E hr h => ?_)
  · obtain ⟨g, p1, p2, st, l1, l2, rfl, _⟩ := h
    rfl
  · obtain ⟨g, p1, p2, st, l1, l2, rfl, hG, h12, hp1, hp2, k⟩ := h
    obtain ⟨r0, p0, t0, ss, G⟩ := id hG
    obtain ⟨dx, hg⟩ := G.ins
    refine ⟨_, pss_one (ps_ret (pe_not (pe_call GO (hr.mono (by decide)) rfl gO kO bO .nil pass0 (pa_cons (pv 1) (pa_cons (pe_meth (pv 0) T.cl mS GS hr bS .nil pass0 (pa_cons (pv 2) pa_nil)) pa_nil))))), ?_⟩
    refine ⟨_, rfl, _, rfl, g, dx, _, rfl, hg, gf_no _ _ _ (by decide +kernel) (by decide +kernel) (by decide +kernel), _, rfl, g, p2, st, l2, rfl, hG, h12, hp2, fun H1 D hD h1 s1 => ?_⟩
    refine ⟨p1, D, l1, (freeOf st).filter l2.has, rfl, hp1.same s1, SqL.of h1, ?_, fun H2 s2 => ⟨_, rfl, k H2 (s1.trans s2)⟩⟩
    exact Nat.le_trans (List.length_filter_le _ _) (Nat.le_trans freeOf_len (by omega))
end
end Cv
end
section
namespace Cv
open PySem PySem.Spec PyProof.Rows L2 HT
abbrev sApart : Stmt := top 13
theorem Tab.ne {H : Hp} {Pt b : Addr} {u : HO} (hT : Tab H Pt) (e : H b = some u) (d : ∀ ps, u ≠ .tbl ps) : b ≠ Pt := fun z => by
  subst z
  rcases hT with q | ⟨_, q, _⟩
  · rw [e] at q; exact d _ (Option.some.inj q)
  · rw [e] at q; exact d _ (Option.some.inj q)
def KeptBut (x : Addr) (H H' : Hp) : Prop := ∀ b o, b ≠ x → H b = some o → H' b = some o
theorem Tab.but {H H' : Hp} {Pt x : Addr} {xs : List V} (hT : Tab H Pt) (hx : H x = some (.lst xs)) (k : KeptBut x H H') : Tab H' Pt := by
  rcases hT with q | ⟨c1, q1, q2⟩
  · exact .inl (k _ _ (ne_of q hx (by intro z; cases z)) q)
  · exact .inr ⟨c1, k _ _ (ne_of q1 hx (by intro z; cases z)) q1, k _ _ (ne_of q2 hx (by intro z; unfold codeAtHO at z; cases z)) q2⟩
theorem Tab.same {H H' : Hp} {Pt : Addr} (hT : Tab H Pt) (s : Same H H') : Tab H' Pt := by
  rcases hT with q | ⟨c1, q1, q2⟩
  · exact .inl (s _ _ q)
  · exact .inr ⟨c1, s _ _ q1, s _ _ q2⟩
theorem GAt.kept {Cg Cs : Addr} {H H' : Hp} {g : Addr} {st : Kv365.State} {r p t x : Addr} {ss : List Addr} (h : GAt Cg Cs H g st r p t ss) (n1 : g ≠ x) (n2 : r ≠ x) (n3 : p ≠ x) (n4 : t ≠ x) (n5 : ∀ q l, StAt Cs H q l → q ≠ x) (k : KeptBut x H H') : GAt Cg Cs H' g st r p t ss :=
  let ⟨dx, e⟩ := h.ins
  ⟨⟨dx, k _ _ n1 e⟩, k _ _ n2 h.rk, k _ _ n3 h.pr, k _ _ n4 h.lo, paired_imp (fun q l z => let ⟨d, e⟩ := z; ⟨d, k _ _ (n5 q l z) e⟩) h.st, h.nd, h.rp⟩
theorem GAt.tab {Cg Cs : Addr} {H H' : Hp} {g : Addr} {st : Kv365.State} {r p t Pt : Addr} {ss : List Addr} (h : GAt Cg Cs H g st r p t ss) (hT : Tab H Pt) (k : Kept Pt H H') : GAt Cg Cs H' g st r p t ss :=
  let ⟨dx, e⟩ := h.ins
  h.kept (hT.ne e fun ps z => by cases z) (hT.ne h.rk fun ps z => by cases z) (hT.ne h.pr fun ps z => by cases z) (hT.ne h.lo fun ps z => by cases z) (fun q l z => let ⟨d, e⟩ := z; hT.ne e fun ps z => by cases z) k
def spApart (Cg Cs Pt : Addr) : Sp := fun vs H Q _ => ∃ (g : Addr) (a : Kv365.Abs), vs = [.ref g] ∧ Gnd Cg Cs H g (some a) ∧ My.Wf a ∧ Tab H Pt ∧ ∀ (H' : Hp) (D : Addr), H' D = some (.lst (natV a.apart)) → H D = none → Kept Pt H H' → Tab H' Pt → Q (.ref D) H'
def apartAt (a : Kv365.Abs) (i : Nat) : List Nat := (a.byEnd.take i).foldl (My.apartStep a) []
theorem apartAt_succ {a : Kv365.Abs} {i n : Nat} (h : a.byEnd[i]? = some n) : apartAt a (i + 1) = My.apartStep a (apartAt a i) n := by
  unfold apartAt; rw [take_snoc h, List.foldl_append]; rfl
theorem apart_sub (a : Kv365.Abs) : ∀ (l t : List Nat), (∀ j ∈ l, j < a.lows.length) → (∀ j ∈ t, j < a.lows.length) → ∀ j ∈ l.foldl (My.apartStep a) t, j < a.lows.length
  | [], t, _, ht => ht
  | n :: l, t, hl, ht => by
    rw [List.foldl_cons]
    refine apart_sub a l _ (fun j hj => hl j (List.mem_cons_of_mem _ hj)) fun j hj => ?_
    unfold My.apartStep at hj
    split at hj
    · rcases List.mem_append.mp hj with z | z
      · exact ht j z
      · rw [List.mem_singleton.mp z]; exact hl n List.mem_cons_self
    · exact ht j hj
theorem apartAt_lt {a : Kv365.Abs} {i j : Nat} (h : j ∈ apartAt a i) : j < a.lows.length :=
  apart_sub a _ [] (fun k hk => My.mem_byEnd.mp (List.mem_of_mem_take hk)) (fun _ z => (nomatch z)) j h
theorem apart_len (a : Kv365.Abs) : ∀ (l t : List Nat), (l.foldl (My.apartStep a) t).length ≤ t.length + l.length
  | [], t => Nat.le_refl _
  | n :: l, t => by
    rw [List.foldl_cons]
    have h1 := apart_len a l (My.apartStep a t n)
    have h2 : (My.apartStep a t n).length ≤ t.length + 1 := by
      unfold My.apartStep
      split
      · rw [List.length_append]; exact Nat.le_refl _
      · exact Nat.le_succ _
    rw [List.length_cons]; omega
theorem apartAt_len {a : Kv365.Abs} (W : My.Wf a) (i : Nat) : (apartAt a i).length ≤ 8 := by
  have := apart_len a (a.byEnd.take i) []
  rw [List.length_take, My.byEnd_length] at this
  have := W.ll
  unfold apartAt
  simp only [List.length_nil] at *
  omega
theorem apartAt_all (a : Kv365.Abs) : apartAt a a.byEnd.length = a.apart := by
  unfold apartAt; rw [List.take_length]; rfl
theorem stretch_at {Cs : Addr} {H : Hp} {ss : List Addr} {a : Kv365.Abs} (h : Paired (StAt Cs H) ss a.lows) {i : Nat} (hi : i < a.lows.length) : ∃ p, (ss.map V.ref)[i]? = some (V.ref p) ∧ StAt Cs H p (a.low i) := by
  have hl := paired_len h
  have hi2 : i < ss.length := by omega
  obtain ⟨l, h1, h2⟩ := paired_get h (List.getElem?_eq_getElem hi2)
  exact ⟨ss[i], by rw [List.getElem?_map, List.getElem?_eq_getElem hi2]; rfl, by rw [My.low_at h1]; exact h2⟩
section
variable {P : Program} {w : World} {K : PySem.W.Frag} {mg : Str → Option Value} {base : Heap}
theorem scApart : FnScope ["ground", "stretches", "taken", "number", "other"] ["ground"] (defScope sApart) := ⟨rfl, rfl, rfl, by decide +kernel, rfl, by decide +kernel, by decide +kernel⟩
theorem ok_apart {f Cg Cs Pt fE fA : Addr} {fd fdE fdA : FuncData} (F : Fun K "apart_numbers" "apart_numbers" sApart f fd) (B : TxtB mg) (T : TxtG K mg Cg) (gE : mg "by_ends" = some (.ref fE)) (kE : PySem.W.keepIn K (.ref fE) = true) (GE : FnOk P w K mg base CX0 1 fE fdE ["stretches"] (spByEnds Cs Pt K)) (bE : Binds K fdE ["stretches"] [])
    (gA : mg "are_apart" = some (.ref fA)) (kA : PySem.W.keepIn K (.ref fA) = true) (GA : FnOk P w K mg base CX0 5 fA fdA ["ground", "one", "other"] (spAreApart Cg Cs)) (bA : Binds K fdA ["ground", "one", "other"] []) : FnOk P w K mg base CX0 6 f fd ["ground"] (spApart Cg Cs Pt) := by
  refine F.ok scApart (fun vs H Q E h => ?_) (fun cdv A outer s H vs Q E hr h => ?_)
  · obtain ⟨g, a, rfl, _⟩ := h
    rfl
  · obtain ⟨g, a, rfl, ⟨r0, p0, t0, ss, G⟩, W, hT, k⟩ := h
    obtain ⟨dx, hg⟩ := G.ins
    refine ⟨_, pss_cons (ps_set (i := 1) scApart.nd rfl (Or.inr rfl) (pe_fld (pv 0) rfl)) (pss_cons (ps_set (i := 2) scApart.nd rfl (Or.inl rfl) (pe_lst pa_nil))
      (pss_cons (ps_for PassesOwn.never rfl (pi_list (pe_call GE (hr.mono (by decide)) rfl gE kE bE .nil pass0 (pa_cons (pv 1) pa_nil))) (pg_name (i := 3) scApart.nd rfl (Or.inr rfl))
        (pss_one (ps_if (pt_val (pe_callB (cr_all rfl) (by rfl) B.all PyProof.Rows.boot_all (pa_cons (pe_lc (own := [("other", 4)]) rfl scApart.nd (pi_list (pv 2)) (blkOk_by (by show blkC ["ground", "stretches", "taken", "number", "other"] (defScope sApart) _ _ = true; decide +kernel))
          (fun _ _ _ _ _ => pg_name (i := 4) scApart.nd rfl (Or.inl rfl)) (fun _ _ _ _ _ => pts_nil)
          (fun _ _ _ _ _ => pe_call GA hr rfl gA kA bA .nil pass0 (pa_cons (pv 0) (pa_cons (pe_ix (r := rIxL K) ix_list (pv 1) (pv 3) (fun _ _ => rfl)) (pa_cons (pe_ix (r := rIxL K) ix_list (pv 1) (pv 4) (fun _ _ => rfl)) pa_nil))))) pa_nil)))
          (pss_one (ps_expr (pe_bm PySem.F.plainAttrs_list PySem.F.slot_list_append PySem.F.type_list_append mt_append (pv 2) (pa_cons (pv 3) pa_nil)))) pss_nil)))
      (pss_one (ps_ret (pv 2))))), ?_⟩
    refine ⟨_, rfl, g, Cg, dx, _, _, rfl, hg, T.cl, T.n3, gf_stretches _ _ _, Nat.zero_le _, fun tk htk => ?_⟩
    have s1 : Same H (upd H tk (.lst [])) := same_new htk
    refine ⟨_, rfl, t0, ss, a, rfl, s1 _ _ G.lo, paired_same s1 G.st, W.ll, hT.same s1, fun H1 L0 hL0 h1 k1 hT1 => ⟨L0, rfl, ⟨_, SqL.of h1⟩, ?_⟩⟩
    have tk1 : H1 tk = some (.lst []) := k1 _ _ ((hT.same s1).ne upd_same fun ps z => by cases z) upd_same
    have nL : L0 ≠ tk := fun z => by rw [z, upd_same] at hL0; cases hL0
    have hL0H : H L0 = none := s1.free hL0
    have G1 := (G.same s1).tab (hT.same s1) k1
    refine for_list (K := K) (a := L0) (xs := natV a.byEnd) (fun i σ H' => ∃ v3, σ = [some (.ref g), some (.ref t0), some (.ref tk), v3, none] ∧ H' tk = some (.lst (natV (apartAt a i))) ∧ KeptBut tk H1 H') ⟨none, rfl, tk1, fun _ _ _ e => e⟩ (fun i σ H' _ ⟨_, _, _, h⟩ => SqL.of (h _ _ nL h1)) ?_ ?_
    · rintro i x σ H' hx ⟨v3, rfl, j1, j2⟩
      obtain ⟨n, hn, rfl⟩ := natV_at hx
      have hnl : n < a.lows.length := My.mem_byEnd.mp (List.mem_of_getElem? hn)
      have G2 := G1.kept (ne_of_none hg htk) (ne_of_none G.rk htk) (ne_of_none G.pr htk) (ne_of_none G.lo htk) (fun q l ⟨d, e⟩ => ne_of e tk1 (by intro z; cases z)) j2
      obtain ⟨pn, gn, stn⟩ := stretch_at G2.st hnl
      refine ⟨_, rfl, tk, rfl, ⟨_, SqL.of j1⟩, fun D hD => ?_⟩
      refine lc_list (K := K) (a := tk) (xs := natV (apartAt a i)) (fun m H2 => H2 D = some (.lst ((((apartAt a i).take m).map fun j => a.parted j n).map V.bl)) ∧ Same H' H2) ⟨upd_same, same_new hD⟩ (fun m H2 _ ⟨_, q⟩ => SqL.of (q _ _ j1)) (fun m v H2 hv ⟨q1, q2⟩ => ?_) fun H2 ⟨q1, q2⟩ => ?_
      · obtain ⟨o, ho, rfl⟩ := natV_at hv
        have hol : o < a.lows.length := apartAt_lt (List.mem_of_getElem? ho)
        obtain ⟨po, go, sto⟩ := stretch_at G2.st hol
        refine ⟨rfl, yesT ⟨_, rfl, _, rfl, _, rfl, t0, _, _, _, rfl, rfl, SqL.of (q2 _ _ G2.lo), at_of (j := n) rfl gn, _, rfl, _, rfl, t0, _, _, _, rfl, rfl, SqL.of (q2 _ _ G2.lo), at_of (j := o) rfl go, g, pn, po, some a, a.low n, a.low o, rfl, ⟨_, _, _, _, G2.same q2⟩, W.n12, stn.same q2, sto.same q2, fun H3 s3 => ?_⟩⟩
        have e2 : (!((freeOf (some a)).filter (a.low o).has).any (a.low n).has) = a.parted o n := (My.parted_eq a n o).symm
        rw [e2, take_snoc ho, List.map_append, List.map_append]
        exact lc_add hD (s3 _ _ q1) (q2.trans s3) (by rw [List.length_map, List.length_map, List.length_take]; exact small1000 (Nat.le_trans (Nat.min_le_right _ _) (Nat.le_trans (apartAt_len W i) (by decide)))) _
      · rw [natV_len, List.take_length] at q1
        have ea : ((apartAt a i).map fun j => a.parted j n).all id = (apartAt a i).all fun j => a.parted j n := by rw [List.all_map]; rfl
        refine ⟨D, _, rfl, SqL.of q1, _, rfl, ?_⟩
        rw [ea]
        have es := apartAt_succ hn
        unfold My.apartStep at es
        cases e : (apartAt a i).all fun j => a.parted j n with
        | true =>
          rw [e, if_pos rfl] at es
          refine iteT ⟨_, rfl, .inl ⟨rfl, _, SqL.of (q2 _ _ j1)⟩, _, rfl, tk, _, _, rfl, rfl, q2 _ _ j1, by rw [natV_len]; exact small1000 (Nat.le_trans (apartAt_len W i) (by decide)), _, rfl, ?_, fun b u hb q => ?_⟩
          · rw [upd_same, es]; unfold natV; rw [List.map_append]; rfl
          · rw [upd_ne hb]; exact q2 _ _ (j2 b u hb q)
        | false =>
          rw [e, if_neg Bool.false_ne_true] at es
          exact iteF ⟨_, rfl, by rw [es]; exact q2 _ _ j1, fun b u hb q => q2 _ _ (j2 b u hb q)⟩
    · rintro σ H' ⟨v3, rfl, j1, j2⟩
      rw [natV_len, apartAt_all] at j1
      refine ⟨_, rfl, k H' tk j1 htk (fun b o hb e => j2 b o (ne_of_none e htk) (k1 b o hb (s1 b o e))) (hT1.but tk1 j2)⟩
end
end Cv
end
section
namespace L2
open PySem PySem.Spec PyProof.Rows
def rIxN (K : PySem.W.Frag) : V → V → Hp → VK → Prop := fun x y H Q => ∃ (p : Addr) (xs : List V) (i : Nat) (v : V), x = .ref p ∧ y = .int (i : Int) ∧ SqL K H p xs ∧ xs[i]? = some v ∧ Q v H
theorem get_listN {X : Cx} : PGet X (rIxN X.K) := by
  intro pins s σ H o i ov iv Q I ro ri h
  obtain ⟨p, xs, j, v, rfl, rfl, hq, hv, q⟩ := h
  cases ro
  obtain ⟨t, rfl⟩ := ri
  obtain ⟨its, r, pl, hz⟩ := I.list hq
  obtain ⟨u, eu, ru⟩ := r.get hv
  have hlt : j < xs.length := (List.getElem?_eq_some_iff.mp hv).1
  have hn := line63
  exact getItem_listL pl.isList (by omega) (by omega) (by rw [Int.toNat_natCast]; exact eu) ⟨v, H, I, ru, q⟩
end L2
namespace Cv
open PySem PySem.Spec PyProof.Rows L2 HT
abbrev sPay : Stmt := top 14
theorem foldl_min_mem : ∀ (l : List Nat) (x : Nat), l.foldl min x ∈ x :: l ∧ ∀ y ∈ x :: l, l.foldl min x ≤ y
  | [], x => ⟨List.mem_cons_self, fun y hy => by rw [List.mem_singleton.mp hy]; exact Nat.le_refl _⟩
  | z :: l, x => by
    obtain ⟨h1, h2⟩ := foldl_min_mem l (min x z)
    rw [List.foldl_cons]
    refine ⟨?_, fun y hy => ?_⟩
    · rcases List.mem_cons.mp h1 with e | e
      · rw [e]
        by_cases q : x ≤ z
        · rw [Nat.min_eq_left q]; exact List.mem_cons_self
        · rw [Nat.min_eq_right (by omega)]; exact List.mem_cons_of_mem _ List.mem_cons_self
      · exact List.mem_cons_of_mem _ (List.mem_cons_of_mem _ e)
    · have hm := h2 (min x z) List.mem_cons_self
      rcases List.mem_cons.mp hy with e | e
      · rw [e]; exact Nat.le_trans hm (Nat.min_le_left _ _)
      · rcases List.mem_cons.mp e with e | e
        · rw [e]; exact Nat.le_trans hm (Nat.min_le_right _ _)
        · exact h2 y (List.mem_cons_of_mem _ e)
theorem minN_mem {l : List Nat} (h : l ≠ []) : My.minN l ∈ l ∧ ∀ y ∈ l, My.minN l ≤ y := by
  cases l with
  | nil => exact absurd rfl h
  | cons x l => exact foldl_min_mem l x
theorem min_is {l : List Nat} (h : l ≠ []) {m : Int} (h1 : m ∈ l.map fun (i : Nat) => (i : Int)) (h2 : ∀ y ∈ l.map (fun (i : Nat) => (i : Int)), m ≤ y) : m = (My.minN l : Nat) := by
  obtain ⟨k1, k2⟩ := minN_mem h
  obtain ⟨i, hi, rfl⟩ := List.mem_map.mp h1
  have q1 := k2 i hi
  have q2 := h2 _ (List.mem_map.mpr ⟨_, k1, rfl⟩)
  omega
theorem rep_zero (n : Nat) : (List.replicate n [V.int 0]).flatten = natV (List.replicate n 0) := by
  induction n with
  | zero => rfl
  | succ n ih => rw [List.replicate_succ, List.flatten_cons, ih, List.replicate_succ]; rfl
def payAt (a : Kv365.Abs) (i : Nat) : List Nat × List Nat := (a.byEnd.take i).foldl (My.payStep a) (a.price, List.replicate a.lows.length 0)
theorem payAt_succ {a : Kv365.Abs} {i n : Nat} (h : a.byEnd[i]? = some n) : payAt a (i + 1) = My.payStep a (payAt a i) n := by
  unfold payAt; rw [take_snoc h, List.foldl_append]; rfl
theorem pay_lens (a : Kv365.Abs) : ∀ (l : List Nat) (st : List Nat × List Nat), (l.foldl (My.payStep a) st).1.length = st.1.length ∧ (l.foldl (My.payStep a) st).2.length = st.2.length
  | [], st => ⟨rfl, rfl⟩
  | n :: l, st => by
    rw [List.foldl_cons]
    obtain ⟨h1, h2⟩ := pay_lens a l (My.payStep a st n)
    refine ⟨h1.trans ?_, h2.trans ?_⟩
    · show ((a.free.filter (a.low n).has).foldl (My.lessAt _) st.1).length = _
      exact My.lessAt_fold_length _ _ _
    · show (st.2.set n _).length = _
      exact List.length_set
theorem payAt_len {a : Kv365.Abs} (W : My.Wf a) (i : Nat) : (payAt a i).1.length = a.n ∧ (payAt a i).2.length = a.lows.length := by
  obtain ⟨h1, h2⟩ := pay_lens a (a.byEnd.take i) (a.price, List.replicate a.lows.length 0)
  exact ⟨h1.trans W.pl, h2.trans List.length_replicate⟩
theorem natV_set (l : List Nat) (i x : Nat) : (natV l).set i (V.int (x : Int)) = natV (l.set i x) := by
  unfold natV; rw [List.map_set]
theorem natV_get {l : List Nat} {i : Nat} (h : i < l.length) : (natV l)[i]? = some (V.int (l.getD i 0 : Nat)) := by
  unfold natV; rw [List.getElem?_map, List.getD_eq_getElem?_getD, List.getElem?_eq_getElem h]; rfl
theorem ixN_nat {n i : Nat} (h : i < n) : ixN n (i : Int) = some i := by
  unfold ixN
  rw [if_pos (by omega)]
  simp [h]
def spPay (Cg Cs Pt : Addr) : Sp := fun vs H Q _ => ∃ (g : Addr) (a : Kv365.Abs), vs = [.ref g] ∧ Gnd Cg Cs H g (some a) ∧ My.Wf a ∧ a.hits a.free = true ∧ Tab H Pt ∧ ∀ (H' : Hp) (D : Addr), H' D = some (.lst (natV a.paid)) → H D = none → Kept Pt H H' → Tab H' Pt → Q (.ref D) H'
section
variable {P : Program} {w : World} {K : PySem.W.Frag} {mg : Str → Option Value} {base : Heap}
theorem scPay : FnScope ["ground", "left", "paid", "number", "sites", "site"] ["ground"] (defScope sPay) := ⟨rfl, rfl, rfl, by decide +kernel, rfl, by decide +kernel, by decide +kernel⟩
theorem ok_pay {f Cg Cs Pt fE fS : Addr} {fd fdE fdS : FuncData} (F : Fun K "payments" "payments" sPay f fd) (B : TxtB mg) (T : TxtG K mg Cg) (gE : mg "by_ends" = some (.ref fE)) (kE : PySem.W.keepIn K (.ref fE) = true) (GE : FnOk P w K mg base CX0 1 fE fdE ["stretches"] (spByEnds Cs Pt K)) (bE : Binds K fdE ["stretches"] [])
    (GS : FnOk P w K mg base CX0 4 fS fdS ["self", "stretch"] (spSitesOf Cg Cs)) (bS : Binds K fdS ["self", "stretch"] []) (mS : Meth K Cg "sites_of" fS) : FnOk P w K mg base CX0 5 f fd ["ground"] (spPay Cg Cs Pt) := by
  refine F.ok scPay (fun vs H Q E h => ?_) (fun cdv A outer s H vs Q E hr h => ?_)
  · obtain ⟨g, a, rfl, _⟩ := h
    rfl
  · obtain ⟨g, a, rfl, ⟨r0, p0, t0, ss, G⟩, W, hh, hT, k⟩ := h
    obtain ⟨dx, hg⟩ := G.ins
    refine ⟨_, pss_cons (ps_set (i := 1) scPay.nd rfl (Or.inr rfl) (pe_callTy call_list_of (by rfl) B.list PyProof.Rows.boot_list (pa_cons (pe_fld (pv 0) rfl) pa_nil)))
      (pss_cons (ps_set (i := 2) scPay.nd rfl (Or.inl rfl) (pe_op op_rep (pe_lst (pa_cons pe_int pa_nil)) (pe_callB call_len_seq (by rfl) B.len PySem.boot_len (pa_cons (pe_fld (pv 0) rfl) pa_nil))))
      (pss_cons (ps_for PassesOwn.never rfl (pi_list (pe_call GE (hr.mono (by decide)) rfl gE kE bE .nil pass0 (pa_cons (pe_fld (pv 0) rfl) pa_nil))) (pg_name (i := 3) scPay.nd rfl (Or.inl rfl))
        (pss_cons (ps_set (i := 4) scPay.nd rfl (Or.inl rfl) (pe_meth (pv 0) T.cl mS GS hr bS .nil pass0 (pa_cons (pe_ix ix_list (pe_fld (pv 0) rfl) (pv 3) (fun _ _ => rfl)) pa_nil)))
        (pss_cons (ps_asg (pe_callB (cr_min rfl) (by rfl) B.min PyProof.Rows.boot_min (pa_cons (pe_lc (own := [("site", 5)]) rfl scPay.nd (pi_list (pv 4)) (blkOk_by (by show blkC ["ground", "left", "paid", "number", "sites", "site"] (defScope sPay) _ _ = true; decide +kernel))
            (fun _ _ _ _ _ => pg_name (i := 5) scPay.nd rfl (Or.inl rfl)) (fun _ _ _ _ _ => pts_nil) (fun _ _ _ _ _ => pe_ix (r := rIxL K) ix_list (pv 1) (pv 5) (fun _ _ => rfl))) pa_nil)) (pg_sub (pv 2) (pv 3) set_list))
        (pss_one (ps_for PassesOwn.never rfl (pi_list (pv 4)) (pg_name (i := 5) scPay.nd rfl (Or.inl rfl)) (pss_one (ps_augS (pv 1) (pv 5) get_listN (pe_ix ix_list (pv 2) (pv 3) (fun _ _ => rfl)) ip_sub set_list)))))))
      (pss_one (ps_ret (pv 2))))), ?_⟩
    have hn12 := W.n12
    have hl8 := W.ll
    have el : ((ss.map V.ref).length : Int) = (a.lows.length : Int) := by rw [List.length_map, paired_len G.st]; rfl
    refine ⟨_, rfl, g, Cg, dx, _, _, rfl, hg, T.cl, T.n2, gf_prices _ _ _, p0, _, rfl, .inl (SqL.of G.pr), fun lf hlf => ?_⟩
    have s1 : Same H (upd H lf (.lst (natV (priceOf (some a))))) := same_new hlf
    refine ⟨by show 1 ≤ sizeLine; rw [sizeLine_eq]; omega, fun l1 hl1 => ?_⟩
    have s2 := s1.trans (same_new (o := .lst [.int 0]) hl1)
    refine ⟨_, rfl, g, Cg, dx, _, _, rfl, s2 _ _ hg, T.cl, T.n3, gf_stretches _ _ _, t0, _, rfl, .inl (SqL.of (s2 _ _ G.lo)), l1, _, _, rfl, rfl, upd_same, by rw [el]; omega, by rw [el]; omega, ?_, fun pd hpd => ?_⟩
    · rw [el, Int.toNat_natCast, sizeLine_eq]; show 1 * a.lows.length ≤ _; omega
    · rw [el, Int.toNat_natCast, rep_zero]
      have lf2 : upd (upd H lf (.lst (natV (priceOf (some a))))) l1 (.lst [.int 0]) lf = some (.lst (natV (priceOf (some a)))) := by
        rw [upd_ne (ne_of_none upd_same hl1)]; exact upd_same
      generalize hH2 : upd (upd H lf (.lst (natV (priceOf (some a))))) l1 (.lst [.int 0]) = H2 at s2 hpd lf2
      have nlp : lf ≠ pd := ne_of_none lf2 hpd
      have hpdH : H pd = none := s2.free hpd
      have s3 : Same H (upd H2 pd (.lst (natV (List.replicate a.lows.length 0)))) := s2.trans (same_new hpd)
      generalize hH3 : upd H2 pd (.lst (natV (List.replicate a.lows.length 0))) = H3 at s3
      have pd3 : H3 pd = some (.lst (natV (List.replicate a.lows.length 0))) := by rw [← hH3]; exact upd_same
      have lf3 : H3 lf = some (.lst (natV (priceOf (some a)))) := by rw [← hH3, upd_ne nlp]; exact lf2
      have hT3 := hT.same s3
      refine ⟨_, rfl, g, Cg, dx, _, _, rfl, s3 _ _ hg, T.cl, T.n3, gf_stretches _ _ _, t0, ss, a, rfl, s3 _ _ G.lo, paired_same s3 G.st, W.ll, hT3, fun H4 L0 hL0 h4 k4 hT4 => ⟨L0, rfl, ⟨_, SqL.of h4⟩, ?_⟩⟩
      have lf4 : H4 lf = some (.lst (natV (priceOf (some a)))) := k4 _ _ (hT3.ne lf3 fun ps z => by cases z) lf3
      have pd4 : H4 pd = some (.lst (natV (List.replicate a.lows.length 0))) := k4 _ _ (hT3.ne pd3 fun ps z => by cases z) pd3
      have nL1 : L0 ≠ lf := Ne.symm (ne_of_none lf3 hL0)
      have nL2 : L0 ≠ pd := Ne.symm (ne_of_none pd3 hL0)
      have G4 := (G.same s3).tab hT3 k4
      refine for_list (K := K) (a := L0) (xs := natV a.byEnd) (fun i σ H' => ∃ v3 v4 v5, σ = [some (.ref g), some (.ref lf), some (.ref pd), v3, v4, v5] ∧ H' lf = some (.lst (natV (payAt a i).1)) ∧ H' pd = some (.lst (natV (payAt a i).2)) ∧ ∀ b o, b ≠ lf → b ≠ pd → H4 b = some o → H' b = some o)
        ⟨none, none, none, rfl, lf4, pd4, fun _ _ _ _ e => e⟩ (fun i σ H' _ ⟨_, _, _, _, _, _, h⟩ => SqL.of (h _ _ nL1 nL2 h4)) ?_ ?_
      · rintro i x σ H' hx ⟨v3, v4, v5, rfl, j1, j2, j3⟩
        obtain ⟨n, hn, rfl⟩ := natV_at hx
        have hnl : n < a.lows.length := My.mem_byEnd.mp (List.mem_of_getElem? hn)
        obtain ⟨len1, len2⟩ := payAt_len W i
        have G5 : GAt Cg Cs H' g (some a) r0 p0 t0 ss := by
          obtain ⟨d, e⟩ := G4.ins
          exact ⟨⟨d, j3 _ _ (ne_of_none hg hlf) (ne_of_none hg hpdH) e⟩, j3 _ _ (ne_of_none G.rk hlf) (ne_of_none G.rk hpdH) G4.rk, j3 _ _ (ne_of_none G.pr hlf) (ne_of_none G.pr hpdH) G4.pr, j3 _ _ (ne_of_none G.lo hlf) (ne_of_none G.lo hpdH) G4.lo,
            paired_imp (fun q l z => let ⟨d, e⟩ := z; ⟨d, j3 _ _ (ne_of e lf4 (by intro z; cases z)) (ne_of e pd4 (by intro z; cases z)) e⟩) G4.st, G4.nd, G4.rp⟩
        obtain ⟨pn, gn, stn⟩ := stretch_at G5.st hnl
        obtain ⟨d5, hg5⟩ := G5.ins
        refine ⟨_, rfl, g, d5, _, rfl, hg5, gf_no _ _ _ (by decide +kernel) (by decide +kernel) (by decide +kernel), _, rfl, g, Cg, d5, _, _, rfl, hg5, T.cl, T.n3, gf_stretches _ _ _, _, rfl, t0, _, _, _, rfl, rfl, SqL.of G5.lo, at_of (j := n) rfl gn,
          g, pn, some a, a.low n, rfl, ⟨_, _, _, _, G5⟩, W.n12, stn, fun H5 sl hsl h5 s5 => ?_⟩
        have hS0 : a.free.filter (a.low n).has ≠ [] := My.has_free hh hnl
        have h5' : H5 sl = some (.lst (natV (a.free.filter (a.low n).has))) := h5
        generalize hSd : a.free.filter (a.low n).has = S at h5' hS0
        have hSl : ∀ x ∈ S, x < (payAt a i).1.length := fun x hx => by
          rw [len1]; rw [← hSd] at hx; exact (My.mem_free.mp (List.mem_filter.mp hx).1).1
        have hSn : S.Nodup := by rw [← hSd]; exact (My.free_nodup a).filter _
        have hSlen : S.length ≤ 12 := by
          rw [← hSd]; exact Nat.le_trans (List.length_filter_le _ _) (Nat.le_trans (freeOf_len (st := some a)) hn12)
        have nsl1 : sl ≠ lf := Ne.symm (ne_of_none j1 hsl)
        have nsl2 : sl ≠ pd := Ne.symm (ne_of_none j2 hsl)
        refine ⟨_, rfl, sl, rfl, ⟨_, SqL.of h5'⟩, fun D hD => ?_⟩
        refine lc_list (K := K) (a := sl) (xs := natV S) (fun m H6 => H6 D = some (.lst (natV ((S.take m).map fun s => (payAt a i).1.getD s 0))) ∧ Same H5 H6) ⟨upd_same, same_new hD⟩ (fun m H6 _ ⟨_, q⟩ => SqL.of (q _ _ h5')) (fun m v H6 hv ⟨q1, q2⟩ => ?_) fun H6 ⟨q1, q2⟩ => ?_
        · obtain ⟨sn, hs, rfl⟩ := natV_at hv
          refine ⟨rfl, yesT ⟨_, rfl, _, rfl, lf, _, _, _, rfl, rfl, SqL.of (q2 _ _ (s5 _ _ j1)), at_of (j := sn) rfl (natV_get (hSl sn (List.mem_of_getElem? hs))), ?_⟩⟩
          rw [take_snoc hs, List.map_append]
          have := lc_add hD q1 q2 (by rw [natV_len, List.length_map, List.length_take]; exact small1000 (Nat.le_trans (Nat.min_le_right _ _) (by omega))) (V.int ((payAt a i).1.getD sn 0 : Nat))
          unfold natV at this ⊢; rw [List.map_append]; exact this
        · rw [natV_len, List.take_length] at q1
          have hne : (S.map fun s => (payAt a i).1.getD s 0) ≠ [] := fun z => hS0 (List.map_eq_nil_iff.mp z)
          have q1' : H6 D = some (.lst (((S.map fun s => (payAt a i).1.getD s 0).map fun (i : Nat) => (i : Int)).map V.int)) := by
            rw [List.map_map]; exact q1
          refine ⟨D, _, rfl, SqL.of q1', by rw [List.length_map]; exact List.length_pos_iff.mpr hne, fun m hm1 hm2 => ?_⟩
          have em := min_is hne hm1 hm2
          subst em
          generalize hpd0 : My.minN (S.map fun s => (payAt a i).1.getD s 0) = p
          have s6 : Same H' H6 := s5.trans q2
          refine ⟨_, rfl, _, rfl, pd, _, _, n, rfl, rfl, s6 _ _ j2, by rw [natV_len, len2]; exact ixN_nat hnl, ?_⟩
          rw [natV_set]
          generalize hH7 : upd H6 pd (.lst (natV ((payAt a i).2.set n p))) = H7
          have k7 : KeptBut pd H6 H7 := fun b o hb e => by rw [← hH7, upd_ne hb]; exact e
          have pd7 : H7 pd = some (.lst (natV ((payAt a i).2.set n p))) := by rw [← hH7]; exact upd_same
          have lf7 : H7 lf = some (.lst (natV (payAt a i).1)) := k7 _ _ nlp (s6 _ _ j1)
          have sl7 : H7 sl = some (.lst (natV S)) := k7 _ _ nsl2 (q2 _ _ h5')
          refine ⟨_, rfl, sl, rfl, ⟨_, SqL.of sl7⟩, ?_⟩
          refine for_list (K := K) (a := sl) (xs := natV S) (fun j σ H8 => ∃ v5, σ = [some (.ref g), some (.ref lf), some (.ref pd), some (.int (n : Int)), some (.ref sl), v5] ∧ H8 lf = some (.lst (natV ((S.take j).foldl (My.lessAt p) (payAt a i).1))) ∧ KeptBut lf H7 H8)
            ⟨_, rfl, lf7, fun _ _ _ e => e⟩ (fun j σ H8 _ ⟨_, _, _, h⟩ => SqL.of (h _ _ nsl1 sl7)) ?_ ?_
          · rintro j y σ H8 hy ⟨w5, rfl, z1, z2⟩
            obtain ⟨sn, hs, rfl⟩ := natV_at hy
            have hsS := List.mem_of_getElem? hs
            have hsl8 : sn < ((S.take j).foldl (My.lessAt p) (payAt a i).1).length := by rw [My.lessAt_fold_length]; exact hSl sn hsS
            have hnot : sn ∉ S.take j := fun hm => by
              obtain ⟨i2, hi2, e2⟩ := List.getElem_of_mem hm
              rw [List.getElem_take] at e2
              have hj : j < S.length := (List.getElem?_eq_some_iff.mp hs).1
              have hi3 : i2 < j := by rw [List.length_take] at hi2; omega
              have e3 : S[i2]? = some sn := by rw [List.getElem?_eq_getElem (by omega), e2]
              exact absurd (nd_ix hSn e3 hs) (by omega)
            have eg : ((S.take j).foldl (My.lessAt p) (payAt a i).1).getD sn 0 = (payAt a i).1.getD sn 0 := by
              rw [My.lessAt_fold _ _ _ (hSn.sublist (List.take_sublist _ _)) sn, if_neg (fun z => hnot z.1)]
            have hle : p ≤ (payAt a i).1.getD sn 0 := by
              rw [← hpd0]; exact (minN_mem hne).2 _ (List.mem_map.mpr ⟨sn, hsS, rfl⟩)
            refine ⟨_, rfl, _, rfl, lf, _, sn, _, rfl, rfl, SqL.of z1, natV_get hsl8, _, rfl, _, rfl, pd, _, _, _, rfl, rfl, SqL.of (z2 _ _ (Ne.symm nlp) pd7), at_of (j := n) (v := V.int (p : Int)) rfl ?_, _, _, rfl, rfl, lf, _, _, sn, rfl, rfl, z1, by rw [natV_len]; exact ixN_nat hsl8, _, rfl, ?_, fun b o hb e => ?_⟩
            · rw [natV_get (by rw [List.length_set, len2]; exact hnl), List.getD_eq_getElem?_getD, List.getElem?_set_self (by rw [len2]; exact hnl)]; rfl
            · rw [upd_same, take_snoc hs, List.foldl_append]
              show some (HO.lst ((natV ((S.take j).foldl (My.lessAt p) (payAt a i).1)).set sn (V.int (((((S.take j).foldl (My.lessAt p) (payAt a i).1).getD sn 0 : Nat) : Int) - (p : Int))))) = some (HO.lst (natV (My.lessAt p ((S.take j).foldl (My.lessAt p) (payAt a i).1) sn)))
              have ec : (((((S.take j).foldl (My.lessAt p) (payAt a i).1).getD sn 0 : Nat) : Int) - (p : Int)) = ((((S.take j).foldl (My.lessAt p) (payAt a i).1).getD sn 0 - p : Nat) : Int) := by
                rw [eg]; omega
              rw [ec, natV_set]; rfl
            · rw [upd_ne hb]; exact z2 b o hb e
          · rintro σ H8 ⟨w5, rfl, z1, z2⟩
            rw [natV_len, List.take_length] at z1
            have ep : payAt a (i + 1) = (S.foldl (My.lessAt p) (payAt a i).1, (payAt a i).2.set n p) := by
              rw [payAt_succ hn, ← hpd0, ← hSd]; rfl
            refine ⟨_, _, _, rfl, by rw [ep]; exact z1, by rw [ep]; exact z2 _ _ (Ne.symm nlp) pd7, fun b o hb1 hb2 e => z2 b o hb1 (k7 b o hb2 (s6 b o (j3 b o hb1 hb2 e)))⟩
      · rintro σ H' ⟨v3, v4, v5, rfl, j1, j2, j3⟩
        have e : (payAt a (natV a.byEnd).length).2 = a.paid := by
          rw [natV_len, ← My.payAll_eq W hh]; unfold payAt My.payAll; rw [List.take_length]
        rw [e] at j2
        refine ⟨_, rfl, k H' pd j2 hpdH (fun b o hb q => j3 b o (ne_of_none q hlf) (ne_of_none q hpdH) (k4 b o hb (s3 b o q))) ?_⟩
        rcases hT4 with q | ⟨c1, q1, q2⟩
        · exact .inl (j3 _ _ (ne_of q lf4 (by intro z; cases z)) (ne_of q pd4 (by intro z; cases z)) q)
        · exact .inr ⟨c1, j3 _ _ (ne_of q1 lf4 (by intro z; cases z)) (ne_of q1 pd4 (by intro z; cases z)) q1, j3 _ _ (ne_of q2 lf4 (by intro z; unfold codeAtHO at z; cases z)) (ne_of q2 pd4 (by intro z; unfold codeAtHO at z; cases z)) q2⟩
end
end Cv
end
section
namespace Cv
open PySem PySem.Spec PyProof.Rows L2 HT
abbrev sGBegin : Stmt := inClass (top 37) 9
abbrev sGPrice : Stmt := inClass (top 37) 14
abbrev sGRock : Stmt := inClass (top 37) 13
theorem gf_eq (r p t : Addr) : gf r p t = [(("rocky" : Str), V.ref r), (("prices" : Str), V.ref p), (("stretches" : Str), V.ref t)] := by
  have a1 : ¬ (("rocky" : Str) = "prices") := ne_rp
  have a2 : ¬ (("rocky" : Str) = "stretches") := ne_rs
  have a3 : ¬ (("prices" : Str) = "stretches") := ne_ps
  simp only [gf, putF, if_neg a1, if_neg a2, if_neg a3]
theorem gf_put_r (r p t r' : Addr) : putF "rocky" (.ref r') (gf r p t) = gf r' p t := by
  rw [gf_eq, gf_eq]; simp only [putF, if_true]
theorem gf_put_p (r p t p' : Addr) : putF "prices" (.ref p') (gf r p t) = gf r p' t := by
  have a1 : ¬ (("rocky" : Str) = "prices") := ne_rp
  rw [gf_eq, gf_eq]; simp only [putF, if_neg a1, if_true]
theorem gf_put_t (r p t t' : Addr) : putF "stretches" (.ref t') (gf r p t) = gf r p t' := by
  have a2 : ¬ (("rocky" : Str) = "stretches") := ne_rs
  have a3 : ¬ (("prices" : Str) = "stretches") := ne_ps
  rw [gf_eq, gf_eq]; simp only [putF, if_neg a2, if_neg a3, if_true]
theorem sf_put (x y q q' : Int) : putF "flow" (.int q') (sf x y q) = sf x y q' := by
  have a1 : ¬ (("first" : Str) = "flow") := ne_fl
  have a2 : ¬ (("last" : Str) = "flow") := ne_lf
  have a3 : ¬ (("first" : Str) = "last") := ne_ff
  simp only [sf, putF, if_neg a1, if_neg a2, if_neg a3, if_true]
def GndF (Cg Cs : Addr) (H : Hp) (g : Addr) (st : Kv365.State) (F : List Addr) : Prop := ∃ r p t ss, GAt Cg Cs H g st r p t ss ∧ F = g :: r :: p :: t :: ss
theorem GndF.gnd {Cg Cs : Addr} {H : Hp} {g : Addr} {st : Kv365.State} {F : List Addr} (h : GndF Cg Cs H g st F) : Gnd Cg Cs H g st := let ⟨r, p, t, ss, G, _⟩ := h; ⟨r, p, t, ss, G⟩
theorem GndF.same {Cg Cs : Addr} {H H' : Hp} {g : Addr} {st : Kv365.State} {F : List Addr} (h : GndF Cg Cs H g st F) (s : Same H H') : GndF Cg Cs H' g st F := let ⟨r, p, t, ss, G, e⟩ := h; ⟨r, p, t, ss, G.same s, e⟩
def Moves (Cg Cs : Addr) (H : Hp) (g : Addr) (F : List Addr) (st' : Kv365.State) (v : V) (Q : VK) : Prop :=
  ∀ (H' : Hp) (F' : List Addr), GndF Cg Cs H' g st' F' → (∀ b ∈ F', b ∈ F ∨ H b = none) → (∀ b o, b ∉ F → H b = some o → H' b = some o) → Q v H'
theorem Moves.stay {Cg Cs : Addr} {H : Hp} {g : Addr} {F : List Addr} {st : Kv365.State} {v : V} {Q : VK} (h : Moves Cg Cs H g F st v Q) (hG : GndF Cg Cs H g st F) : Q v H := h H F hG (fun b hb => .inl hb) fun _ _ _ e => e
structure TxtN (mg : Str → Option Value) : Prop where
  noneSuch : ∃ u, mg "NONE_SUCH" = some u ∧ RelV (.int (-2)) u
  notBegun : ∃ u, mg "NOT_BEGUN" = some u ∧ RelV (.int (-11)) u
  alreadySo : ∃ u, mg "ALREADY_SO" = some u ∧ RelV (.int (-17)) u
  outOfRange : ∃ u, mg "OUT_OF_RANGE" = some u ∧ RelV (.int (-22)) u
  tooMany : ∃ u, mg "TOO_MANY" = some u ∧ RelV (.int (-28)) u
  cannotBe : ∃ u, mg "CANNOT_BE" = some u ∧ RelV (.int (-33)) u
  fewestStations : ∃ u, mg "FEWEST_STATIONS" = some u ∧ RelV (.int 2) u
  mostStations : ∃ u, mg "MOST_STATIONS" = some u ∧ RelV (.int 12) u
  mostStretches : ∃ u, mg "MOST_STRETCHES" = some u ∧ RelV (.int 8) u
  mostWater : ∃ u, mg "MOST_WATER" = some u ∧ RelV (.int 20) u
  mostPrice : ∃ u, mg "MOST_PRICE" = some u ∧ RelV (.int 9) u
  begin_ : ∃ u, mg "BEGIN" = some u ∧ RelV (.int 0) u
  mostRoom : ∃ u, mg "MOST_ROOM" = some u ∧ RelV (.int 160) u
def beginSt (st : Kv365.State) (n : Nat) : Kv365.State := if n < 2 ∨ 12 < n then st else some (Kv365.begun n)
def beginAns (n : Nat) : Int := if n < 2 ∨ 12 < n then -22 else 0
def spGBegin (Cg Cs : Addr) : Sp := fun vs H Q _ => ∃ (g : Addr) (st : Kv365.State) (F : List Addr) (n : Nat), vs = [.ref g, .int (n : Int)] ∧ GndF Cg Cs H g st F ∧ Moves Cg Cs H g F (beginSt st n) (.int (beginAns n)) Q
theorem rep_false (n : Nat) : (List.replicate n [V.bl false]).flatten = (List.replicate n false).map V.bl := by
  induction n with
  | zero => rfl
  | succ n ih => rw [List.replicate_succ, List.flatten_cons, ih, List.replicate_succ]; rfl
theorem rocky_begun (n : Nat) : rockyOf (some (Kv365.begun n)) = List.replicate n false := by
  show (List.range n).map (fun s => ([] : List Nat).contains s) = _
  refine List.ext_getElem? fun i => ?_
  rw [List.getElem?_map, List.getElem?_replicate]
  by_cases h : i < n
  · rw [List.getElem?_range h, if_pos h]; rfl
  · rw [List.getElem?_eq_none (by rw [List.length_range]; omega), if_neg h]; rfl
section
variable {P : Program} {w : World} {K : PySem.W.Frag} {mg : Str → Option Value} {base : Heap}
theorem scGBegin : FnScope ["self", "stations"] ["self", "stations"] (defScope sGBegin) := ⟨rfl, rfl, rfl, by decide +kernel, rfl, by decide +kernel, by decide +kernel⟩
theorem ok_gBegin {f Cg Cs : Addr} {fd : FuncData} (F0 : Fun K "begin" "Ground.begin" sGBegin f fd) (T : TxtG K mg Cg) (N : TxtN mg) : FnOk P w K mg base CX0 1 f fd ["self", "stations"] (spGBegin Cg Cs) := by
  refine F0.ok scGBegin (fun vs H Q E h => ?_) (fun cdv A outer s H vs Q E hr h => ?_)
  · obtain ⟨g, st, F, n, rfl, _⟩ := h
    rfl
  · obtain ⟨g, st, F, n, rfl, hG, k⟩ := h
    obtain ⟨r0, p0, t0, ss, G, eF⟩ := id hG
    obtain ⟨dx, hg⟩ := G.ins
    obtain ⟨u1, m1, w1⟩ := N.fewestStations
    obtain ⟨u2, m2, w2⟩ := N.mostStations
    obtain ⟨u3, m3, w3⟩ := N.outOfRange
    refine ⟨_, pss_cons (ps_if (pt_not (pt_chain op_le op_le (pe_glob rfl m1 w1) (pv 1) (pe_glob rfl m2 w2))) (pss_one (ps_ret (pe_glob rfl m3 w3))) pss_nil)
      (pss_cons (ps_fld (pv 0) (pe_op op_rep (pe_lst (pa_cons pe_bl pa_nil)) (pv 1)) rfl) (pss_cons (ps_fld (pv 0) (pe_op op_rep (pe_lst (pa_cons pe_int pa_nil)) (pv 1)) rfl)
      (pss_cons (ps_fld (pv 0) (pe_lst pa_nil) rfl) (pss_one (ps_ret pe_int))))), ?_⟩
    unfold beginSt beginAns at k
    refine ⟨_, rfl, _, _, rfl, rfl, _, rfl, ?_⟩
    by_cases h1 : (2 : Int) ≤ (n : Int)
    · rw [if_pos (decide_eq_true h1)]
      refine ⟨_, _, rfl, rfl, _, rfl, ?_⟩
      by_cases h2 : (n : Int) ≤ 12
      · rw [decide_eq_true h2]
        refine iteF ?_
        rw [if_neg (show ¬ (n < 2 ∨ 12 < n) by omega), if_neg (show ¬ (n < 2 ∨ 12 < n) by omega)] at k
        have hn : n ≤ 12 := by omega
        refine ⟨by show 1 ≤ sizeLine; rw [sizeLine_eq]; omega, fun l1 hl1 => ?_⟩
        refine ⟨_, rfl, l1, _, _, rfl, rfl, upd_same, by omega, by omega, by rw [Int.toNat_natCast, sizeLine_eq]; show 1 * n ≤ _; omega, fun r hr1 => ?_⟩
        rw [Int.toNat_natCast, rep_false]
        have s1 : Same H (upd H l1 (.lst [.bl false])) := same_new hl1
        have s2 : Same H _ := s1.trans (same_new (o := .lst ((List.replicate n false).map V.bl)) hr1)
        have rH : H r = none := s1.free hr1
        have rg : r ≠ g := Ne.symm (ne_of_none hg rH)
        generalize hH2 : upd (upd H l1 (.lst [.bl false])) r (.lst ((List.replicate n false).map V.bl)) = H2 at s2
        have r2 : H2 r = some (.lst ((List.replicate n false).map V.bl)) := by rw [← hH2]; exact upd_same
        refine ⟨_, rfl, g, Cg, dx, _, rfl, s2 _ _ hg, T.cl, T.n1, by rw [gf_eq]; show 3 < 1000; decide, ?_⟩
        rw [gf_put_r]
        generalize hH3 : upd H2 g (.ins Cg dx (gf r p0 t0)) = H3
        have g3 : H3 g = some (.ins Cg dx (gf r p0 t0)) := by rw [← hH3]; exact upd_same
        have r3 : H3 r = some (.lst ((List.replicate n false).map V.bl)) := by rw [← hH3, upd_ne rg]; exact r2
        have k3 : ∀ b o, b ≠ g → H b = some o → H3 b = some o := fun b o hb e => by rw [← hH3, upd_ne hb]; exact s2 b o e
        refine ⟨by show 1 ≤ sizeLine; rw [sizeLine_eq]; omega, fun l3 hl3 => ?_⟩
        refine ⟨_, rfl, l3, _, _, rfl, rfl, upd_same, by omega, by omega, by rw [Int.toNat_natCast, sizeLine_eq]; show 1 * n ≤ _; omega, fun p hp4 => ?_⟩
        rw [Int.toNat_natCast, rep_one]
        have s4 : Same H3 (upd H3 l3 (.lst [.int 1])) := same_new hl3
        have s5 : Same H3 _ := s4.trans (same_new (o := .lst (natV (List.replicate n 1))) hp4)
        have p3 : H3 p = none := s4.free hp4
        have pg : p ≠ g := Ne.symm (ne_of_none g3 p3)
        have pr : r ≠ p := ne_of_none r3 p3
        have pH : H p = none := by
          cases q : H p with
          | none => rfl
          | some o => rw [k3 p o pg q] at p3; cases p3
        generalize hH5 : upd (upd H3 l3 (.lst [.int 1])) p (.lst (natV (List.replicate n 1))) = H5 at s5
        have p5 : H5 p = some (.lst (natV (List.replicate n 1))) := by rw [← hH5]; exact upd_same
        refine ⟨_, rfl, g, Cg, dx, _, rfl, s5 _ _ g3, T.cl, T.n2, by rw [gf_eq]; show 3 < 1000; decide, ?_⟩
        rw [gf_put_p]
        generalize hH6 : upd H5 g (.ins Cg dx (gf r p t0)) = H6
        have g6 : H6 g = some (.ins Cg dx (gf r p t0)) := by rw [← hH6]; exact upd_same
        have r6 : H6 r = some (.lst ((List.replicate n false).map V.bl)) := by rw [← hH6, upd_ne rg]; exact s5 _ _ r3
        have p6 : H6 p = some (.lst (natV (List.replicate n 1))) := by rw [← hH6, upd_ne pg]; exact p5
        have k6 : ∀ b o, b ≠ g → H b = some o → H6 b = some o := fun b o hb e => by rw [← hH6, upd_ne hb]; exact s5 b o (k3 b o hb e)
        refine ⟨Nat.zero_le _, fun t ht6 => ?_⟩
        have tg : t ≠ g := Ne.symm (ne_of_none g6 ht6)
        have tr : r ≠ t := ne_of_none r6 ht6
        have tp : p ≠ t := ne_of_none p6 ht6
        have tH : H t = none := by
          cases q : H t with
          | none => rfl
          | some o => rw [k6 t o tg q] at ht6; cases ht6
        refine ⟨_, rfl, g, Cg, dx, _, rfl, by rw [upd_ne (Ne.symm tg)]; exact g6, T.cl, T.n3, by rw [gf_eq]; show 3 < 1000; decide, ?_⟩
        rw [gf_put_t]
        refine k _ [g, r, p, t] ⟨r, p, t, [], ⟨⟨dx, upd_same⟩, ?_, ?_, ?_, .nil, List.nodup_nil, pr⟩, rfl⟩ (fun b hb => ?_) fun b o hb e => ?_
        · rw [upd_ne rg, upd_ne tr, rocky_begun]; exact r6
        · rw [upd_ne pg, upd_ne tp]; exact p6
        · rw [upd_ne tg, upd_same]; rfl
        · rcases List.mem_cons.mp hb with z | hb
          · rw [z, eF]; exact .inl List.mem_cons_self
          · rcases List.mem_cons.mp hb with z | hb
            · rw [z]; exact .inr rH
            · rcases List.mem_cons.mp hb with z | hb
              · rw [z]; exact .inr pH
              · rw [List.mem_singleton.mp hb]; exact .inr tH
        · have hbg : b ≠ g := fun z => hb (by rw [z, eF]; exact List.mem_cons_self)
          rw [upd_ne hbg, upd_ne (ne_of_none (k6 b o hbg e) ht6)]; exact k6 b o hbg e
      · rw [decide_eq_false h2]
        rw [if_pos (show n < 2 ∨ 12 < n by omega), if_pos (show n < 2 ∨ 12 < n by omega)] at k
        exact iteT (k.stay hG)
    · rw [if_neg (by rw [decide_eq_false h1]; exact Bool.false_ne_true)]
      rw [if_pos (show n < 2 ∨ 12 < n by omega), if_pos (show n < 2 ∨ 12 < n by omega)] at k
      exact ⟨_, rfl, iteT (k.stay hG)⟩
end
end Cv
end
section
namespace Cv
open PySem PySem.Spec PyProof.Rows L2 HT
abbrev sGWater : Stmt := inClass (top 37) 12
abbrev sGDrop : Stmt := inClass (top 37) 11
abbrev sGLow : Stmt := inClass (top 37) 10
def DoesIt (Cg Cs : Addr) (H : Hp) (g : Addr) (a : Kv365.Abs) (c : Kv365.Call) (Q : VK) : Prop := ∃ F, GndF Cg Cs H g (some a) F ∧ My.Wf a ∧ Moves Cg Cs H g F (some (a.does c).1) (.int (a.does c).2.ret) Q
def spGPrice (Cg Cs : Addr) : Sp := fun vs H Q _ => ∃ (g : Addr) (a : Kv365.Abs) (s c : Nat), vs = [.ref g, .int (s : Int), .int (c : Int)] ∧ DoesIt Cg Cs H g a (.price s c) Q
def spGWater (Cg Cs : Addr) : Sp := fun vs H Q _ => ∃ (g : Addr) (a : Kv365.Abs) (i q : Nat), vs = [.ref g, .int (i : Int), .int (q : Int)] ∧ DoesIt Cg Cs H g a (.water i q) Q
def spGDrop (Cg Cs : Addr) : Sp := fun vs H Q _ => ∃ (g : Addr) (a : Kv365.Abs) (i : Nat), vs = [.ref g, .int (i : Int)] ∧ DoesIt Cg Cs H g a (.drop i) Q
theorem GAt.tp {Cg Cs : Addr} {H : Hp} {g : Addr} {a : Kv365.Abs} {r p t : Addr} {ss : List Addr} (G : GAt Cg Cs H g (some a) r p t ss) (W : My.Wf a) : t ≠ p := by
  refine ne_of G.lo G.pr fun z => ?_
  injection z with z
  have hl : a.price.length = a.n := W.pl
  have := W.n2
  cases e : a.price with
  | nil => rw [e] at hl; simp at hl; omega
  | cons x l =>
    rw [show priceOf (some a) = x :: l from e] at z
    cases ss with
    | nil => cases z
    | cons q ss => rw [List.map_cons] at z; injection z with z1; cases z1
theorem GAt.tr {Cg Cs : Addr} {H : Hp} {g : Addr} {a : Kv365.Abs} {r p t : Addr} {ss : List Addr} (G : GAt Cg Cs H g (some a) r p t ss) (W : My.Wf a) : t ≠ r := by
  refine ne_of G.lo G.rk fun z => ?_
  injection z with z
  have hl := rockyOf_len (some a)
  have h2 := W.n2
  cases e : rockyOf (some a) with
  | nil => rw [e] at hl; have : (0 : Nat) = a.n := hl; omega
  | cons x l =>
    rw [e] at z
    cases ss with
    | nil => cases z
    | cons q ss => rw [List.map_cons, List.map_cons] at z; injection z with z1; cases z1
section
variable {P : Program} {w : World} {K : PySem.W.Frag} {mg : Str → Option Value} {base : Heap}
theorem scGPrice : FnScope ["self", "station", "cost", "before"] ["self", "station", "cost"] (defScope sGPrice) := ⟨rfl, rfl, rfl, by decide +kernel, rfl, by decide +kernel, by decide +kernel⟩
theorem ok_gPrice {f Cg Cs fH : Addr} {fd fdH : FuncData} (F0 : Fun K "price" "Ground.price" sGPrice f fd) (T : TxtG K mg Cg) (N : TxtN mg) (GH : FnOk P w K mg base CX0 1 fH fdH ["self", "station"] (spHasStation Cg Cs)) (bH : Binds K fdH ["self", "station"] []) (mH : Meth K Cg "has_station" fH) :
    FnOk P w K mg base CX0 2 f fd ["self", "station", "cost"] (spGPrice Cg Cs) := by
  refine F0.ok scGPrice (fun vs H Q E h => ?_) (fun cdv A outer s0 H vs Q E hr h => ?_)
  · obtain ⟨g, a, s, c, rfl, _⟩ := h
    rfl
  · obtain ⟨g, a, s, c, rfl, F, hG, W, k⟩ := h
    obtain ⟨r0, p0, t0, ss, G, eF⟩ := id hG
    obtain ⟨dx, hg⟩ := G.ins
    obtain ⟨u1, m1, w1⟩ := N.noneSuch
    obtain ⟨u2, m2, w2⟩ := N.mostPrice
    obtain ⟨u3, m3, w3⟩ := N.outOfRange
    refine ⟨_, pss_cons (ps_if (pt_not (pt_val (pe_meth (pv 0) T.cl mH GH hr bH .nil pass0 (pa_cons (pv 1) pa_nil)))) (pss_one (ps_ret (pe_glob rfl m1 w1))) pss_nil)
      (pss_cons (ps_if (pt_not (pt_chain op_le op_le pe_int (pv 2) (pe_glob rfl m2 w2))) (pss_one (ps_ret (pe_glob rfl m3 w3))) pss_nil)
      (pss_cons (ps_set (i := 3) scGPrice.nd rfl (Or.inl rfl) (pe_ix ix_list (pe_fld (pv 0) rfl) (pv 1) (fun _ _ => rfl))) (pss_cons (ps_asg (pv 2) (pg_sub (pe_fld (pv 0) rfl) (pv 1) set_list)) (pss_one (ps_ret (pv 3)))))), ?_⟩
    refine ⟨_, rfl, g, dx, _, rfl, hg, gf_no _ _ _ (by decide +kernel) (by decide +kernel) (by decide +kernel), _, rfl, g, some a, s, rfl, hG.gnd, _, rfl, ?_⟩
    simp only [Kv365.Abs.does] at k
    by_cases hs : s < a.n
    · rw [show decide (s < stN (some a)) = true from decide_eq_true hs]
      rw [if_neg (show ¬ a.n ≤ s by omega)] at k
      refine iteF ⟨_, rfl, _, _, rfl, rfl, _, rfl, ?_⟩
      by_cases h1 : (1 : Int) ≤ (c : Int)
      · rw [if_pos (decide_eq_true h1)]
        refine ⟨_, _, rfl, rfl, _, rfl, ?_⟩
        by_cases h2 : (c : Int) ≤ 9
        · rw [decide_eq_true h2]
          rw [if_neg (show ¬ (c = 0 ∨ 9 < c) by omega)] at k
          have hsl : s < a.price.length := by rw [W.pl]; exact hs
          refine iteF ⟨_, rfl, g, Cg, dx, _, _, rfl, hg, T.cl, T.n2, gf_prices _ _ _, _, rfl, p0, _, _, _, rfl, rfl, SqL.of G.pr, at_of (j := s) rfl (natV_get hsl), _, rfl, _, rfl, g, Cg, dx, _, _, rfl, hg, T.cl, T.n2, gf_prices _ _ _, _, rfl, p0, _, _, s, rfl, rfl, G.pr, by rw [natV_len]; exact ixN_nat hsl, _, rfl, ?_⟩
          rw [natV_set]
          refine k _ F ⟨r0, p0, t0, ss, ?_, eF⟩ (fun b hb => .inl hb) fun b o hb e => ?_
          · refine ⟨⟨dx, ?_⟩, ?_, upd_same, ?_, paired_imp (fun q l z => let ⟨d, e⟩ := z; ⟨d, by rw [upd_ne (ne_of e G.pr (by intro z; cases z))]; exact e⟩) G.st, G.nd, G.rp⟩
            · rw [upd_ne (ne_of hg G.pr (by intro z; cases z))]; exact hg
            · rw [upd_ne G.rp]; exact G.rk
            · rw [upd_ne (G.tp W)]; exact G.lo
          · rw [upd_ne (fun z => hb (by rw [z, eF]; simp))]; exact e
        · rw [decide_eq_false h2]
          rw [if_pos (show c = 0 ∨ 9 < c by omega)] at k
          exact iteT (k.stay hG)
      · rw [if_neg (by rw [decide_eq_false h1]; exact Bool.false_ne_true)]
        rw [if_pos (show c = 0 ∨ 9 < c by omega)] at k
        exact ⟨_, rfl, iteT (k.stay hG)⟩
    · rw [show decide (s < stN (some a)) = false from decide_eq_false hs]
      rw [if_pos (show a.n ≤ s by omega)] at k
      exact iteT (k.stay hG)
theorem scGWater : FnScope ["self", "number", "flow", "before"] ["self", "number", "flow"] (defScope sGWater) := ⟨rfl, rfl, rfl, by decide +kernel, rfl, by decide +kernel, by decide +kernel⟩
theorem paired_other {C : Addr} {H : Hp} {p : Addr} {o : HO} {ss : List Addr} {ls : List Kv365.Low} (h : Paired (StAt C H) ss ls) (hm : p ∉ ss) : Paired (StAt C (upd H p o)) ss ls := by
  induction h with
  | nil => exact .nil
  | cons r t ih =>
    obtain ⟨d, e⟩ := r
    refine .cons ⟨d, ?_⟩ (ih fun z => hm (List.mem_cons_of_mem _ z))
    rw [upd_ne (fun z => hm (by rw [z]; exact List.mem_cons_self))]; exact e
theorem paired_mod {C : Addr} {H : Hp} {dx : Addr} {q : Nat} {p : Addr} {ss : List Addr} {ls : List Kv365.Low} (h : Paired (StAt C H) ss ls) : ∀ {i : Nat} {l : Kv365.Low}, ss.Nodup → ss[i]? = some p → ls[i]? = some l →
    Paired (StAt C (upd H p (.ins C dx (sf l.from_ l.to_ q)))) ss (ls.modify i fun l => { l with water := q }) := by
  induction h with
  | nil => intro i l _ h; simp at h
  | cons r t ih =>
    intro i l nd h1 h2
    cases i with
    | zero =>
      have e1 := Option.some.inj h1
      have e2 := Option.some.inj h2
      subst e1 e2
      exact .cons ⟨dx, upd_same⟩ (paired_other t (List.nodup_cons.mp nd).1)
    | succ i =>
      obtain ⟨d, e⟩ := r
      have h1' := h1
      rw [List.getElem?_cons_succ] at h1' h2
      refine .cons ⟨d, ?_⟩ (ih (List.nodup_cons.mp nd).2 h1' h2)
      rw [upd_ne (fun z => (List.nodup_cons.mp nd).1 (by rw [z]; exact List.mem_of_getElem? h1'))]; exact e
theorem ok_gWater {f Cg Cs fH : Addr} {fd fdH : FuncData} (F0 : Fun K "water" "Ground.water" sGWater f fd) (T : TxtG K mg Cg) (TS : TxtS K mg Cs) (N : TxtN mg) (GH : FnOk P w K mg base CX0 1 fH fdH ["self", "number"] (spHasStretch Cg Cs)) (bH : Binds K fdH ["self", "number"] []) (mH : Meth K Cg "has_stretch" fH) :
    FnOk P w K mg base CX0 2 f fd ["self", "number", "flow"] (spGWater Cg Cs) := by
  refine F0.ok scGWater (fun vs H Q E h => ?_) (fun cdv A outer s0 H vs Q E hr h => ?_)
  · obtain ⟨g, a, i, q, rfl, _⟩ := h
    rfl
  · obtain ⟨g, a, i, q, rfl, F, hG, W, k⟩ := h
    obtain ⟨r0, p0, t0, ss, G, eF⟩ := id hG
    obtain ⟨dx, hg⟩ := G.ins
    obtain ⟨u1, m1, w1⟩ := N.noneSuch
    obtain ⟨u2, m2, w2⟩ := N.mostWater
    obtain ⟨u3, m3, w3⟩ := N.outOfRange
    refine ⟨_, pss_cons (ps_if (pt_not (pt_val (pe_meth (pv 0) T.cl mH GH hr bH .nil pass0 (pa_cons (pv 1) pa_nil)))) (pss_one (ps_ret (pe_glob rfl m1 w1))) pss_nil)
      (pss_cons (ps_if (pt_not (pt_chain op_le op_le pe_int (pv 2) (pe_glob rfl m2 w2))) (pss_one (ps_ret (pe_glob rfl m3 w3))) pss_nil)
      (pss_cons (ps_set (i := 3) scGWater.nd rfl (Or.inl rfl) (pe_fld (pe_ix ix_list (pe_fld (pv 0) rfl) (pv 1) (fun _ _ => rfl)) rfl)) (pss_cons (ps_fld (pe_ix ix_list (pe_fld (pv 0) rfl) (pv 1) (fun _ _ => rfl)) (pv 2) rfl) (pss_one (ps_ret (pv 3)))))), ?_⟩
    refine ⟨_, rfl, g, dx, _, rfl, hg, gf_no _ _ _ (by decide +kernel) (by decide +kernel) (by decide +kernel), _, rfl, g, some a, i, rfl, hG.gnd, _, rfl, ?_⟩
    simp only [Kv365.Abs.does] at k
    by_cases hs : i < a.lows.length
    · rw [show decide (i < (lowsOf (some a)).length) = true from decide_eq_true hs]
      rw [if_neg (show ¬ a.lows.length ≤ i by omega)] at k
      refine iteF ⟨_, rfl, _, _, rfl, rfl, _, rfl, ?_⟩
      by_cases h1 : (1 : Int) ≤ (q : Int)
      · rw [if_pos (decide_eq_true h1)]
        refine ⟨_, _, rfl, rfl, _, rfl, ?_⟩
        by_cases h2 : (q : Int) ≤ 20
        · rw [decide_eq_true h2]
          rw [if_neg (show ¬ (q = 0 ∨ 20 < q) by omega)] at k
          have hi2 : i < ss.length := by rw [paired_len G.st]; exact hs
          have hss : ss[i]? = some ss[i] := List.getElem?_eq_getElem hi2
          obtain ⟨l, hl, dp, hpl⟩ := paired_get G.st hss
          have gi : (ss.map V.ref)[i]? = some (V.ref ss[i]) := by rw [List.getElem?_map, hss]; rfl
          have ela : a.low i = l := My.low_at hl
          refine iteF ⟨_, rfl, g, Cg, dx, _, _, rfl, hg, T.cl, T.n3, gf_stretches _ _ _, _, rfl, t0, _, _, _, rfl, rfl, SqL.of G.lo, at_of (j := i) rfl gi, ss[i], Cs, dp, _, _, rfl, hpl, TS.cl, TS.n3, sf_flow _ _ _, _, rfl, _, rfl, g, Cg, dx, _, _, rfl, hg, T.cl, T.n3, gf_stretches _ _ _, _, rfl, t0, _, _, _, rfl, rfl, SqL.of G.lo, at_of (j := i) rfl gi,
            ss[i], Cs, dp, _, rfl, hpl, TS.cl, TS.n3, Nat.lt_of_le_of_lt (length_putF _ _ _) (Nat.lt_of_le_of_lt (Nat.add_le_add_right (length_putF _ _ _) 1) (by show 1 + 1 + 1 < 1000; decide)), _, rfl, ?_⟩
          rw [sf_put]
          rw [ela] at k
          have nins : ∀ b u, H b = some u → (∀ C d fs, u ≠ .ins C d fs) → b ≠ ss[i] := fun b u e d => ne_of e hpl (d _ _ _)
          refine k _ F ⟨r0, p0, t0, ss, ?_, eF⟩ (fun b hb => .inl hb) fun b o hb e => ?_
          · refine ⟨⟨dx, ?_⟩, ?_, ?_, ?_, paired_mod G.st G.nd hss hl, G.nd, G.rp⟩
            · rw [upd_ne (ne_of hg hpl (by intro z; injection z with _ _ z3; have z4 := congrArg (fun fs => fs.lookup ("rocky" : Str)) z3; simp only [gf_rocky] at z4; rw [sf_no _ _ _ (by decide +kernel) (by decide +kernel) (by decide +kernel)] at z4; cases z4))]; exact hg
            · rw [upd_ne (nins _ _ G.rk (by intro _ _ _ z; cases z))]; exact G.rk
            · rw [upd_ne (nins _ _ G.pr (by intro _ _ _ z; cases z))]; exact G.pr
            · rw [upd_ne (nins _ _ G.lo (by intro _ _ _ z; cases z))]; exact G.lo
          · rw [upd_ne (fun z => hb (by rw [z, eF]; exact List.mem_cons_of_mem _ (List.mem_cons_of_mem _ (List.mem_cons_of_mem _ (List.mem_cons_of_mem _ (List.getElem_mem hi2))))))]; exact e
        · rw [decide_eq_false h2]
          rw [if_pos (show q = 0 ∨ 20 < q by omega)] at k
          exact iteT (k.stay hG)
      · rw [if_neg (by rw [decide_eq_false h1]; exact Bool.false_ne_true)]
        rw [if_pos (show q = 0 ∨ 20 < q by omega)] at k
        exact ⟨_, rfl, iteT (k.stay hG)⟩
    · rw [show decide (i < (lowsOf (some a)).length) = false from decide_eq_false hs]
      rw [if_pos (show a.lows.length ≤ i by omega)] at k
      exact iteT (k.stay hG)
end
end Cv
end
section
namespace Cv
open PySem PySem.Spec PyProof.Rows L2 HT
def spGLow (Cg Cs : Addr) : Sp := fun vs H Q _ => ∃ (g : Addr) (a : Kv365.Abs) (x y q : Nat), vs = [.ref g, .int (x : Int), .int (y : Int), .int (q : Int)] ∧ DoesIt Cg Cs H g a (.low x y q) Q
theorem paired_erase {α β : Type} {R : α → β → Prop} {l : List α} {m : List β} (h : Paired R l m) : ∀ i : Nat, Paired R (l.eraseIdx i) (m.eraseIdx i) := by
  induction h with
  | nil => intro i; exact .nil
  | cons r t ih =>
    intro i
    cases i with
    | zero => exact t
    | succ i => exact .cons r (ih i)
theorem erase_map {α β : Type} (f : α → β) : ∀ (l : List α) (i : Nat), (l.map f).eraseIdx i = (l.eraseIdx i).map f
  | [], _ => rfl
  | _ :: _, 0 => rfl
  | x :: l, i + 1 => by
    show f x :: (l.map f).eraseIdx i = f x :: (l.eraseIdx i).map f
    rw [erase_map f l i]
section
variable {P : Program} {w : World} {K : PySem.W.Frag} {mg : Str → Option Value} {base : Heap}
theorem scGDrop : FnScope ["self", "number"] ["self", "number"] (defScope sGDrop) := ⟨rfl, rfl, rfl, by decide +kernel, rfl, by decide +kernel, by decide +kernel⟩
theorem ok_gDrop {f Cg Cs fH : Addr} {fd fdH : FuncData} (F0 : Fun K "drop" "Ground.drop" sGDrop f fd) (B : TxtB mg) (T : TxtG K mg Cg) (N : TxtN mg) (GH : FnOk P w K mg base CX0 1 fH fdH ["self", "number"] (spHasStretch Cg Cs)) (bH : Binds K fdH ["self", "number"] []) (mH : Meth K Cg "has_stretch" fH) :
    FnOk P w K mg base CX0 2 f fd ["self", "number"] (spGDrop Cg Cs) := by
  refine F0.ok scGDrop (fun vs H Q E h => ?_) (fun cdv A outer s0 H vs Q E hr h => ?_)
  · obtain ⟨g, a, i, rfl, _⟩ := h
    rfl
  · obtain ⟨g, a, i, rfl, F, hG, W, k⟩ := h
    obtain ⟨r0, p0, t0, ss, G, eF⟩ := id hG
    obtain ⟨dx, hg⟩ := G.ins
    obtain ⟨u1, m1, w1⟩ := N.noneSuch
    refine ⟨_, pss_cons (ps_if (pt_not (pt_val (pe_meth (pv 0) T.cl mH GH hr bH .nil pass0 (pa_cons (pv 1) pa_nil)))) (pss_one (ps_ret (pe_glob rfl m1 w1))) pss_nil)
      (pss_cons (ps_expr (pe_bm PySem.F.plainAttrs_list PySem.F.slot_list_pop PySem.F.type_list_pop mt_popAt (pe_fld (pv 0) rfl) (pa_cons (pv 1) pa_nil)))
      (pss_one (ps_ret (pe_callB call_len_seq (by rfl) B.len PySem.boot_len (pa_cons (pe_fld (pv 0) rfl) pa_nil))))), ?_⟩
    refine ⟨_, rfl, g, dx, _, rfl, hg, gf_no _ _ _ (by decide +kernel) (by decide +kernel) (by decide +kernel), _, rfl, g, some a, i, rfl, hG.gnd, _, rfl, ?_⟩
    simp only [Kv365.Abs.does] at k
    have hl8 := W.ll
    by_cases hs : i < a.lows.length
    · rw [show decide (i < (lowsOf (some a)).length) = true from decide_eq_true hs]
      rw [if_neg (show ¬ a.lows.length ≤ i by omega)] at k
      have hi2 : i < ss.length := by rw [paired_len G.st]; exact hs
      have gi : (ss.map V.ref)[i]? = some (V.ref ss[i]) := by rw [List.getElem?_map, List.getElem?_eq_getElem hi2]; rfl
      have hsq : seqIndex? (i : Int) (ss.map V.ref).length = some i := by
        rw [seqIndex_of (by omega) (by rw [List.length_map]; omega), Int.toNat_natCast]
      have nt : ∀ b u, H b = some u → (∀ xs, u ≠ .lst xs) → b ≠ t0 := fun b u e d => ne_of e G.lo (d _)
      have gt : g ≠ t0 := nt _ _ hg (by intro _ z; cases z)
      refine iteF ⟨_, rfl, g, Cg, dx, _, _, rfl, hg, T.cl, T.n3, gf_stretches _ _ _, .inl ⟨rfl, _, SqL.of G.lo⟩, _, rfl, t0, _, _, i, _, rfl, rfl, G.lo, by omega, by omega, hsq, gi, _, rfl, g, Cg, dx, _, _, rfl, by rw [upd_ne gt]; exact hg, T.cl, T.n3, gf_stretches _ _ _, t0, _, rfl, .inl (SqL.of upd_same), ?_⟩
      have elen : (((ss.map V.ref).eraseIdx i).length : Int) = ((a.lows.length - 1 : Nat) : Int) := by
        rw [List.length_eraseIdx, if_pos (by rw [List.length_map]; exact hi2), List.length_map, paired_len G.st]; rfl
      show Q (.int (((ss.map V.ref).eraseIdx i).length : Int)) _
      rw [elen]
      have em : (ss.map V.ref).eraseIdx i = (ss.eraseIdx i).map V.ref := erase_map V.ref ss i
      refine k _ (g :: r0 :: p0 :: t0 :: ss.eraseIdx i) ⟨r0, p0, t0, ss.eraseIdx i, ?_, rfl⟩ (fun b hb => .inl ?_) fun b o hb e => ?_
      · refine ⟨⟨dx, by rw [upd_ne gt]; exact hg⟩, by rw [upd_ne (Ne.symm (G.tr W))]; exact G.rk, by rw [upd_ne (Ne.symm (G.tp W))]; exact G.pr, by rw [upd_same, em], ?_, G.nd.sublist (List.eraseIdx_sublist _ _), G.rp⟩
        exact paired_imp (fun q l z => let ⟨d, e⟩ := z; ⟨d, by rw [upd_ne (nt _ _ e (by intro _ z; cases z))]; exact e⟩) (paired_erase G.st i)
      · rw [eF]
        rcases List.mem_cons.mp hb with z | hb
        · rw [z]; exact List.mem_cons_self
        · refine List.mem_cons_of_mem _ ?_
          rcases List.mem_cons.mp hb with z | hb
          · rw [z]; exact List.mem_cons_self
          · refine List.mem_cons_of_mem _ ?_
            rcases List.mem_cons.mp hb with z | hb
            · rw [z]; exact List.mem_cons_self
            · refine List.mem_cons_of_mem _ ?_
              rcases List.mem_cons.mp hb with z | hb
              · rw [z]; exact List.mem_cons_self
              · exact List.mem_cons_of_mem _ (List.mem_of_mem_eraseIdx hb)
      · rw [upd_ne (fun z => hb (by rw [z, eF]; simp))]; exact e
    · rw [show decide (i < (lowsOf (some a)).length) = false from decide_eq_false hs]
      rw [if_pos (show a.lows.length ≤ i by omega)] at k
      exact iteT (k.stay hG)
theorem scGLow : FnScope ["self", "first", "last", "flow"] ["self", "first", "last", "flow"] (defScope sGLow) := ⟨rfl, rfl, rfl, by decide +kernel, rfl, by decide +kernel, by decide +kernel⟩
theorem ok_gLow {f Cg Cs fH fI : Addr} {fd fdH fdI : FuncData} (F0 : Fun K "low" "Ground.low" sGLow f fd) (B : TxtB mg) (T : TxtG K mg Cg) (TS : TxtS K mg Cs) (N : TxtN mg) (GH : FnOk P w K mg base CX0 1 fH fdH ["self", "station"] (spHasStation Cg Cs)) (bH : Binds K fdH ["self", "station"] []) (mH : Meth K Cg "has_station" fH)
    (M : Mk K Cs fI) (GI : FnOk P w K mg base CX0 1 fI fdI ["self", "first", "last", "flow"] (spStInit Cs)) (bI : Binds K fdI ["self", "first", "last", "flow"] []) : FnOk P w K mg base CX0 3 f fd ["self", "first", "last", "flow"] (spGLow Cg Cs) := by
  refine F0.ok scGLow (fun vs H Q E h => ?_) (fun cdv A outer s0 H vs Q E hr h => ?_)
  · obtain ⟨g, a, x, y, q, rfl, _⟩ := h
    rfl
  · obtain ⟨g, a, x, y, q, rfl, F, hG, W, k⟩ := h
    obtain ⟨r0, p0, t0, ss, G, eF⟩ := id hG
    obtain ⟨dx, hg⟩ := G.ins
    obtain ⟨u1, m1, w1⟩ := N.mostWater
    obtain ⟨u2, m2, w2⟩ := N.outOfRange
    obtain ⟨u3, m3, w3⟩ := N.mostStretches
    obtain ⟨u4, m4, w4⟩ := N.tooMany
    have hr1 : Room 1 _ := hr.mono (by decide)
    refine ⟨_, pss_cons (ps_if (PW.pt (pw_or (pt_not (pt_val (pe_meth (pv 0) T.cl mH GH hr1 bH .nil pass0 (pa_cons (pv 2) pa_nil)))) (pw_or (pt_cmpR op_lt (pv 2) (pv 1) (nomark _)) (pw_or1 (pt_not (pt_chain op_le op_le pe_int (pv 3) (pe_glob rfl m1 w1))))))) (pss_one (ps_ret (pe_glob rfl m2 w2))) pss_nil)
      (pss_cons (ps_if (pt_cmpR op_eq (pe_callB call_len_seq (by rfl) B.len PySem.boot_len (pa_cons (pe_fld (pv 0) rfl) pa_nil)) (pe_glob rfl m3 w3) (nomark _)) (pss_one (ps_ret (pe_glob rfl m4 w4))) pss_nil)
      (pss_cons (ps_expr (pe_bm PySem.F.plainAttrs_list PySem.F.slot_list_append PySem.F.type_list_append mt_append (pe_fld (pv 0) rfl) (pa_cons (pe_make M GI hr rfl TS.mgC bI .nil pass0 (pa_cons (pv 1) (pa_cons (pv 2) (pa_cons (pv 3) pa_nil)))) pa_nil)))
      (pss_one (ps_ret (pe_op op_sub (pe_callB call_len_seq (by rfl) B.len PySem.boot_len (pa_cons (pe_fld (pv 0) rfl) pa_nil)) pe_int))))), ?_⟩
    have bad : (a.n ≤ y ∨ y < x ∨ q = 0 ∨ 20 < q) → Q (.int (-22)) H := fun z => by
      simp only [Kv365.Abs.does, if_pos z] at k
      exact k.stay hG
    refine ⟨_, rfl, g, dx, _, rfl, hg, gf_no _ _ _ (by decide +kernel) (by decide +kernel) (by decide +kernel), _, rfl, g, some a, y, rfl, hG.gnd, _, rfl, ?_⟩
    by_cases hy : y < a.n
    · rw [show decide (y < stN (some a)) = true from decide_eq_true hy]
      refine iteF ⟨_, rfl, _, rfl, _, _, rfl, rfl, _, rfl, ?_⟩
      by_cases hxy : (y : Int) < (x : Int)
      · rw [decide_eq_true hxy]
        exact iteT (iteT (bad (by omega)))
      · rw [decide_eq_false hxy]
        refine iteF ⟨_, rfl, _, _, rfl, rfl, _, rfl, ?_⟩
        by_cases h1 : (1 : Int) ≤ (q : Int)
        · rw [if_pos (decide_eq_true h1)]
          refine ⟨_, _, rfl, rfl, _, rfl, ?_⟩
          by_cases h2 : (q : Int) ≤ 20
          · rw [decide_eq_true h2]
            simp only [Kv365.Abs.does, if_neg (show ¬ (a.n ≤ y ∨ y < x ∨ q = 0 ∨ 20 < q) by omega)] at k
            have el : ((ss.map V.ref).length : Int) = (a.lows.length : Int) := by rw [List.length_map, paired_len G.st]; rfl
            have hl8 := W.ll
            refine iteF ⟨_, rfl, g, Cg, dx, _, _, rfl, hg, T.cl, T.n3, gf_stretches _ _ _, t0, _, rfl, .inl (SqL.of G.lo), rfl, _, rfl, ?_⟩
            rw [el]
            by_cases h8 : a.lows.length = 8
            · rw [show decide (V.int (a.lows.length : Int) = V.int 8) = true from decide_eq_true (by rw [h8]; rfl)]
              rw [if_pos (by omega)] at k
              exact iteT (k.stay hG)
            · rw [show decide (V.int (a.lows.length : Int) = V.int 8) = false from decide_eq_false (by intro z; injection z with z; omega)]
              rw [if_neg (by omega)] at k
              refine iteF ⟨_, rfl, g, Cg, dx, _, _, rfl, hg, T.cl, T.n3, gf_stretches _ _ _, .inl ⟨rfl, _, SqL.of G.lo⟩, _, rfl, _, rfl, _, rfl, fun np dp hnp hdp hne => ?_⟩
              refine ⟨np, dp, (x : Int), (y : Int), (q : Int), rfl, upd_same, rfl, ?_⟩
              rw [upd_upd]
              have up : ∀ b o, H b = some o → upd (upd H dp (.own np)) np (.ins Cs dp (sf x y q)) b = some o := fun b o e => by
                rw [upd_ne (ne_of_none e hnp), upd_ne (ne_of_none e hdp)]; exact e
              generalize hH1 : upd (upd H dp (.own np)) np (.ins Cs dp (sf x y q)) = H1 at up
              have np1 : H1 np = some (.ins Cs dp (sf x y q)) := by rw [← hH1]; exact upd_same
              have gt : g ≠ t0 := ne_of hg G.lo (by intro z; cases z)
              refine ⟨t0, _, _, rfl, rfl, up _ _ G.lo, by rw [List.length_map, paired_len G.st]; exact small1000 (by show a.lows.length ≤ 30000; omega), ?_⟩
              refine ⟨_, rfl, g, Cg, dx, _, _, rfl, by rw [upd_ne gt]; exact up _ _ hg, T.cl, T.n3, gf_stretches _ _ _, t0, _, rfl, .inl (SqL.of upd_same), _, _, rfl, rfl, ?_⟩
              have elen : (((ss.map V.ref ++ [V.ref np]).length : Nat) : Int) - 1 = ((a.lows.length : Nat) : Int) := by
                rw [List.length_append, List.length_map, paired_len G.st]; show (((a.lows.length + 1 : Nat)) : Int) - 1 = _; omega
              show Q (.int ((((ss.map V.ref ++ [V.ref np]).length : Nat) : Int) - 1)) _
              rw [elen]
              refine k _ (g :: r0 :: p0 :: t0 :: (ss ++ [np])) ⟨r0, p0, t0, ss ++ [np], ?_, rfl⟩ (fun b hb => ?_) fun b o hb e => ?_
              · refine ⟨⟨dx, by rw [upd_ne gt]; exact up _ _ hg⟩, by rw [upd_ne (Ne.symm (G.tr W))]; exact up _ _ G.rk, by rw [upd_ne (Ne.symm (G.tp W))]; exact up _ _ G.pr, by rw [upd_same, List.map_append]; rfl, ?_, ?_, G.rp⟩
                · refine paired_snoc (paired_imp (fun b l z => ?_) G.st) ⟨dp, ?_⟩
                  · obtain ⟨d, e⟩ := z
                    exact ⟨d, by rw [upd_ne (ne_of e G.lo (by intro z; cases z))]; exact up _ _ e⟩
                  · rw [upd_ne (Ne.symm (ne_of_none G.lo hnp))]; exact np1
                · refine List.nodup_append.mpr ⟨G.nd, by simp, fun b hb c hc z => ?_⟩
                  rw [List.mem_singleton.mp hc] at z
                  obtain ⟨j, hj, ej⟩ := List.getElem_of_mem hb
                  obtain ⟨l, _, d, e⟩ := paired_get G.st (List.getElem?_eq_getElem hj)
                  rw [ej, z, hnp] at e
                  cases e
              · rw [eF]
                rcases List.mem_cons.mp hb with z | hb
                · exact .inl (by rw [z]; exact List.mem_cons_self)
                · rcases List.mem_cons.mp hb with z | hb
                  · exact .inl (by rw [z]; simp)
                  · rcases List.mem_cons.mp hb with z | hb
                    · exact .inl (by rw [z]; simp)
                    · rcases List.mem_cons.mp hb with z | hb
                      · exact .inl (by rw [z]; simp)
                      · rcases List.mem_append.mp hb with z | z
                        · exact .inl (by simp [z])
                        · exact .inr (by rw [List.mem_singleton.mp z]; exact hnp)
              · rw [upd_ne (fun z => hb (by rw [z, eF]; simp))]; exact up b o e
          · rw [decide_eq_false h2]
            exact iteT (bad (by omega))
        · rw [if_neg (by rw [decide_eq_false h1]; exact Bool.false_ne_true)]
          exact ⟨_, rfl, iteT (bad (by omega))⟩
    · rw [show decide (y < stN (some a)) = false from decide_eq_false hy]
      exact iteT (iteT (bad (by omega)))
end
end Cv
end
section
namespace Cv
open PySem PySem.Spec PyProof.Rows L2 HT
def rockCall (s : Nat) (b : Bool) : Kv365.Call := if b then .rock s else .norock s
def spGRock (Cg Cs : Addr) : Sp := fun vs H Q _ => ∃ (g : Addr) (a : Kv365.Abs) (s : Nat) (b : Bool), vs = [.ref g, .int (s : Int), .bl b] ∧ DoesIt Cg Cs H g a (rockCall s b) Q
theorem rocky_set {a a' : Kv365.Abs} {s : Nat} {b : Bool} (hn : a'.n = a.n) (hs : s < a.n) (h : ∀ t, t < a.n → a'.rocks.contains t = if t = s then b else a.rocks.contains t) : (rockyOf (some a)).set s b = rockyOf (some a') := by
  refine List.ext_getElem? fun i => ?_
  show (((List.range a.n).map fun s => a.rocks.contains s).set s b)[i]? = ((List.range a'.n).map fun s => a'.rocks.contains s)[i]?
  rw [hn, List.getElem?_set, List.getElem?_map, List.getElem?_map]
  by_cases hi : i < a.n
  · rw [List.getElem?_range hi]
    by_cases e : s = i
    · subst e
      rw [if_pos rfl, if_pos (by rw [List.length_map, List.length_range]; exact hs)]
      show some b = some (a'.rocks.contains s)
      rw [h s hs, if_pos rfl]
    · rw [if_neg e]
      show some (a.rocks.contains i) = some (a'.rocks.contains i)
      rw [h i hi, if_neg (Ne.symm e)]
  · rw [List.getElem?_eq_none (by rw [List.length_range]; omega)]
    by_cases e : s = i
    · exact absurd hs (by omega)
    · rw [if_neg e]; rfl
theorem rocky_count {a : Kv365.Abs} (W : My.Wf a) : (rockyOf (some a)).count true = a.rocks.length := by
  have e1 : (rockyOf (some a)).count true = ((List.range a.n).filter fun s => a.rocks.contains s).length := by
    show ((List.range a.n).map fun s => a.rocks.contains s).count true = _
    rw [List.count, List.countP_map, List.countP_eq_length_filter]
    congr 1
    refine List.filter_congr fun x _ => ?_
    show ((a.rocks.contains x) == true) = a.rocks.contains x
    cases a.rocks.contains x <;> rfl
  rw [e1]
  refine List.Perm.length_eq ((List.perm_ext_iff_of_nodup (List.nodup_range.filter _) W.rnd).mpr fun x => ?_)
  rw [List.mem_filter, List.mem_range, List.contains_iff_mem]
  exact ⟨fun h => h.2, fun h => ⟨W.rk x h, h⟩⟩
section
variable {P : Program} {w : World} {K : PySem.W.Frag} {mg : Str → Option Value} {base : Heap}
theorem scGRock : FnScope ["self", "station", "there"] ["self", "station", "there"] (defScope sGRock) := ⟨rfl, rfl, rfl, by decide +kernel, rfl, by decide +kernel, by decide +kernel⟩
theorem ok_gRock {f Cg Cs fH : Addr} {fd fdH : FuncData} (F0 : Fun K "set_rock" "Ground.set_rock" sGRock f fd) (T : TxtG K mg Cg) (N : TxtN mg) (GH : FnOk P w K mg base CX0 1 fH fdH ["self", "station"] (spHasStation Cg Cs)) (bH : Binds K fdH ["self", "station"] []) (mH : Meth K Cg "has_station" fH)
    {fR : Addr} {fdR : FuncData} (GR : FnOk P w K mg base CX0 1 fR fdR ["self"] (spRockCount Cg Cs)) (bR : Binds K fdR ["self"] []) (mR : Meth K Cg "rock_count" fR) : FnOk P w K mg base CX0 2 f fd ["self", "station", "there"] (spGRock Cg Cs) := by
  refine F0.ok scGRock (fun vs H Q E h => ?_) (fun cdv A outer s0 H vs Q E hr h => ?_)
  · obtain ⟨g, a, s, b, rfl, _⟩ := h
    rfl
  · obtain ⟨g, a, s, b, rfl, F, hG, W, k⟩ := h
    obtain ⟨r0, p0, t0, ss, G, eF⟩ := id hG
    obtain ⟨dx, hg⟩ := G.ins
    obtain ⟨u1, m1, w1⟩ := N.noneSuch
    obtain ⟨u2, m2, w2⟩ := N.alreadySo
    refine ⟨_, pss_cons (ps_if (pt_not (pt_val (pe_meth (pv 0) T.cl mH GH hr bH .nil pass0 (pa_cons (pv 1) pa_nil)))) (pss_one (ps_ret (pe_glob rfl m1 w1))) pss_nil)
      (pss_cons (ps_if (pt_cmpR op_eq (pe_ix ix_list (pe_fld (pv 0) rfl) (pv 1) (fun _ _ => rfl)) (pv 2) (nomark _)) (pss_one (ps_ret (pe_glob rfl m2 w2))) pss_nil)
      (pss_cons (ps_asg (pv 2) (pg_sub (pe_fld (pv 0) rfl) (pv 1) set_list)) (pss_one (ps_ret (pe_meth0 (pv 0) T.cl mR GR hr bR .nil pass0))))), ?_⟩
    have Wd := W.does (rockCall s b)
    refine ⟨_, rfl, g, dx, _, rfl, hg, gf_no _ _ _ (by decide +kernel) (by decide +kernel) (by decide +kernel), _, rfl, g, some a, s, rfl, hG.gnd, _, rfl, ?_⟩
    by_cases hs : s < a.n
    · rw [show decide (s < stN (some a)) = true from decide_eq_true hs]
      obtain ⟨a0, ea, hb0⟩ := rockyOf_at (st := some a) hs
      cases ea
      have gi : ((rockyOf (some a)).map V.bl)[s]? = some (V.bl (a.rocks.contains s)) := by rw [List.getElem?_map, hb0]; rfl
      refine iteF ⟨_, rfl, g, Cg, dx, _, _, rfl, hg, T.cl, T.n1, gf_rocky _ _ _, _, rfl, r0, _, _, _, rfl, rfl, SqL.of G.rk, at_of (j := s) rfl gi, _, rfl, rfl, _, rfl, ?_⟩
      by_cases hc : a.rocks.contains s = b
      · rw [show decide (V.bl (a.rocks.contains s) = V.bl b) = true from decide_eq_true (by rw [hc])]
        have e : a.does (rockCall s b) = (a, Kv365.say (-17)) := by
          cases b with
          | true => show a.does (.rock s) = _; simp only [Kv365.Abs.does, if_neg (show ¬ a.n ≤ s by omega), hc, if_true]
          | false => show a.does (.norock s) = _; simp only [Kv365.Abs.does, if_neg (show ¬ a.n ≤ s by omega), hc, if_true]
        rw [e] at k
        exact iteT (k.stay hG)
      · rw [show decide (V.bl (a.rocks.contains s) = V.bl b) = false from decide_eq_false (by intro z; injection z with z; exact hc z)]
        have lenr : s < ((rockyOf (some a)).map V.bl).length := by rw [List.length_map, rockyOf_len]; exact hs
        have gr : g ≠ r0 := ne_of hg G.rk (by intro z; cases z)
        have key : (a.does (rockCall s b)).1.n = a.n ∧ (a.does (rockCall s b)).1.price = a.price ∧ (a.does (rockCall s b)).1.lows = a.lows ∧ (∀ t, t < a.n → (a.does (rockCall s b)).1.rocks.contains t = if t = s then b else a.rocks.contains t) ∧ (a.does (rockCall s b)).2.ret = ((a.does (rockCall s b)).1.rocks.length : Nat) := by
          cases b with
          | true =>
            have hcf : a.rocks.contains s = false := by simpa using hc
            have e : a.does (rockCall s true) = ({ a with rocks := s :: a.rocks }, Kv365.say (a.rocks.length + 1 : Nat)) := by
              show a.does (.rock s) = _; simp only [Kv365.Abs.does, if_neg (show ¬ a.n ≤ s by omega), hcf, Bool.false_eq_true, if_false]
            rw [e]
            refine ⟨rfl, rfl, rfl, fun t ht => ?_, rfl⟩
            show (s :: a.rocks).contains t = _
            rw [List.contains_cons]
            by_cases et : t = s
            · subst et; simp
            · rw [if_neg et, beq_eq_false_iff_ne.mpr et, Bool.false_or]
          | false =>
            have hct : a.rocks.contains s = true := by simpa using hc
            have e : a.does (rockCall s false) = ({ a with rocks := a.rocks.filter fun t => t != s }, Kv365.say (a.rocks.length - 1 : Nat)) := by
              show a.does (.norock s) = _; simp only [Kv365.Abs.does, if_neg (show ¬ a.n ≤ s by omega), hct, Bool.true_eq_false, if_false]
            rw [e]
            refine ⟨rfl, rfl, rfl, fun t ht => ?_, ?_⟩
            · show (a.rocks.filter fun t => t != s).contains t = _
              rw [Bool.eq_iff_iff, List.contains_iff_mem, List.mem_filter]
              by_cases et : t = s
              · subst et; simp
              · rw [if_neg et, List.contains_iff_mem]; simp [et]
            · show ((a.rocks.length - 1 : Nat) : Int) = ((a.rocks.filter fun t => t != s).length : Nat)
              have h1 := List.Nodup.erase_eq_filter W.rnd s
              have h2 := List.length_erase_of_mem (List.contains_iff_mem.mp hct)
              rw [← h1, h2]
        obtain ⟨k1, k2, k3, k4, k5⟩ := key
        have es := rocky_set (a' := (a.does (rockCall s b)).1) k1 hs k4
        have er : ((rockyOf (some a)).map V.bl).set s (V.bl b) = (rockyOf (some (a.does (rockCall s b)).1)).map V.bl := by rw [← es, List.map_set]
        refine iteF ⟨_, rfl, _, rfl, g, Cg, dx, _, _, rfl, hg, T.cl, T.n1, gf_rocky _ _ _, _, rfl, r0, _, _, s, rfl, rfl, G.rk, ixN_nat lenr, ?_⟩
        rw [er]
        have hG2 : GndF Cg Cs (upd H r0 (.lst ((rockyOf (some (a.does (rockCall s b)).1)).map V.bl))) g (some (a.does (rockCall s b)).1) F := by
          refine ⟨r0, p0, t0, ss, ?_, eF⟩
          refine ⟨⟨dx, by rw [upd_ne gr]; exact hg⟩, upd_same, ?_, by rw [upd_ne (G.tr W)]; exact G.lo, ?_, G.nd, G.rp⟩
          · rw [upd_ne (Ne.symm G.rp), show priceOf (some (a.does (rockCall s b)).1) = a.price from k2]; exact G.pr
          · rw [show lowsOf (some (a.does (rockCall s b)).1) = a.lows from k3]
            exact paired_imp (fun q l z => let ⟨d, e⟩ := z; ⟨d, by rw [upd_ne (ne_of e G.rk (by intro z; cases z))]; exact e⟩) G.st
        refine ⟨_, rfl, g, dx, _, rfl, by rw [upd_ne gr]; exact hg, gf_no _ _ _ (by decide +kernel) (by decide +kernel) (by decide +kernel), g, some (a.does (rockCall s b)).1, rfl, hG2.gnd, ?_⟩
        rw [rocky_count Wd, ← k5]
        refine k _ F hG2 (fun b hb => .inl hb) fun b o hb e => ?_
        rw [upd_ne (fun z => hb (by rw [z, eF]; simp))]; exact e
    · rw [show decide (s < stN (some a)) = false from decide_eq_false hs]
      have e : a.does (rockCall s b) = (a, Kv365.say (-2)) := by
        cases b with
        | true => show a.does (.rock s) = _; simp only [Kv365.Abs.does, if_pos (show a.n ≤ s by omega)]
        | false => show a.does (.norock s) = _; simp only [Kv365.Abs.does, if_pos (show a.n ≤ s by omega)]
      rw [e] at k
      exact iteT (k.stay hG)
end
end Cv
end
section
namespace Cv
open PySem PySem.Spec PyProof.Rows L2 HT
abbrev sHBegin : Stmt := top 41
abbrev sHLow : Stmt := top 42
abbrev sHDrop : Stmt := top 43
abbrev sHWater : Stmt := top 44
abbrev sHRock : Stmt := top 45
abbrev sHNorock : Stmt := top 46
abbrev sHPrice : Stmt := top 47
def ansV (x : Kv365.Ans) : List V := V.int x.ret :: natV x.nums
def Hands (Cg Cs Pt : Addr) (H : Hp) (g : Addr) (F : List Addr) (st' : Kv365.State) (x : Kv365.Ans) (Q : VK) : Prop :=
  ∀ (H' : Hp) (F' : List Addr) (D : Addr), GndF Cg Cs H' g st' F' → (∀ b ∈ F', b ∈ F ∨ H b = none) → (∀ b o, b ≠ Pt → b ∉ F → H b = some o → H' b = some o) → Tab H' Pt → (∀ b o, b ≠ Pt → b ∉ F → H b = some o → b ≠ D) → D ∉ F' → H' D = some (.lst (ansV x)) → Q (.ref D) H'
def spHand (Cg Cs Pt : Addr) (n : Nat) (cs : List Nat → List Nat → Kv365.Call) : PySem.W.Frag → Sp := fun K vs H Q _ => ∃ (g nu ro : Addr) (a : Kv365.Abs) (F : List Addr) (ns row : List Nat), vs = [.ref g, .ref nu, .ref ro] ∧ GndF Cg Cs H g (some a) F ∧ My.Wf a ∧ Tab H Pt ∧ SqL K H nu (natV ns) ∧ ns.length = n ∧ SqL K H ro (natV row) ∧ row.length ≤ 30000 ∧
  Hands Cg Cs Pt H g F (some (a.does (cs ns row)).1) (a.does (cs ns row)).2 Q
def spHandB (Cg Cs Pt : Addr) : PySem.W.Frag → Sp := fun K vs H Q _ => ∃ (g nu ro : Addr) (st : Kv365.State) (F : List Addr) (m : Nat), vs = [.ref g, .ref nu, .ref ro] ∧ GndF Cg Cs H g st F ∧ Tab H Pt ∧ SqL K H nu (natV [m]) ∧
  Hands Cg Cs Pt H g F (beginSt st m) ⟨beginAns m, []⟩ Q
def Plain : HO → Prop
  | .ins _ _ _ => True
  | .lst _ => True
  | _ => False
theorem GndF.mem {Cg Cs : Addr} {H : Hp} {g : Addr} {st : Kv365.State} {F : List Addr} (h : GndF Cg Cs H g st F) {b : Addr} (hb : b ∈ F) : ∃ o, H b = some o ∧ Plain o := by
  obtain ⟨r, p, t, ss, G, e⟩ := h
  rw [e] at hb
  rcases List.mem_cons.mp hb with z | hb
  · obtain ⟨d, e⟩ := G.ins; rw [z]; exact ⟨_, e, trivial⟩
  · rcases List.mem_cons.mp hb with z | hb
    · rw [z]; exact ⟨_, G.rk, trivial⟩
    · rcases List.mem_cons.mp hb with z | hb
      · rw [z]; exact ⟨_, G.pr, trivial⟩
      · rcases List.mem_cons.mp hb with z | hb
        · rw [z]; exact ⟨_, G.lo, trivial⟩
        · obtain ⟨j, hj, ej⟩ := List.getElem_of_mem hb
          obtain ⟨l, _, d, e⟩ := paired_get G.st (List.getElem?_eq_getElem hj)
          rw [ej] at e; exact ⟨_, e, trivial⟩
theorem GndF.out {Cg Cs : Addr} {H : Hp} {g : Addr} {st : Kv365.State} {F : List Addr} (h : GndF Cg Cs H g st F) {b : Addr} {o : HO} (e : H b = some o) (n : ¬ Plain o) : b ∉ F := fun hb => by
  obtain ⟨o', e', p⟩ := h.mem hb
  rw [e] at e'; cases e'; exact n p
theorem Tab.frame {Cg Cs : Addr} {H H' : Hp} {g Pt : Addr} {st : Kv365.State} {F : List Addr} (hT : Tab H Pt) (hG : GndF Cg Cs H g st F) (k : ∀ b o, b ∉ F → H b = some o → H' b = some o) : Tab H' Pt := by
  rcases hT with q | ⟨c1, q1, q2⟩
  · exact .inl (k _ _ (hG.out q fun z => z) q)
  · exact .inr ⟨c1, k _ _ (hG.out q1 fun z => z) q1, k _ _ (hG.out q2 fun z => by unfold codeAtHO at z; exact z) q2⟩
theorem Hands.of {Cg Cs Pt : Addr} {H : Hp} {g : Addr} {F : List Addr} {st st' : Kv365.State} {v : Int} {Q : VK} (k : Hands Cg Cs Pt H g F st' ⟨v, []⟩ Q) (hT : Tab H Pt) (hG : GndF Cg Cs H g st F) :
    Moves Cg Cs H g F st' (.int v) fun y H1 => [y].length ≤ sizeLine ∧ ∀ D, H1 D = none → Q (.ref D) (upd H1 D (.lst [y])) := by
  intro H1 F1 h1 h2 h3
  refine ⟨by rw [sizeLine_eq]; show 1 ≤ _; omega, fun D hD => ?_⟩
  have s1 : Same H1 (upd H1 D (.lst [.int v])) := same_new hD
  have hDF : D ∉ F1 := fun z => by obtain ⟨o, e, _⟩ := h1.mem z; rw [hD] at e; cases e
  exact k _ F1 D (h1.same s1) h2 (fun b o _ hb e => s1 _ _ (h3 b o hb e)) ((hT.frame hG h3).same s1) (fun b o _ hb e => ne_of_none (h3 b o hb e) hD) hDF upd_same
section
variable {P : Program} {w : World} {K : PySem.W.Frag} {mg : Str → Option Value} {base : Heap}
abbrev hps : List Str := ["ground", "numbers", "row"]
theorem scHBegin : FnScope hps hps (defScope sHBegin) := ⟨rfl, rfl, rfl, by decide +kernel, rfl, by decide +kernel, by decide +kernel⟩
theorem ok_hBegin {f Cg Cs Pt fM : Addr} {fd fdM : FuncData} (F0 : Fun K "begin" "begin" sHBegin f fd) (T : TxtG K mg Cg) (GM : FnOk P w K mg base CX0 1 fM fdM ["self", "stations"] (spGBegin Cg Cs)) (bM : Binds K fdM ["self", "stations"] []) (mM : Meth K Cg "begin" fM) : FnOk P w K mg base CX0 2 f fd hps (spHandB Cg Cs Pt K) := by
  refine F0.ok scHBegin (fun vs H Q E h => ?_) (fun cdv A outer s0 H vs Q E hr h => ?_)
  · obtain ⟨g, nu, ro, st, F, m, rfl, _⟩ := h
    rfl
  · obtain ⟨g, nu, ro, st, F, m, rfl, hG, hT, hN, k⟩ := h
    obtain ⟨r0, p0, t0, ss, G, eF⟩ := id hG
    obtain ⟨dx, hg⟩ := G.ins
    refine ⟨_, pss_one (ps_ret (pe_lst (pa_cons (pe_meth (pv 0) T.cl mM GM hr bM .nil pass0 (pa_cons (pe_ix ix_list (pv 1) pe_int (fun _ _ => rfl)) pa_nil)) pa_nil))), ?_⟩
    refine ⟨_, rfl, g, dx, _, rfl, hg, gf_no _ _ _ (by decide +kernel) (by decide +kernel) (by decide +kernel), _, rfl, nu, _, _, _, rfl, rfl, hN, at_of (j := 0) rfl rfl, g, st, F, m, rfl, hG, ?_⟩
    exact Hands.of k hT hG
theorem list1 {ns : List Nat} (h : ns.length = 1) : ∃ x, ns = [x] := by
  match ns, h with
  | [x], _ => exact ⟨x, rfl⟩
theorem list2 {ns : List Nat} (h : ns.length = 2) : ∃ x y, ns = [x, y] := by
  match ns, h with
  | [x, y], _ => exact ⟨x, y, rfl⟩
theorem list3 {ns : List Nat} (h : ns.length = 3) : ∃ x y z, ns = [x, y, z] := by
  match ns, h with
  | [x, y, z], _ => exact ⟨x, y, z, rfl⟩
theorem ans_one {a : Kv365.Abs} {c : Kv365.Call} (h : (a.does c).2.nums = []) : (a.does c).2 = ⟨(a.does c).2.ret, []⟩ := by
  cases e : (a.does c).2 with
  | mk r n => rw [e] at h; cases h; rfl
theorem nums_low (a : Kv365.Abs) (x y q : Nat) : (a.does (.low x y q)).2.nums = [] := by
  simp only [Kv365.Abs.does]; split
  · rfl
  · split <;> rfl
theorem nums_drop (a : Kv365.Abs) (i : Nat) : (a.does (.drop i)).2.nums = [] := by
  simp only [Kv365.Abs.does]; split <;> rfl
theorem nums_water (a : Kv365.Abs) (i q : Nat) : (a.does (.water i q)).2.nums = [] := by
  simp only [Kv365.Abs.does]; split
  · rfl
  · split <;> rfl
theorem nums_rock (a : Kv365.Abs) (s : Nat) (b : Bool) : (a.does (rockCall s b)).2.nums = [] := by
  cases b with
  | true =>
    show (a.does (.rock s)).2.nums = []
    simp only [Kv365.Abs.does]; split
    · rfl
    · split <;> rfl
  | false =>
    show (a.does (.norock s)).2.nums = []
    simp only [Kv365.Abs.does]; split
    · rfl
    · split <;> rfl
theorem nums_price (a : Kv365.Abs) (s c : Nat) : (a.does (.price s c)).2.nums = [] := by
  simp only [Kv365.Abs.does]; split
  · rfl
  · split <;> rfl
theorem scHLow : FnScope hps hps (defScope sHLow) := ⟨rfl, rfl, rfl, by decide +kernel, rfl, by decide +kernel, by decide +kernel⟩
def cLow (ns _row : List Nat) : Kv365.Call := .low (ns.getD 0 0) (ns.getD 1 0) (ns.getD 2 0)
theorem ok_hLow {f Cg Cs Pt fM : Addr} {fd fdM : FuncData} (F0 : Fun K "low" "low" sHLow f fd) (T : TxtG K mg Cg) (GM : FnOk P w K mg base CX0 3 fM fdM ["self", "first", "last", "flow"] (spGLow Cg Cs)) (bM : Binds K fdM ["self", "first", "last", "flow"] []) (mM : Meth K Cg "low" fM) : FnOk P w K mg base CX0 4 f fd hps (spHand Cg Cs Pt 3 cLow K) := by
  refine F0.ok scHLow (fun vs H Q E h => ?_) (fun cdv A outer s0 H vs Q E hr h => ?_)
  · obtain ⟨g, nu, ro, a, F, ns, row, rfl, _⟩ := h
    rfl
  · obtain ⟨g, nu, ro, a, F, ns, row, rfl, hG, W, hT, hN, hl, hR, hrl, k⟩ := h
    obtain ⟨x, y, z, rfl⟩ := list3 hl
    obtain ⟨r0, p0, t0, ss, G, eF⟩ := id hG
    obtain ⟨dx, hg⟩ := G.ins
    refine ⟨_, pss_one (ps_ret (pe_lst (pa_cons (pe_meth (pv 0) T.cl mM GM hr bM .nil pass0 (pa_cons (pe_ix ix_list (pv 1) pe_int (fun _ _ => rfl)) (pa_cons (pe_ix ix_list (pv 1) pe_int (fun _ _ => rfl)) (pa_cons (pe_ix ix_list (pv 1) pe_int (fun _ _ => rfl)) pa_nil)))) pa_nil))), ?_⟩
    refine ⟨_, rfl, g, dx, _, rfl, hg, gf_no _ _ _ (by decide +kernel) (by decide +kernel) (by decide +kernel), _, rfl, nu, _, _, _, rfl, rfl, hN, at_of (j := 0) rfl rfl, _, rfl, nu, _, _, _, rfl, rfl, hN, at_of (j := 1) rfl rfl, _, rfl, nu, _, _, _, rfl, rfl, hN, at_of (j := 2) rfl rfl, g, a, x, y, z, rfl, F, hG, W, ?_⟩
    have k' : Hands Cg Cs Pt H g F (some (a.does (.low x y z)).1) (a.does (.low x y z)).2 Q := k
    rw [ans_one (nums_low a x y z)] at k'
    exact Hands.of k' hT hG
end
end Cv
end
section
namespace Cv
open PySem PySem.Spec PyProof.Rows L2 HT
section
variable {P : Program} {w : World} {K : PySem.W.Frag} {mg : Str → Option Value} {base : Heap}
theorem scHDrop : FnScope hps hps (defScope sHDrop) := ⟨rfl, rfl, rfl, by decide +kernel, rfl, by decide +kernel, by decide +kernel⟩
def cDrop (ns _row : List Nat) : Kv365.Call := .drop (ns.getD 0 0)
theorem ok_hDrop {f Cg Cs Pt fM : Addr} {fd fdM : FuncData} (F0 : Fun K "drop" "drop" sHDrop f fd) (T : TxtG K mg Cg) (GM : FnOk P w K mg base CX0 2 fM fdM ["self", "number"] (spGDrop Cg Cs)) (bM : Binds K fdM ["self", "number"] []) (mM : Meth K Cg "drop" fM) : FnOk P w K mg base CX0 3 f fd hps (spHand Cg Cs Pt 1 cDrop K) := by
  refine F0.ok scHDrop (fun vs H Q E h => ?_) (fun cdv A outer s0 H vs Q E hr h => ?_)
  · obtain ⟨g, nu, ro, a, F, ns, row, rfl, _⟩ := h
    rfl
  · obtain ⟨g, nu, ro, a, F, ns, row, rfl, hG, W, hT, hN, hl, hR, hrl, k⟩ := h
    obtain ⟨x, rfl⟩ := list1 hl
    obtain ⟨r0, p0, t0, ss, G, eF⟩ := id hG
    obtain ⟨dx, hg⟩ := G.ins
    refine ⟨_, pss_one (ps_ret (pe_lst (pa_cons (pe_meth (pv 0) T.cl mM GM hr bM .nil pass0 (pa_cons (pe_ix ix_list (pv 1) pe_int (fun _ _ => rfl)) pa_nil)) pa_nil))), ?_⟩
    refine ⟨_, rfl, g, dx, _, rfl, hg, gf_no _ _ _ (by decide +kernel) (by decide +kernel) (by decide +kernel), _, rfl, nu, _, _, _, rfl, rfl, hN, at_of (j := 0) rfl rfl, g, a, x, rfl, F, hG, W, ?_⟩
    have k' : Hands Cg Cs Pt H g F (some (a.does (.drop x)).1) (a.does (.drop x)).2 Q := k
    rw [ans_one (nums_drop a x)] at k'
    exact Hands.of k' hT hG
theorem scHWater : FnScope hps hps (defScope sHWater) := ⟨rfl, rfl, rfl, by decide +kernel, rfl, by decide +kernel, by decide +kernel⟩
def cWater (ns _row : List Nat) : Kv365.Call := .water (ns.getD 0 0) (ns.getD 1 0)
theorem ok_hWater {f Cg Cs Pt fM : Addr} {fd fdM : FuncData} (F0 : Fun K "water" "water" sHWater f fd) (T : TxtG K mg Cg) (GM : FnOk P w K mg base CX0 2 fM fdM ["self", "number", "flow"] (spGWater Cg Cs)) (bM : Binds K fdM ["self", "number", "flow"] []) (mM : Meth K Cg "water" fM) : FnOk P w K mg base CX0 3 f fd hps (spHand Cg Cs Pt 2 cWater K) := by
  refine F0.ok scHWater (fun vs H Q E h => ?_) (fun cdv A outer s0 H vs Q E hr h => ?_)
  · obtain ⟨g, nu, ro, a, F, ns, row, rfl, _⟩ := h
    rfl
  · obtain ⟨g, nu, ro, a, F, ns, row, rfl, hG, W, hT, hN, hl, hR, hrl, k⟩ := h
    obtain ⟨x, y, rfl⟩ := list2 hl
    obtain ⟨r0, p0, t0, ss, G, eF⟩ := id hG
    obtain ⟨dx, hg⟩ := G.ins
    refine ⟨_, pss_one (ps_ret (pe_lst (pa_cons (pe_meth (pv 0) T.cl mM GM hr bM .nil pass0 (pa_cons (pe_ix ix_list (pv 1) pe_int (fun _ _ => rfl)) (pa_cons (pe_ix ix_list (pv 1) pe_int (fun _ _ => rfl)) pa_nil))) pa_nil))), ?_⟩
    refine ⟨_, rfl, g, dx, _, rfl, hg, gf_no _ _ _ (by decide +kernel) (by decide +kernel) (by decide +kernel), _, rfl, nu, _, _, _, rfl, rfl, hN, at_of (j := 0) rfl rfl, _, rfl, nu, _, _, _, rfl, rfl, hN, at_of (j := 1) rfl rfl, g, a, x, y, rfl, F, hG, W, ?_⟩
    have k' : Hands Cg Cs Pt H g F (some (a.does (.water x y)).1) (a.does (.water x y)).2 Q := k
    rw [ans_one (nums_water a x y)] at k'
    exact Hands.of k' hT hG
theorem scHPrice : FnScope hps hps (defScope sHPrice) := ⟨rfl, rfl, rfl, by decide +kernel, rfl, by decide +kernel, by decide +kernel⟩
def cPrice (ns _row : List Nat) : Kv365.Call := .price (ns.getD 0 0) (ns.getD 1 0)
theorem ok_hPrice {f Cg Cs Pt fM : Addr} {fd fdM : FuncData} (F0 : Fun K "price" "price" sHPrice f fd) (T : TxtG K mg Cg) (GM : FnOk P w K mg base CX0 2 fM fdM ["self", "station", "cost"] (spGPrice Cg Cs)) (bM : Binds K fdM ["self", "station", "cost"] []) (mM : Meth K Cg "price" fM) : FnOk P w K mg base CX0 3 f fd hps (spHand Cg Cs Pt 2 cPrice K) := by
  refine F0.ok scHPrice (fun vs H Q E h => ?_) (fun cdv A outer s0 H vs Q E hr h => ?_)
  · obtain ⟨g, nu, ro, a, F, ns, row, rfl, _⟩ := h
    rfl
  · obtain ⟨g, nu, ro, a, F, ns, row, rfl, hG, W, hT, hN, hl, hR, hrl, k⟩ := h
    obtain ⟨x, y, rfl⟩ := list2 hl
    obtain ⟨r0, p0, t0, ss, G, eF⟩ := id hG
    obtain ⟨dx, hg⟩ := G.ins
    refine ⟨_, pss_one (ps_ret (pe_lst (pa_cons (pe_meth (pv 0) T.cl mM GM hr bM .nil pass0 (pa_cons (pe_ix ix_list (pv 1) pe_int (fun _ _ => rfl)) (pa_cons (pe_ix ix_list (pv 1) pe_int (fun _ _ => rfl)) pa_nil))) pa_nil))), ?_⟩
    refine ⟨_, rfl, g, dx, _, rfl, hg, gf_no _ _ _ (by decide +kernel) (by decide +kernel) (by decide +kernel), _, rfl, nu, _, _, _, rfl, rfl, hN, at_of (j := 0) rfl rfl, _, rfl, nu, _, _, _, rfl, rfl, hN, at_of (j := 1) rfl rfl, g, a, x, y, rfl, F, hG, W, ?_⟩
    have k' : Hands Cg Cs Pt H g F (some (a.does (.price x y)).1) (a.does (.price x y)).2 Q := k
    rw [ans_one (nums_price a x y)] at k'
    exact Hands.of k' hT hG
theorem scHRock : FnScope hps hps (defScope sHRock) := ⟨rfl, rfl, rfl, by decide +kernel, rfl, by decide +kernel, by decide +kernel⟩
def cRock (ns _row : List Nat) : Kv365.Call := rockCall (ns.getD 0 0) true
theorem ok_hRock {f Cg Cs Pt fM : Addr} {fd fdM : FuncData} (F0 : Fun K "rock" "rock" sHRock f fd) (T : TxtG K mg Cg) (GM : FnOk P w K mg base CX0 2 fM fdM ["self", "station", "there"] (spGRock Cg Cs)) (bM : Binds K fdM ["self", "station", "there"] []) (mM : Meth K Cg "set_rock" fM) : FnOk P w K mg base CX0 3 f fd hps (spHand Cg Cs Pt 1 cRock K) := by
  refine F0.ok scHRock (fun vs H Q E h => ?_) (fun cdv A outer s0 H vs Q E hr h => ?_)
  · obtain ⟨g, nu, ro, a, F, ns, row, rfl, _⟩ := h
    rfl
  · obtain ⟨g, nu, ro, a, F, ns, row, rfl, hG, W, hT, hN, hl, hR, hrl, k⟩ := h
    obtain ⟨x, rfl⟩ := list1 hl
    obtain ⟨r0, p0, t0, ss, G, eF⟩ := id hG
    obtain ⟨dx, hg⟩ := G.ins
    refine ⟨_, pss_one (ps_ret (pe_lst (pa_cons (pe_meth (pv 0) T.cl mM GM hr bM .nil pass0 (pa_cons (pe_ix ix_list (pv 1) pe_int (fun _ _ => rfl)) (pa_cons pe_bl pa_nil))) pa_nil))), ?_⟩
    refine ⟨_, rfl, g, dx, _, rfl, hg, gf_no _ _ _ (by decide +kernel) (by decide +kernel) (by decide +kernel), _, rfl, nu, _, _, _, rfl, rfl, hN, at_of (j := 0) rfl rfl, g, a, x, true, rfl, F, hG, W, ?_⟩
    have k' : Hands Cg Cs Pt H g F (some (a.does (rockCall x true)).1) (a.does (rockCall x true)).2 Q := k
    rw [ans_one (nums_rock a x true)] at k'
    exact Hands.of k' hT hG
theorem scHNorock : FnScope hps hps (defScope sHNorock) := ⟨rfl, rfl, rfl, by decide +kernel, rfl, by decide +kernel, by decide +kernel⟩
def cNorock (ns _row : List Nat) : Kv365.Call := rockCall (ns.getD 0 0) false
theorem ok_hNorock {f Cg Cs Pt fM : Addr} {fd fdM : FuncData} (F0 : Fun K "norock" "norock" sHNorock f fd) (T : TxtG K mg Cg) (GM : FnOk P w K mg base CX0 2 fM fdM ["self", "station", "there"] (spGRock Cg Cs)) (bM : Binds K fdM ["self", "station", "there"] []) (mM : Meth K Cg "set_rock" fM) : FnOk P w K mg base CX0 3 f fd hps (spHand Cg Cs Pt 1 cNorock K) := by
  refine F0.ok scHNorock (fun vs H Q E h => ?_) (fun cdv A outer s0 H vs Q E hr h => ?_)
  · obtain ⟨g, nu, ro, a, F, ns, row, rfl, _⟩ := h
    rfl
  · obtain ⟨g, nu, ro, a, F, ns, row, rfl, hG, W, hT, hN, hl, hR, hrl, k⟩ := h
    obtain ⟨x, rfl⟩ := list1 hl
    obtain ⟨r0, p0, t0, ss, G, eF⟩ := id hG
    obtain ⟨dx, hg⟩ := G.ins
    refine ⟨_, pss_one (ps_ret (pe_lst (pa_cons (pe_meth (pv 0) T.cl mM GM hr bM .nil pass0 (pa_cons (pe_ix ix_list (pv 1) pe_int (fun _ _ => rfl)) (pa_cons pe_bl pa_nil))) pa_nil))), ?_⟩
    refine ⟨_, rfl, g, dx, _, rfl, hg, gf_no _ _ _ (by decide +kernel) (by decide +kernel) (by decide +kernel), _, rfl, nu, _, _, _, rfl, rfl, hN, at_of (j := 0) rfl rfl, g, a, x, false, rfl, F, hG, W, ?_⟩
    have k' : Hands Cg Cs Pt H g F (some (a.does (rockCall x false)).1) (a.does (rockCall x false)).2 Q := k
    rw [ans_one (nums_rock a x false)] at k'
    exact Hands.of k' hT hG
end
end Cv
end
section
namespace Cv
open PySem PySem.Spec PyProof.Rows L2 HT
abbrev sCounted : Stmt := top 48
abbrev sHFewest : Stmt := top 49
abbrev sHApart : Stmt := top 50
abbrev sHCheapest : Stmt := top 51
abbrev sHPays : Stmt := top 52
abbrev sHHits : Stmt := top 53
theorem Hands.give {Cg Cs Pt : Addr} {H H1 : Hp} {g : Addr} {F : List Addr} {st : Kv365.State} {x : Kv365.Ans} {Q : VK} (k : Hands Cg Cs Pt H g F st x Q) (hG : GndF Cg Cs H g st F) (hT : Tab H Pt) (kp : Kept Pt H H1) (hT1 : Tab H1 Pt) {D : Addr} (hD : H1 D = none) : Q (.ref D) (upd H1 D (.lst (ansV x))) := by
  have s1 : Same H1 (upd H1 D (.lst (ansV x))) := same_new hD
  obtain ⟨r, p, t, ss, G, eF⟩ := id hG
  have h1 : GndF Cg Cs H1 g st F := ⟨r, p, t, ss, G.tab hT kp, eF⟩
  have hDF : D ∉ F := fun z => by obtain ⟨o, e, _⟩ := h1.mem z; rw [hD] at e; cases e
  exact k _ F D (h1.same s1) (fun b hb => .inl hb) (fun b o hb _ e => s1 _ _ (kp b o hb e)) (hT1.same s1) (fun b o hb _ e => ne_of_none (kp b o hb e) hD) hDF upd_same
theorem row1 {y : V} : [y].length ≤ sizeLine := by rw [sizeLine_eq]; show 1 ≤ _; omega
section
variable {P : Program} {w : World} {K : PySem.W.Frag} {mg : Str → Option Value} {base : Heap}
def spCounted : PySem.W.Frag → Sp := fun K vs H Q _ => (vs = [.non] ∧ NewList H Q [.int (-33)]) ∨ ∃ (r : Addr) (m : List Nat), vs = [.ref r] ∧ SqL K H r (natV m) ∧ H r = some (.lst (natV m)) ∧ m.length ≤ 30000 ∧ NewList H Q (V.int (m.length : Int) :: natV m)
theorem scCounted : FnScope ["found"] ["found"] (defScope sCounted) := ⟨rfl, rfl, rfl, by decide +kernel, rfl, by decide +kernel, by decide +kernel⟩
theorem ok_counted {f : Addr} {fd : FuncData} (F0 : Fun K "counted" "counted" sCounted f fd) (B : TxtB mg) (N : TxtN mg) : FnOk P w K mg base CX0 1 f fd ["found"] (spCounted K) := by
  refine F0.ok scCounted (fun vs H Q E h => ?_) (fun cdv A outer s0 H vs Q E hr h => ?_)
  · rcases h with ⟨rfl, _⟩ | ⟨r, m, rfl, _⟩ <;> rfl
  · obtain ⟨u1, m1, w1⟩ := N.cannotBe
    refine ⟨_, pss_cons (ps_if (pt_cmp (pc_isN (pv 0))) (pss_one (ps_ret (pe_lst (pa_cons (pe_glob rfl m1 w1) pa_nil)))) pss_nil)
      (pss_one (ps_ret (pe_op op_cat (pe_lst (pa_cons (pe_callB call_len_seq (by rfl) B.len PySem.boot_len (pa_cons (pv 0) pa_nil)) pa_nil)) (pv 0)))), ?_⟩
    rcases h with ⟨rfl, k⟩ | ⟨r, m, rfl, hs, h1, hml, k⟩
    · exact ⟨_, rfl, _, rfl, iteT ⟨row1, fun D hD => k _ D hD upd_same (same_new hD)⟩⟩
    · refine ⟨_, rfl, _, rfl, iteF ⟨_, rfl, r, _, rfl, .inl hs, row1, fun l1 hl1 => ?_⟩⟩
      have s2 : Same H (upd H l1 (.lst [.int ((natV m).length : Int)])) := same_new hl1
      refine ⟨_, rfl, l1, r, _, _, rfl, rfl, upd_same, s2 _ _ h1, by rw [natV_len, sizeLine_eq]; show 1 + m.length ≤ _; omega, fun D hD => ?_⟩
      refine k _ D (s2.free hD) ?_ (s2.trans (same_new hD))
      rw [upd_same, natV_len]; rfl
theorem Hands.new {Cg Cs Pt : Addr} {H H1 H2 : Hp} {g : Addr} {F : List Addr} {st : Kv365.State} {x : Kv365.Ans} {Q : VK} (k : Hands Cg Cs Pt H g F st x Q) (hG : GndF Cg Cs H g st F) (hT : Tab H Pt) (kp : Kept Pt H H1) (hT1 : Tab H1 Pt) {D : Addr} (hD : H1 D = none) (h2 : H2 D = some (.lst (ansV x))) (s2 : Same H1 H2) : Q (.ref D) H2 := by
  obtain ⟨r, p, t, ss, G, eF⟩ := id hG
  have h1 : GndF Cg Cs H1 g st F := ⟨r, p, t, ss, G.tab hT kp, eF⟩
  have hDF : D ∉ F := fun z => by obtain ⟨o, e, _⟩ := h1.mem z; rw [hD] at e; cases e
  exact k _ F D (h1.same s2) (fun b hb => .inl hb) (fun b o hb _ e => s2 _ _ (kp b o hb e)) (hT1.same s2) (fun b o hb _ e => ne_of_none (kp b o hb e) hD) hDF h2
theorem scHFewest : FnScope ["ground", "numbers", "row"] hps (defScope sHFewest) := ⟨rfl, rfl, rfl, by decide +kernel, rfl, by decide +kernel, by decide +kernel⟩
theorem ok_hFewest {f Cg Cs Pt fL fC : Addr} {fd fdL fdC : FuncData} (F0 : Fun K "fewest" "fewest" sHFewest f fd) (gL : mg "fewest_row" = some (.ref fL)) (kL : PySem.W.keepIn K (.ref fL) = true) (GL : FnOk P w K mg base CX0 5 fL fdL ["ground"] (spFewestRow Cg Cs)) (bL : Binds K fdL ["ground"] [])
    (gC : mg "counted" = some (.ref fC)) (kC : PySem.W.keepIn K (.ref fC) = true) (GC : FnOk P w K mg base CX0 1 fC fdC ["found"] (spCounted K)) (bC : Binds K fdC ["found"] []) : FnOk P w K mg base CX0 6 f fd hps (spHand Cg Cs Pt 0 (fun _ _ => .fewest) K) := by
  refine F0.ok scHFewest (fun vs H Q E h => ?_) (fun cdv A outer s0 H vs Q E hr h => ?_)
  · obtain ⟨g, nu, ro, a, F, ns, row, rfl, _⟩ := h
    rfl
  · obtain ⟨g, nu, ro, a, F, ns, row, rfl, hG, W, hT, hN, hl, hR, hrl, k⟩ := h
    refine ⟨_, pss_one (ps_ret (pe_call GC (hr.mono (by decide)) rfl gC kC bC .nil pass0 (pa_cons (pe_call GL hr rfl gL kL bL .nil pass0 (pa_cons (pv 0) pa_nil)) pa_nil))), ?_⟩
    refine ⟨_, rfl, g, a, rfl, hG.gnd, W, fun e H1 s1 => ?_, fun m e H1 r s1 h1 => ?_⟩
    · have ed : a.does .fewest = (a, Kv365.say (-33)) := by simp only [Kv365.Abs.does, Kv365.Abs.one, e]
      simp only [ed] at k
      exact .inl ⟨rfl, fun H2 D hD h2 s2 => k.new hG hT (Same.kept s1) (hT.same s1) hD h2 s2⟩
    · have ed : a.does .fewest = (a, Kv365.list m) := by simp only [Kv365.Abs.does, Kv365.Abs.one, e]
      simp only [ed] at k
      have hml : m.length ≤ 12 := by
        have := (My.mem_sets.mp (My.least_some e).1).length_le
        exact Nat.le_trans this (Nat.le_trans (freeOf_len (st := some a)) W.n12)
      exact .inr ⟨r, m, rfl, SqL.of h1, h1, by omega, fun H2 D hD h2 s2 => k.new hG hT (Same.kept s1) (hT.same s1) hD h2 s2⟩
theorem scHHits : FnScope hps hps (defScope sHHits) := ⟨rfl, rfl, rfl, by decide +kernel, rfl, by decide +kernel, by decide +kernel⟩
theorem okSet_eq (a : Kv365.Abs) (m : List Nat) : a.okSet m = (Kv365.rises m && m.all (siteOf (some a))) := by
  unfold Kv365.Abs.okSet
  congr 1
  congr 1
  funext s
  exact My.free_contains a s
theorem ok_hHits {f Cg Cs Pt fC fT : Addr} {fd fdC fdT : FuncData} (F0 : Fun K "hits" "hits" sHHits f fd) (N : TxtN mg) (gC : mg "are_culverts" = some (.ref fC)) (kC : PySem.W.keepIn K (.ref fC) = true) (GC : FnOk P w K mg base CX0 3 fC fdC ["ground", "row"] (spCulverts Cg Cs K)) (bC : Binds K fdC ["ground", "row"] [])
    (gT : mg "they_do" = some (.ref fT)) (kT : PySem.W.keepIn K (.ref fT) = true) (GT : FnOk P w K mg base CX0 4 fT fdT ["ground", "row"] (spTheyDo Cg Cs K)) (bT : Binds K fdT ["ground", "row"] []) : FnOk P w K mg base CX0 5 f fd hps (spHand Cg Cs Pt 0 (fun _ row => .hits row) K) := by
  refine F0.ok scHHits (fun vs H Q E h => ?_) (fun cdv A outer s0 H vs Q E hr h => ?_)
  · obtain ⟨g, nu, ro, a, F, ns, row, rfl, _⟩ := h
    rfl
  · obtain ⟨g, nu, ro, a, F, ns, row, rfl, hG, W, hT, hN, hl, hR, hrl, k⟩ := h
    obtain ⟨u1, m1, w1⟩ := N.outOfRange
    refine ⟨_, pss_cons (ps_if (pt_not (pt_val (pe_call GC (hr.mono (by decide)) rfl gC kC bC .nil pass0 (pa_cons (pv 0) (pa_cons (pv 2) pa_nil))))) (pss_one (ps_ret (pe_lst (pa_cons (pe_glob rfl m1 w1) pa_nil)))) pss_nil)
      (pss_one (ps_ret (pe_lst (pa_cons (pe_ifExp (pt_val (pe_call GT hr rfl gT kT bT .nil pass0 (pa_cons (pv 0) (pa_cons (pv 2) pa_nil)))) pe_int pe_int) pa_nil)))), ?_⟩
    refine ⟨_, rfl, _, rfl, g, ro, some a, row, rfl, hG.gnd, hR, hrl, fun H1 s1 => ⟨_, rfl, ?_⟩⟩
    rw [← okSet_eq]
    cases e : a.okSet row with
    | false =>
      have ed : a.does (.hits row) = (a, Kv365.say (-22)) := by simp only [Kv365.Abs.does, e, if_true]
      simp only [ed] at k
      exact iteT ⟨row1, fun D hD => k.give hG hT (Same.kept s1) (hT.same s1) hD⟩
    | true =>
      have ed : a.does (.hits row) = (a, Kv365.say (Kv365.bit (a.hits row) : Nat)) := by simp only [Kv365.Abs.does, e, Bool.true_eq_false, if_false]
      simp only [ed] at k
      refine iteF ⟨_, rfl, _, rfl, g, ro, some a, row, rfl, (hG.same s1).gnd, W.ll, s1.seq hR, hrl, fun H2 s2 => ⟨_, rfl, ?_⟩⟩
      have eh : ((lowsOf (some a)).all fun l => row.any l.has) = a.hits row := rfl
      rw [eh]
      cases e2 : a.hits row with
      | true =>
        rw [e2] at k
        exact iteT ⟨row1, fun D hD => k.give hG hT (Same.kept (s1.trans s2)) (hT.same (s1.trans s2)) hD⟩
      | false =>
        rw [e2] at k
        exact iteF ⟨row1, fun D hD => k.give hG hT (Same.kept (s1.trans s2)) (hT.same (s1.trans s2)) hD⟩
end
end Cv
end
section
namespace Cv
open PySem PySem.Spec PyProof.Rows L2 HT
theorem cast_sum : ∀ l : List Nat, (l.map fun (i : Nat) => (i : Int)).sum = ((l.sum : Nat) : Int)
  | [] => rfl
  | x :: l => by rw [List.map_cons, List.sum_cons, List.sum_cons, cast_sum l]; omega
theorem natV_ints (l : List Nat) : natV l = (l.map fun (i : Nat) => (i : Int)).map V.int := by rw [List.map_map]; rfl
section
variable {P : Program} {w : World} {K : PySem.W.Frag} {mg : Str → Option Value} {base : Heap}
theorem scHApart : FnScope ["ground", "numbers", "row"] hps (defScope sHApart) := ⟨rfl, rfl, rfl, by decide +kernel, rfl, by decide +kernel, by decide +kernel⟩
theorem ok_hApart {f Cg Cs Pt fS fA fC : Addr} {fd fdS fdA fdC : FuncData} (F0 : Fun K "apart" "apart" sHApart f fd) (N : TxtN mg) (gS : mg "some_do" = some (.ref fS)) (kS : PySem.W.keepIn K (.ref fS) = true) (GS : FnOk P w K mg base CX0 5 fS fdS ["ground"] (spSomeDo Cg Cs)) (bS : Binds K fdS ["ground"] [])
    (gA : mg "apart_numbers" = some (.ref fA)) (kA : PySem.W.keepIn K (.ref fA) = true) (GA : FnOk P w K mg base CX0 6 fA fdA ["ground"] (spApart Cg Cs Pt)) (bA : Binds K fdA ["ground"] [])
    (gC : mg "counted" = some (.ref fC)) (kC : PySem.W.keepIn K (.ref fC) = true) (GC : FnOk P w K mg base CX0 1 fC fdC ["found"] (spCounted K)) (bC : Binds K fdC ["found"] []) : FnOk P w K mg base CX0 7 f fd hps (spHand Cg Cs Pt 0 (fun _ _ => .apart) K) := by
  refine F0.ok scHApart (fun vs H Q E h => ?_) (fun cdv A outer s0 H vs Q E hr h => ?_)
  · obtain ⟨g, nu, ro, a, F, ns, row, rfl, _⟩ := h
    rfl
  · obtain ⟨g, nu, ro, a, F, ns, row, rfl, hG, W, hT, hN, hl, hR, hrl, k⟩ := h
    obtain ⟨u1, m1, w1⟩ := N.cannotBe
    refine ⟨_, pss_cons (ps_if (pt_not (pt_val (pe_call GS (hr.mono (by decide)) rfl gS kS bS .nil pass0 (pa_cons (pv 0) pa_nil)))) (pss_one (ps_ret (pe_lst (pa_cons (pe_glob rfl m1 w1) pa_nil)))) pss_nil)
      (pss_one (ps_ret (pe_call GC (hr.mono (by decide)) rfl gC kC bC .nil pass0 (pa_cons (pe_call GA hr rfl gA kA bA .nil pass0 (pa_cons (pv 0) pa_nil)) pa_nil)))), ?_⟩
    refine ⟨_, rfl, g, some a, rfl, hG.gnd, W.ll, W.n12, fun H1 s1 => ⟨_, rfl, ?_⟩⟩
    have eh : ((lowsOf (some a)).all fun l => (freeOf (some a)).any l.has) = a.hits a.free := rfl
    rw [eh]
    have en := My.fewest_none a
    cases e : a.hits a.free with
    | false =>
      rw [e] at en
      have ed : a.does .apart = (a, Kv365.say (-33)) := by simp only [Kv365.Abs.does, en, Bool.not_false, if_true]
      simp only [ed] at k
      exact iteT ⟨row1, fun D hD => k.give hG hT (Same.kept s1) (hT.same s1) hD⟩
    | true =>
      rw [e] at en
      have ed : a.does .apart = (a, Kv365.list a.apart) := by simp only [Kv365.Abs.does, en, Bool.not_true, Bool.false_eq_true, if_false]
      simp only [ed] at k
      refine iteF ⟨_, rfl, g, a, rfl, (hG.same s1).gnd, W, hT.same s1, fun H2 r h2 _ k2 hT2 => ?_⟩
      have kp : Kept Pt H H2 := (Same.kept s1).trans k2
      have hml : a.apart.length ≤ 8 := by rw [← apartAt_all]; exact apartAt_len W _
      exact .inr ⟨r, a.apart, rfl, SqL.of h2, h2, by omega, fun H3 D hD h3 s3 => k.new hG hT kp hT2 hD h3 s3⟩
theorem scHPays : FnScope ["ground", "numbers", "row", "paid"] hps (defScope sHPays) := ⟨rfl, rfl, rfl, by decide +kernel, rfl, by decide +kernel, by decide +kernel⟩
theorem ok_hPays {f Cg Cs Pt fS fA : Addr} {fd fdS fdA : FuncData} (F0 : Fun K "pays" "pays" sHPays f fd) (B : TxtB mg) (N : TxtN mg) (gS : mg "some_do" = some (.ref fS)) (kS : PySem.W.keepIn K (.ref fS) = true) (GS : FnOk P w K mg base CX0 5 fS fdS ["ground"] (spSomeDo Cg Cs)) (bS : Binds K fdS ["ground"] [])
    (gA : mg "payments" = some (.ref fA)) (kA : PySem.W.keepIn K (.ref fA) = true) (GA : FnOk P w K mg base CX0 5 fA fdA ["ground"] (spPay Cg Cs Pt)) (bA : Binds K fdA ["ground"] []) : FnOk P w K mg base CX0 6 f fd hps (spHand Cg Cs Pt 0 (fun _ _ => .pays) K) := by
  refine F0.ok scHPays (fun vs H Q E h => ?_) (fun cdv A outer s0 H vs Q E hr h => ?_)
  · obtain ⟨g, nu, ro, a, F, ns, row, rfl, _⟩ := h
    rfl
  · obtain ⟨g, nu, ro, a, F, ns, row, rfl, hG, W, hT, hN, hl, hR, hrl, k⟩ := h
    obtain ⟨u1, m1, w1⟩ := N.cannotBe
    refine ⟨_, pss_cons (ps_if (pt_not (pt_val (pe_call GS (hr.mono (by decide)) rfl gS kS bS .nil pass0 (pa_cons (pv 0) pa_nil)))) (pss_one (ps_ret (pe_lst (pa_cons (pe_glob rfl m1 w1) pa_nil)))) pss_nil)
      (pss_cons (ps_set (i := 3) scHPays.nd rfl (Or.inl rfl) (pe_call GA hr rfl gA kA bA .nil pass0 (pa_cons (pv 0) pa_nil)))
      (pss_one (ps_ret (pe_op op_cat (pe_lst (pa_cons (pe_callB (cr_sum rfl) (by rfl) B.sum PyProof.Rows.boot_sum (pa_cons (pv 3) pa_nil)) pa_nil)) (pv 3))))), ?_⟩
    refine ⟨_, rfl, g, some a, rfl, hG.gnd, W.ll, W.n12, fun H1 s1 => ⟨_, rfl, ?_⟩⟩
    have eh : ((lowsOf (some a)).all fun l => (freeOf (some a)).any l.has) = a.hits a.free := rfl
    rw [eh]
    have en := My.fewest_none a
    cases e : a.hits a.free with
    | false =>
      rw [e] at en
      have ed : a.does .pays = (a, Kv365.say (-33)) := by simp only [Kv365.Abs.does, en, Bool.not_false, if_true]
      simp only [ed] at k
      exact iteT ⟨row1, fun D hD => k.give hG hT (Same.kept s1) (hT.same s1) hD⟩
    | true =>
      rw [e] at en
      have ed : a.does .pays = (a, ⟨(a.paid.sum : Nat), a.paid⟩) := by simp only [Kv365.Abs.does, en, Bool.not_true, Bool.false_eq_true, if_false]
      simp only [ed] at k
      refine iteF ⟨_, rfl, g, a, rfl, (hG.same s1).gnd, W, e, hT.same s1, fun H2 r h2 _ k2 hT2 => ?_⟩
      have kp : Kept Pt H H2 := (Same.kept s1).trans k2
      have hml : a.paid.length ≤ 8 := by unfold Kv365.Abs.paid Kv365.Abs.ids; rw [List.length_map, List.length_range]; exact W.ll
      refine ⟨_, rfl, r, a.paid.map (fun (i : Nat) => (i : Int)), rfl, by rw [← natV_ints]; exact SqL.of h2, row1, fun l1 hl1 => ?_⟩
      rw [cast_sum] at *
      have s3 : Same H2 (upd H2 l1 (.lst [.int ((a.paid.sum : Nat) : Int)])) := same_new hl1
      refine ⟨_, rfl, l1, r, _, _, rfl, rfl, upd_same, s3 _ _ h2, by rw [natV_len, sizeLine_eq]; show 1 + a.paid.length ≤ _; omega, fun D hD => ?_⟩
      exact k.give hG hT (kp.trans (Same.kept s3)) (hT2.same s3) hD
theorem scHCheapest : FnScope ["ground", "numbers", "row", "least"] hps (defScope sHCheapest) := ⟨rfl, rfl, rfl, by decide +kernel, rfl, by decide +kernel, by decide +kernel⟩
theorem ok_hCheapest {f Cg Cs Pt fL : Addr} {fd fdL : FuncData} (F0 : Fun K "cheapest" "cheapest" sHCheapest f fd) (T : TxtG K mg Cg) (N : TxtN mg) (gL : mg "least_row" = some (.ref fL)) (kL : PySem.W.keepIn K (.ref fL) = true) (GL : FnOk P w K mg base CX0 4 fL fdL ["ground", "costs"] (spLeast Cg Cs K)) (bL : Binds K fdL ["ground", "costs"] []) :
    FnOk P w K mg base CX0 5 f fd hps (spHand Cg Cs Pt 0 (fun _ _ => .cheapest) K) := by
  refine F0.ok scHCheapest (fun vs H Q E h => ?_) (fun cdv A outer s0 H vs Q E hr h => ?_)
  · obtain ⟨g, nu, ro, a, F, ns, row, rfl, _⟩ := h
    rfl
  · obtain ⟨g, nu, ro, a, F, ns, row, rfl, hG, W, hT, hN, hl, hR, hrl, k⟩ := h
    obtain ⟨r0, p0, t0, ss, G, eF⟩ := id hG
    obtain ⟨dx, hg⟩ := G.ins
    obtain ⟨u1, m1, w1⟩ := N.cannotBe
    refine ⟨_, pss_cons (ps_set (i := 3) scHCheapest.nd rfl (Or.inl rfl) (pe_call GL hr rfl gL kL bL .nil pass0 (pa_cons (pv 0) (pa_cons (pe_fld (pv 0) rfl) pa_nil))))
      (pss_cons (ps_if (pt_cmp (pc_isN (pv 3))) (pss_one (ps_ret (pe_lst (pa_cons (pe_glob rfl m1 w1) pa_nil)))) pss_nil)
      (pss_one (ps_ret (pe_op op_cat (pe_lst (pa_cons (pe_ix ix_tup (pv 3) pe_int (fun _ _ => rfl)) pa_nil)) (pe_ix ix_tup (pv 3) pe_int (fun _ _ => rfl)))))), ?_⟩
    have hf := My.leastRow_cheapest W
    refine ⟨_, rfl, _, rfl, g, Cg, dx, _, _, rfl, hg, T.cl, T.n2, gf_prices _ _ _, g, p0, a, a.price, rfl, hG.gnd, W, SqL.of G.pr, W.pl, fun e H1 s1 => ?_, fun t e H1 p r s1 hp hr1 => ?_⟩
    · have ec : a.cheapest = none := by
        rw [e] at hf
        cases q : a.cheapest with
        | none => rfl
        | some m => rw [q] at hf; cases hf
      have ed : a.does .cheapest = (a, Kv365.say (-33)) := by simp only [Kv365.Abs.does, ec]
      simp only [ed] at k
      exact ⟨_, rfl, _, rfl, iteT ⟨row1, fun D hD => k.give hG hT (Same.kept s1) (hT.same s1) hD⟩⟩
    · obtain ⟨m, ec, e1, e2⟩ : ∃ m, a.cheapest = some m ∧ t.cost = a.cost m ∧ t.row = m := by
        rw [e] at hf
        cases q : a.cheapest with
        | none => rw [q] at hf; cases hf
        | some m =>
          rw [q] at hf
          have z := Option.some.inj hf
          exact ⟨m, rfl, congrArg Prod.fst z, congrArg Prod.snd z⟩
      have ed : a.does .cheapest = (a, ⟨(a.cost m : Nat), m⟩) := by simp only [Kv365.Abs.does, ec]
      simp only [ed] at k
      rw [e1] at hp
      rw [e2] at hr1
      have hml : m.length ≤ 12 := by
        have := (My.mem_sets.mp (My.least_some ec).1).length_le
        exact Nat.le_trans this (Nat.le_trans (freeOf_len (st := some a)) W.n12)
      refine ⟨_, rfl, _, rfl, iteF ⟨_, rfl, p, _, _, _, rfl, rfl, SqT.of hp, at_of (j := 0) rfl rfl, row1, fun l1 hl1 => ?_⟩⟩
      have s2 : Same H1 (upd H1 l1 (.lst [.int (a.cost m : Int)])) := same_new hl1
      refine ⟨_, rfl, p, _, _, _, rfl, rfl, SqT.of (s2 _ _ hp), at_of (j := 1) rfl rfl, l1, r, _, _, rfl, rfl, upd_same, s2 _ _ hr1, by rw [natV_len, sizeLine_eq]; show 1 + m.length ≤ _; omega, fun D hD => ?_⟩
      exact k.give hG hT (Same.kept (s1.trans s2)) (hT.same (s1.trans s2)) hD
end
end Cv
end
section
namespace Cv
open PySem PySem.Spec PyProof.Rows L2 HT
abbrev sIsRoom : Stmt := top 17
abbrev sSpans : Stmt := top 18
def spIsRoom : Sp := fun vs H Q _ => ∃ k : Nat, vs = [.int (k : Int)] ∧ Q (.bl (Kv365.okK k)) H
def SpanH (H : Hp) (p : Addr) (s : My.Span) : Prop := H p = some (.tup [.int (s.a : Int), .int (s.b : Int), .int (s.flow : Int), .int (s.count : Int)])
theorem SpanH.same {H H' : Hp} {p : Addr} {s : My.Span} (h : SpanH H p s) (q : Same H H') : SpanH H' p s := q _ _ h
theorem SpanH.put {H : Hp} {p d : Addr} {s : My.Span} {xs : List V} {o : HO} (h : SpanH H p s) (hd : H d = some (.lst xs)) : SpanH (upd H d o) p s := by
  unfold SpanH
  rw [upd_ne (ne_of h hd (by intro z; cases z))]; exact h
def selZ {α β : Type} (f : β → Bool) (z : List (α × β)) : List (α × β) := z.filter fun q => f q.2
theorem selZ_snd {α β : Type} (f : β → Bool) : ∀ z : List (α × β), (selZ f z).map (·.2) = (z.map (·.2)).filter f
  | [] => rfl
  | q :: z => by
    have ih := selZ_snd f z
    unfold selZ at *
    rw [List.filter_cons, List.map_cons, List.filter_cons]
    split
    · rw [List.map_cons, ih]
    · exact ih
theorem selZ_paired {α β : Type} {R : α → β → Prop} {f : β → Bool} {z : List (α × β)} (h : ∀ q ∈ z, R q.1 q.2) : Paired R ((selZ f z).map (·.1)) ((selZ f z).map (·.2)) := by
  unfold selZ
  induction z with
  | nil => exact .nil
  | cons q z ih =>
    have ih2 := ih fun r hr => h r (List.mem_cons_of_mem _ hr)
    rw [List.filter_cons]
    split
    · exact .cons (h q List.mem_cons_self) ih2
    · exact ih2
theorem selZ_snoc {α β : Type} {f : β → Bool} {z : List (α × β)} {i : Nat} {q : α × β} (h : z[i]? = some q) : selZ f (z.take (i + 1)) = if f q.2 then selZ f (z.take i) ++ [q] else selZ f (z.take i) := by
  unfold selZ
  rw [take_snoc h, List.filter_append, List.filter_cons, List.filter_nil]
  split <;> simp
theorem filter_take {α : Type} {f : α → Bool} {l : List α} {i : Nat} {x : α} (h : l[i]? = some x) : (l.take (i + 1)).filter f = if f x then (l.take i).filter f ++ [x] else (l.take i).filter f := by
  rw [take_snoc h, List.filter_append, List.filter_cons, List.filter_nil]
  split <;> simp
def spSpans (Cg Cs : Addr) : PySem.W.Frag → Sp := fun K vs H Q _ => ∃ (g ro : Addr) (a : Kv365.Abs) (m : List Nat), vs = [.ref g, .ref ro] ∧ Gnd Cg Cs H g (some a) ∧ My.Wf a ∧ SqL K H ro (natV m) ∧ m.length ≤ 30000 ∧
  ∀ (H' : Hp) (D : Addr) (ps : List Addr), H D = none → H' D = some (.lst (ps.map V.ref)) → Paired (SpanH H') ps (My.spansOf a m) → Same H H' → Q (.ref D) H'
section
variable {P : Program} {w : World} {K : PySem.W.Frag} {mg : Str → Option Value} {base : Heap}
theorem scIsRoom : FnScope ["room"] ["room"] (defScope sIsRoom) := ⟨rfl, rfl, rfl, by decide +kernel, rfl, by decide +kernel, by decide +kernel⟩
theorem ok_isRoom {f : Addr} {fd : FuncData} (F : Fun K "is_room" "is_room" sIsRoom f fd) (N : TxtN mg) : FnOk P w K mg base CX0 1 f fd ["room"] spIsRoom := by
  refine F.ok scIsRoom (fun vs H Q E h => ?_) (fun cdv A outer s H vs Q E hr h => ?_)
  · obtain ⟨k, rfl, _⟩ := h
    rfl
  · obtain ⟨n, rfl, k⟩ := h
    obtain ⟨u1, m1, w1⟩ := N.mostRoom
    refine ⟨_, pss_one (ps_ret (pe_chain op_le op_le pe_int (pv 0) (pe_glob rfl m1 w1))), ?_⟩
    refine ⟨_, rfl, _, _, rfl, rfl, _, rfl, ?_⟩
    by_cases h1 : (1 : Int) ≤ (n : Int)
    · rw [if_pos (decide_eq_true h1)]
      refine ⟨_, _, rfl, rfl, ?_⟩
      have e : decide ((n : Int) ≤ 160) = Kv365.okK n := by
        unfold Kv365.okK
        rw [decide_eq_true (show 1 ≤ n by omega), Bool.true_and]
        congr 1; apply propext; omega
      show Q (.bl (decide ((n : Int) ≤ 160))) H
      rw [e]; exact k
    · rw [if_neg (by rw [decide_eq_false h1]; exact Bool.false_ne_true)]
      have e : false = Kv365.okK n := by
        unfold Kv365.okK
        rw [decide_eq_false (show ¬ 1 ≤ n by omega), Bool.false_and]
      show Q (.bl false) H
      rw [e]; exact k
abbrev nSpans : List Str := ["ground", "row", "found", "first", "stretches", "stations", "last", "flow", "count", "stretch", "station"]
theorem scSpans : FnScope nSpans ["ground", "row"] (defScope sSpans) := ⟨rfl, rfl, rfl, by decide +kernel, rfl, by decide +kernel, by decide +kernel⟩
theorem ok_spans {f Cg Cs : Addr} {fd : FuncData} (F : Fun K "spans" "spans" sSpans f fd) (B : TxtB mg) (T : TxtG K mg Cg) (TS : TxtS K mg Cs) : FnOk P w K mg base CX0 1 f fd ["ground", "row"] (spSpans Cg Cs K) := by
  refine F.ok scSpans (fun vs H Q E h => ?_) (fun cdv A outer s H vs Q E hr h => ?_)
  · obtain ⟨g, ro, a, m, rfl, _⟩ := h
    rfl
  · obtain ⟨g, ro, a, m, rfl, hG, W, hS, hm, k⟩ := h
    obtain ⟨r0, p0, t0, ss, G⟩ := id hG
    obtain ⟨dx, hg⟩ := G.ins
    have hn12 := W.n12
    have hl8 := W.ll
    refine ⟨_, pss_cons (ps_set (i := 2) scSpans.nd rfl (Or.inl rfl) (pe_lst pa_nil))
      (pss_cons (ps_for PassesOwn.never rfl (pi_range1 rfl B.range (pa_cons (pe_callB call_len_seq (by rfl) B.len PySem.boot_len (pa_cons (pe_fld (pv 0) rfl) pa_nil)) pa_nil)) (pg_name (i := 3) scSpans.nd rfl (Or.inr rfl))
        (pss_cons (ps_setLc (i := 4) (own := [("stretch", 9)]) rfl scSpans.nd rfl rfl (sw_true rfl rfl rfl rfl) (pi_list (pe_fld (pv 0) rfl)) (blkOk_by (by show blkC nSpans (defScope sSpans) _ _ = true; decide +kernel))
          (fun _ _ _ _ _ => pg_name (i := 9) scSpans.nd rfl (Or.inl rfl)) (fun _ _ _ _ _ => pts_one (pt_cmpR op_le (pv 3) (pe_fldB (K := K) rfl (pv 9) rfl) (nomark _))) (fun _ _ _ _ _ => pv 9))
        (pss_cons (ps_setLc (i := 5) (own := [("station", 10)]) rfl scSpans.nd rfl rfl (sw_true rfl rfl rfl rfl) (pi_list (pv 1)) (blkOk_by (by show blkC nSpans (defScope sSpans) _ _ = true; decide +kernel))
          (fun _ _ _ _ _ => pg_name (i := 10) scSpans.nd rfl (Or.inl rfl)) (fun _ _ _ _ _ => pts_one (pt_cmpR op_le (pv 3) (pv 10) (nomark _))) (fun _ _ _ _ _ => pv 10))
        (pss_one (ps_for PassesOwn.never rfl (pi_range2 rfl B.range (pa_cons (pv 3) (pa_cons (pe_callB call_len_seq (by rfl) B.len PySem.boot_len (pa_cons (pe_fld (pv 0) rfl) pa_nil)) pa_nil))) (pg_name (i := 6) scSpans.nd rfl (Or.inr rfl))
          (pss_cons (ps_set (i := 7) scSpans.nd rfl (Or.inl rfl) (pe_callB (cr_sum rfl) (by rfl) B.sum PyProof.Rows.boot_sum (pa_cons (pe_lc (own := [("stretch", 9)]) rfl scSpans.nd (pi_list (pv 4)) (blkOk_by (by show blkC nSpans (defScope sSpans) _ _ = true; decide +kernel))
            (fun _ _ _ _ _ => pg_name (i := 9) scSpans.nd rfl (Or.inl rfl)) (fun _ _ _ _ _ => pts_one (pt_cmpR op_le (pe_fldB (K := K) rfl (pv 9) rfl) (pv 6) (nomark _))) (fun _ _ _ _ _ => pe_fldB (K := K) rfl (pv 9) rfl)) pa_nil)))
          (pss_cons (ps_set (i := 8) scSpans.nd rfl (Or.inl rfl) (pe_callB call_len_seq (by rfl) B.len PySem.boot_len (pa_cons (pe_lc (own := [("station", 10)]) rfl scSpans.nd (pi_list (pv 5)) (blkOk_by (by show blkC nSpans (defScope sSpans) _ _ = true; decide +kernel))
            (fun _ _ _ _ _ => pg_name (i := 10) scSpans.nd rfl (Or.inl rfl)) (fun _ _ _ _ _ => pts_one (pt_cmpR op_le (pv 10) (pv 6) (nomark _))) (fun _ _ _ _ _ => pv 10)) pa_nil)))
          (pss_one (ps_expr (pe_bm PySem.F.plainAttrs_list PySem.F.slot_list_append PySem.F.type_list_append mt_append (pv 2) (pa_cons (pe_tup (pa_cons (pv 3) (pa_cons (pv 6) (pa_cons (pv 7) (pa_cons (pv 8) pa_nil))))) pa_nil)))))))))))
      (pss_one (ps_ret (pv 2)))), ?_⟩
    refine ⟨Nat.zero_le _, fun fd0 hfd => ?_⟩
    have s1 : Same H (upd H fd0 (.lst [])) := same_new hfd
    have el : (((rockyOf (some a)).map V.bl).length : Int) = (a.n : Int) := by rw [List.length_map, rockyOf_len]; rfl
    refine ⟨_, rfl, g, Cg, dx, _, _, rfl, s1 _ _ hg, T.cl, T.n1, gf_rocky _ _ _, r0, _, rfl, .inl (SqL.of (s1 _ _ G.rk)), (a.n : Int), by rw [el], by omega, by omega, ?_⟩
    rw [Int.toNat_natCast]
    refine for_range (fun x σ H' => ∃ (ps : List Addr) (v3 v4 v5 v6 v7 v8 : Option V), σ = [some (.ref g), some (.ref ro), some (.ref fd0), v3, v4, v5, v6, v7, v8, none, none] ∧ H' fd0 = some (.lst (ps.map V.ref)) ∧ Paired (SpanH H') ps ((List.range x).flatMap (My.rowSpans a m)) ∧ ps.length ≤ 12 * x ∧ Same H H')
      ⟨[], none, none, none, none, none, none, rfl, upd_same, .nil, Nat.zero_le _, s1⟩ ?_ ?_
    · rintro x σ H1 hx ⟨ps, v3, v4, v5, v6, v7, v8, rfl, j1, j2, j3, j4⟩
      rw [Int.zero_add]
      obtain ⟨z1, z2⟩ := paired_zip (paired_same j4 G.st)
      have hpl := paired_len G.st
      have lenz : (ss.zip a.lows).length = ss.length := by rw [List.length_zip, hpl, show (lowsOf (some a)).length = a.lows.length from rfl, Nat.min_self]
      refine ⟨_, rfl, g, Cg, dx, _, _, rfl, j4 _ _ hg, T.cl, T.n3, gf_stretches _ _ _, t0, rfl, ⟨_, SqL.of (j4 _ _ G.lo)⟩, fun sa hsa => ?_⟩
      refine lc_list (K := K) (a := t0) (xs := ss.map V.ref) (fun i H2 => H2 sa = some (.lst (((selZ (fun l : Kv365.Low => decide (x ≤ l.from_)) ((ss.zip a.lows).take i)).map (·.1)).map V.ref)) ∧ Same H1 H2) ⟨upd_same, same_new hsa⟩ (fun i H2 _ ⟨_, q⟩ => SqL.of (q _ _ (j4 _ _ G.lo))) (fun i v H2 hv ⟨q1, q2⟩ => ?_) fun H2 ⟨q1, q2⟩ => ?_
      · obtain ⟨p, hp, rfl⟩ := refs_at hv
        obtain ⟨l, hl, dp, hpl1⟩ := paired_get G.st hp
        have hz : (ss.zip a.lows)[i]? = some (p, l) := zip_at G.st hp hl
        refine ⟨rfl, _, rfl, _, rfl, p, Cs, dp, _, _, rfl, q2 _ _ (j4 _ _ hpl1), TS.cl, TS.n1, sf_first _ _ _, _, _, rfl, rfl, _, rfl, ?_⟩
        have hlen : (((selZ (fun l : Kv365.Low => decide (x ≤ l.from_)) ((ss.zip a.lows).take i)).map (·.1)).map V.ref).length < sizeLine := by
          rw [List.length_map, List.length_map]
          refine small12 (Nat.le_trans (List.length_filter_le _ _) ?_)
          rw [List.length_take, lenz, hpl]
          exact Nat.le_trans (Nat.min_le_right _ _) (by show a.lows.length ≤ 12; omega)
        have et := selZ_snoc (f := fun l : Kv365.Low => decide (x ≤ l.from_)) hz
        have ed : decide ((x : Int) ≤ (l.from_ : Int)) = decide (x ≤ l.from_) := by congr 1; apply propext; omega
        dsimp only at et ⊢
        rw [ed]
        cases e : decide (x ≤ l.from_) with
        | true =>
          rw [e, if_pos rfl] at et
          refine iteT ⟨_, rfl, ?_⟩
          rw [et, List.map_append, List.map_append]
          exact lc_add hsa q1 q2 hlen _
        | false =>
          rw [e, if_neg Bool.false_ne_true] at et
          refine iteF ⟨?_, q2⟩
          rw [et]; exact q1
      · rw [List.length_map, ← lenz, List.take_length] at q1
        have hPS := selZ_paired (f := fun l : Kv365.Low => decide (x ≤ l.from_)) (z := ss.zip a.lows) (R := StAt Cs H1) z1
        have z3 : (ss.zip a.lows).map (·.2) = a.lows := z2
        rw [selZ_snd, z3] at hPS
        generalize hss1 : (selZ (fun l : Kv365.Low => decide (x ≤ l.from_)) (ss.zip a.lows)).map (·.1) = ss1 at q1 hPS
        have hPS : Paired (StAt Cs H1) ss1 (a.lows.filter fun l => decide (x ≤ l.from_)) := hPS
        generalize hL1 : (a.lows.filter fun l => decide (x ≤ l.from_)) = L1 at hPS
        have hL1l : L1.length ≤ 8 := by rw [← hL1]; exact Nat.le_trans (List.length_filter_le _ _) hl8
        refine ⟨_, rfl, ro, rfl, ⟨_, (j4.trans q2).seq hS⟩, fun sb hsb => ?_⟩
        refine lc_list (K := K) (a := ro) (xs := natV m) (fun i H3 => H3 sb = some (.lst (natV ((m.take i).filter fun s => decide (x ≤ s)))) ∧ Same H2 H3) ⟨upd_same, same_new hsb⟩ (fun i H3 _ ⟨_, q⟩ => ((j4.trans q2).trans q).seq hS) (fun i v H3 hv ⟨w1, w2⟩ => ?_) fun H3 ⟨w1, w2⟩ => ?_
        · obtain ⟨sn, hs, rfl⟩ := natV_at hv
          refine ⟨rfl, _, rfl, _, rfl, _, _, rfl, rfl, _, rfl, ?_⟩
          have et := filter_take (f := fun s => decide (x ≤ s)) hs
          have ed : decide ((x : Int) ≤ (sn : Int)) = decide (x ≤ sn) := by congr 1; apply propext; omega
          have hlen : (natV ((m.take i).filter fun s => decide (x ≤ s))).length < sizeLine := by
            rw [natV_len]
            exact small1000 (Nat.le_trans (List.length_filter_le _ _) (by rw [List.length_take]; omega))
          dsimp only at et ⊢
          rw [ed]
          cases e : decide (x ≤ sn) with
          | true =>
            rw [e, if_pos rfl] at et
            refine iteT ⟨_, rfl, ?_⟩
            rw [et]
            have := lc_add hsb w1 w2 hlen (V.int (sn : Int))
            unfold natV at this ⊢; rw [List.map_append]; exact this
          | false =>
            rw [e, if_neg Bool.false_ne_true] at et
            refine iteF ⟨?_, w2⟩
            rw [et]; exact w1
        · rw [natV_len, List.take_length] at w1
          generalize hm1 : (m.filter fun s => decide (x ≤ s)) = m1 at w1
          have hm1l : m1.length ≤ 30000 := by rw [← hm1]; exact Nat.le_trans (List.length_filter_le _ _) hm
          have s3 : Same H H3 := (j4.trans q2).trans w2
          have fd3 : H3 fd0 = some (.lst (ps.map V.ref)) := w2 _ _ (q2 _ _ j1)
          have nsa : sa ≠ fd0 := Ne.symm (ne_of_none j1 hsa)
          have nsb : sb ≠ fd0 := Ne.symm (ne_of_none (q2 _ _ j1) hsb)
          have sa3 : H3 sa = some (.lst (ss1.map V.ref)) := w2 _ _ q1
          have P3 : Paired (SpanH H3) ps ((List.range x).flatMap (My.rowSpans a m)) := paired_imp (fun _ _ z => (z.same q2).same w2) j2
          have S3 : Paired (StAt Cs H3) ss1 L1 := paired_same (q2.trans w2) hPS
          refine ⟨_, rfl, _, rfl, g, Cg, dx, _, _, rfl, s3 _ _ hg, T.cl, T.n1, gf_rocky _ _ _, r0, _, rfl, .inl (SqL.of (s3 _ _ G.rk)), (x : Int), (a.n : Int), by rw [el], by omega, ?_⟩
          have en : ((a.n : Int) - (x : Int)).toNat = a.n - x := by omega
          rw [en]
          refine for_range (fun j σ H4 => ∃ (ps4 : List Addr) (v6 v7 v8 : Option V), σ = [some (.ref g), some (.ref ro), some (.ref fd0), some (.int (x : Int)), some (.ref sa), some (.ref sb), v6, v7, v8, none, none] ∧ H4 fd0 = some (.lst (ps4.map V.ref)) ∧ Paired (SpanH H4) ps4 ((List.range x).flatMap (My.rowSpans a m) ++ (List.range j).map fun j => My.spanOf a m x (x + j)) ∧ ps4.length ≤ 12 * x + j ∧ KeptBut fd0 H3 H4)
            ⟨ps, v6, v7, v8, rfl, fd3, by rw [List.range_zero, List.map_nil, List.append_nil]; exact P3, j3, fun _ _ _ e => e⟩ ?_ ?_
          · rintro j σ H4 hj ⟨ps4, v6, v7, v8, rfl, i1, i2, i3, i4⟩
            rw [← Int.natCast_add]
            have sH4 : Same H H4 := fun b o e => i4 b o (ne_of_none e hfd) (s3 b o e)
            have S4 : Paired (StAt Cs H4) ss1 L1 := paired_imp (fun q l z => let ⟨d, e⟩ := z; ⟨d, i4 _ _ (ne_of e fd3 (by intro z; cases z)) e⟩) S3
            refine ⟨_, rfl, sa, rfl, ⟨_, SqL.of (i4 _ _ nsa sa3)⟩, fun D hD => ?_⟩
            refine lc_list (K := K) (a := sa) (xs := ss1.map V.ref) (fun i H5 => H5 D = some (.lst (natV (((L1.take i).filter fun l => decide (l.to_ ≤ x + j)).map Kv365.Low.water))) ∧ Same H4 H5) ⟨upd_same, same_new hD⟩ (fun i H5 _ ⟨_, q⟩ => SqL.of (q _ _ (i4 _ _ nsa sa3))) (fun i v H5 hv ⟨y1, y2⟩ => ?_) fun H5 ⟨y1, y2⟩ => ?_
            · obtain ⟨p, hp, rfl⟩ := refs_at hv
              obtain ⟨l, hl, dp, hpl1⟩ := paired_get S4 hp
              refine ⟨rfl, _, rfl, p, Cs, dp, _, _, rfl, y2 _ _ hpl1, TS.cl, TS.n2, sf_last _ _ _, _, rfl, _, _, rfl, rfl, _, rfl, ?_⟩
              have et := filter_take (f := fun l : Kv365.Low => decide (l.to_ ≤ x + j)) hl
              have ed : decide ((l.to_ : Int) ≤ ((x + j : Nat) : Int)) = decide (l.to_ ≤ x + j) := by congr 1; apply propext; omega
              have hlen : (natV (((L1.take i).filter fun l => decide (l.to_ ≤ x + j)).map Kv365.Low.water)).length < sizeLine := by
                rw [natV_len, List.length_map]
                exact small1000 (Nat.le_trans (List.length_filter_le _ _) (by rw [List.length_take]; omega))
              dsimp only at et ⊢
              rw [ed]
              cases e : decide (l.to_ ≤ x + j) with
              | true =>
                rw [e, if_pos rfl] at et
                refine iteT ⟨_, rfl, p, Cs, dp, _, _, rfl, y2 _ _ hpl1, TS.cl, TS.n3, sf_flow _ _ _, ?_⟩
                rw [et, List.map_append]
                have := lc_add hD y1 y2 hlen (V.int (l.water : Int))
                unfold natV at this ⊢; rw [List.map_append]; exact this
              | false =>
                rw [e, if_neg Bool.false_ne_true] at et
                refine iteF ⟨?_, y2⟩
                rw [et]; exact y1
            · have ell : (ss1.map V.ref).length = L1.length := by rw [List.length_map, paired_len S4]
              rw [ell, List.take_length, natV_ints] at y1
              have ef : ((L1.filter fun l => decide (l.to_ ≤ x + j)).map Kv365.Low.water).sum = a.within x (x + j) := by rw [My.within_two, hL1]
              refine ⟨D, _, rfl, SqL.of y1, ?_⟩
              rw [cast_sum, ef]
              have sb5 : H5 sb = some (.lst (natV m1)) := y2 _ _ (i4 _ _ nsb w1)
              refine ⟨_, rfl, sb, rfl, ⟨_, SqL.of sb5⟩, fun D2 hD2 => ?_⟩
              refine lc_list (K := K) (a := sb) (xs := natV m1) (fun i H6 => H6 D2 = some (.lst (natV ((m1.take i).filter fun s => decide (s ≤ x + j)))) ∧ Same H5 H6) ⟨upd_same, same_new hD2⟩ (fun i H6 _ ⟨_, q⟩ => SqL.of (q _ _ sb5)) (fun i v H6 hv ⟨u1, u2⟩ => ?_) fun H6 ⟨u1, u2⟩ => ?_
              · obtain ⟨sn, hs, rfl⟩ := natV_at hv
                refine ⟨rfl, _, rfl, _, rfl, _, _, rfl, rfl, _, rfl, ?_⟩
                have et := filter_take (f := fun s => decide (s ≤ x + j)) hs
                have ed : decide ((sn : Int) ≤ ((x + j : Nat) : Int)) = decide (sn ≤ x + j) := by congr 1; apply propext; omega
                have hlen : (natV ((m1.take i).filter fun s => decide (s ≤ x + j))).length < sizeLine := by
                  rw [natV_len]
                  exact small1000 (Nat.le_trans (List.length_filter_le _ _) (by rw [List.length_take]; omega))
                dsimp only at et ⊢
                rw [ed]
                cases e : decide (sn ≤ x + j) with
                | true =>
                  rw [e, if_pos rfl] at et
                  refine iteT ⟨_, rfl, ?_⟩
                  rw [et]
                  have := lc_add hD2 u1 u2 hlen (V.int (sn : Int))
                  unfold natV at this ⊢; rw [List.map_append]; exact this
                | false =>
                  rw [e, if_neg Bool.false_ne_true] at et
                  refine iteF ⟨?_, u2⟩
                  rw [et]; exact u1
              · rw [natV_len, List.take_length] at u1
                have ec : (m1.filter fun s => decide (s ≤ x + j)).length = My.cnt m x (x + j) := by rw [My.cnt_two, hm1]
                refine ⟨D2, _, rfl, .inl (SqL.of u1), ?_⟩
                rw [natV_len, ec]
                have s6 : Same H4 H6 := y2.trans u2
                have fd6 : H6 fd0 = some (.lst (ps4.map V.ref)) := s6 _ _ i1
                refine ⟨_, rfl, .inl ⟨rfl, _, SqL.of fd6⟩, _, rfl, _, rfl, _, rfl, _, rfl, by show 4 ≤ sizeLine; rw [sizeLine_eq]; omega, fun tp htp => ?_⟩
                generalize hH7 : upd H6 tp (.tup [.int (x : Int), .int ((x + j : Nat) : Int), .int (a.within x (x + j) : Nat), .int (My.cnt m x (x + j) : Nat)]) = H7
                have s7 : Same H6 H7 := by rw [← hH7]; exact same_new htp
                have tp7 : SpanH H7 tp (My.spanOf a m x (x + j)) := by unfold SpanH; rw [← hH7, upd_same]; rfl
                have fd7 : H7 fd0 = some (.lst (ps4.map V.ref)) := s7 _ _ fd6
                refine ⟨fd0, _, _, rfl, rfl, fd7, by rw [List.length_map]; exact small1000 (by omega), ?_⟩
                refine ⟨ps4 ++ [tp], _, _, _, rfl, by rw [upd_same, List.map_append]; rfl, ?_, by rw [List.length_append, List.length_singleton]; omega, fun b o hb e => ?_⟩
                · rw [List.range_succ, List.map_append, ← List.append_assoc]
                  exact paired_snoc (paired_imp (fun _ _ z => ((z.same s6).same s7).put fd7) i2) (tp7.put fd7)
                · rw [upd_ne hb]; exact s7 _ _ (s6 _ _ (i4 b o hb e))
          · rintro σ H4 ⟨ps4, v6, v7, v8, rfl, i1, i2, i3, i4⟩
            refine ⟨ps4, _, _, _, _, _, _, rfl, i1, ?_, by omega, fun b o e => i4 b o (ne_of_none e hfd) (s3 b o e)⟩
            rw [List.range_succ, List.flatMap_append, List.flatMap_cons, List.flatMap_nil, List.append_nil]
            exact i2
    · rintro σ H1 ⟨ps, v3, v4, v5, v6, v7, v8, rfl, j1, j2, j3, j4⟩
      exact ⟨_, rfl, k H1 fd0 ps hfd j1 j2 j4⟩
end
end Cv
end
section
namespace Cv
open PySem PySem.Spec PyProof.Rows L2 HT
abbrev sTooMuch : Stmt := top 19
abbrev sAllGoes : Stmt := top 20
abbrev sLeastRoom : Stmt := top 22
def spTooMuch (Cg Cs : Addr) : PySem.W.Frag → Sp := fun K vs H Q _ => ∃ (g ro : Addr) (a : Kv365.Abs) (k : Nat) (m : List Nat), vs = [.ref g, .int (k : Int), .ref ro] ∧ Gnd Cg Cs H g (some a) ∧ My.Wf a ∧ SqL K H ro (natV m) ∧ m.length ≤ 30000 ∧ k ≤ 160 ∧
  (a.tooMuch k m = none → Reads H Q .non) ∧ ∀ v, a.tooMuch k m = some v → NewList H Q (natV [v.1, v.2, a.within v.1 v.2, Kv365.room k m v.1 v.2])
def spAllGoes (Cg Cs : Addr) : PySem.W.Frag → Sp := fun K vs H Q _ => ∃ (g ro : Addr) (a : Kv365.Abs) (k : Nat) (m : List Nat), vs = [.ref g, .int (k : Int), .ref ro] ∧ Gnd Cg Cs H g (some a) ∧ My.Wf a ∧ SqL K H ro (natV m) ∧ m.length ≤ 30000 ∧ k ≤ 160 ∧ Reads H Q (.bl (a.carries k m))
def spLeastRoom (Cg Cs : Addr) : PySem.W.Frag → Sp := fun K vs H Q _ => ∃ (g ro : Addr) (a : Kv365.Abs) (m : List Nat), vs = [.ref g, .ref ro] ∧ Gnd Cg Cs H g (some a) ∧ My.Wf a ∧ SqL K H ro (natV m) ∧ m.length ≤ 30000 ∧
  (a.leastRoom m = none → Reads H Q .non) ∧ ∀ k, a.leastRoom m = some k → Reads H Q (.int (k : Int))
theorem find_take_succ {α : Type} {p : α → Bool} {l : List α} {i : Nat} {x : α} (h : l[i]? = some x) (h0 : (l.take i).find? p = none) (hx : p x = false) : (l.take (i + 1)).find? p = none := by
  rw [take_snoc h, List.find?_append, h0, Option.none_or, List.find?_cons, hx]; rfl
theorem find_take_some {α : Type} {p : α → Bool} {l : List α} {i : Nat} {x : α} (h : l[i]? = some x) (h0 : (l.take i).find? p = none) (hx : p x = true) : l.find? p = some x := by
  have hi := (List.getElem?_eq_some_iff.mp h).1
  have e : l = l.take i ++ x :: l.drop (i + 1) := by
    have e1 : l.drop i = x :: l.drop (i + 1) := by
      rw [List.drop_eq_getElem_cons hi, (List.getElem?_eq_some_iff.mp h).2]
    rw [← e1, List.take_append_drop]
  rw [e, List.find?_append, h0, Option.none_or, List.find?_cons, hx]
section
variable {P : Program} {w : World} {K : PySem.W.Frag} {mg : Str → Option Value} {base : Heap}
abbrev nTooMuch : List Str := ["ground", "room", "row", "first", "last", "flow", "count"]
theorem scTooMuch : FnScope nTooMuch ["ground", "room", "row"] (defScope sTooMuch) := ⟨rfl, rfl, rfl, by decide +kernel, rfl, by decide +kernel, by decide +kernel⟩
theorem ok_tooMuch {f Cg Cs fS : Addr} {fd fdS : FuncData} (F : Fun K "too_much" "too_much" sTooMuch f fd) (gS : mg "spans" = some (.ref fS)) (kS : PySem.W.keepIn K (.ref fS) = true) (GS : FnOk P w K mg base CX0 1 fS fdS ["ground", "row"] (spSpans Cg Cs K)) (bS : Binds K fdS ["ground", "row"] []) :
    FnOk P w K mg base CX0 2 f fd ["ground", "room", "row"] (spTooMuch Cg Cs K) := by
  refine F.ok scTooMuch (fun vs H Q E h => ?_) (fun cdv A outer s H vs Q E hr h => ?_)
  · obtain ⟨g, ro, a, k, m, rfl, _⟩ := h
    rfl
  · obtain ⟨g, ro, a, k, m, rfl, hG, W, hS, hm, hk, k1, k2⟩ := h
    refine ⟨_, pss_cons (ps_for PassesOwn.never rfl (pi_list (pe_call GS hr rfl gS kS bS .nil pass0 (pa_cons (pv 0) (pa_cons (pv 2) pa_nil))))
        (pg_tup (n := 4) rfl (pgs_cons (pg_name (i := 3) scTooMuch.nd rfl (Or.inl rfl)) (pgs_cons (pg_name (i := 4) scTooMuch.nd rfl (Or.inl rfl)) (pgs_cons (pg_name (i := 5) scTooMuch.nd rfl (Or.inl rfl)) (pgs_cons (pg_name (i := 6) scTooMuch.nd rfl (Or.inl rfl)) pgs_nil)))))
        (pss_one (ps_if (pt_cmpR op_gt (pv 5) (pe_op op_mul (pv 1) (pv 6)) (nomark _)) (pss_one (ps_ret (pe_lst (pa_cons (pv 3) (pa_cons (pv 4) (pa_cons (pv 5) (pa_cons (pe_op op_mul (pv 1) (pv 6)) pa_nil))))))) pss_nil)))
      (pss_one (ps_ret pe_non)), ?_⟩
    refine ⟨_, rfl, _, rfl, g, ro, a, m, rfl, hG, W, hS, hm, fun H1 L0 ps hL0 h1 hP s1 => ⟨L0, rfl, ⟨_, SqL.of h1⟩, ?_⟩⟩
    have hts := My.tooMuch_spans a k m
    have hpl := paired_len hP
    refine for_list (K := K) (a := L0) (xs := ps.map V.ref) (fun i σ H' => ∃ v3 v4 v5 v6, σ = [some (.ref g), some (.int (k : Int)), some (.ref ro), v3, v4, v5, v6] ∧ ((My.spansOf a m).take i).find? (My.tooM k) = none ∧ H' = H1)
      ⟨none, none, none, none, rfl, by rw [List.take_zero]; rfl, rfl⟩ (fun i σ H' _ ⟨_, _, _, _, _, _, z⟩ => by rw [z]; exact SqL.of h1) ?_ ?_
    · rintro i x σ H' hx ⟨v3, v4, v5, v6, rfl, j1, rfl⟩
      obtain ⟨p, hp, rfl⟩ := refs_at hx
      obtain ⟨sp, hsp, hpH⟩ := paired_get hP hp
      refine ⟨p, _, rfl, SqT.of hpH, rfl, _, _, rfl, _, _, rfl, _, _, rfl, _, _, rfl, rfl, ?_⟩
      refine ⟨_, rfl, _, rfl, _, rfl, _, _, rfl, rfl, .inl ⟨by omega, by omega⟩, _, _, rfl, rfl, _, rfl, ?_⟩
      have ed : decide ((k : Int) * (sp.count : Int) < (sp.flow : Int)) = My.tooM k sp := by
        unfold My.tooM
        congr 1; apply propext
        rw [← Int.natCast_mul]; omega
      dsimp only
      rw [ed]
      cases e : My.tooM k sp with
      | true =>
        refine iteT ⟨_, rfl, _, rfl, _, rfl, _, rfl, _, rfl, _, _, rfl, rfl, .inl ⟨by omega, by omega⟩, by show 4 ≤ sizeLine; rw [sizeLine_eq]; omega, fun D hD => ?_⟩
        have hf := find_take_some hsp j1 e
        rw [hts] at hf
        cases et : a.tooMuch k m with
        | none => rw [et] at hf; cases hf
        | some v =>
          rw [et] at hf
          have e2 : My.spanOf a m v.1 v.2 = sp := Option.some.inj hf
          refine k2 v et _ D (s1.free hD) ?_ (s1.trans (same_new hD))
          rw [upd_same, ← e2]
          show some (HO.lst [V.int (v.1 : Int), V.int (v.2 : Int), V.int (a.within v.1 v.2 : Nat), V.int ((k : Int) * (My.cnt m v.1 v.2 : Nat))]) = some (HO.lst [V.int (v.1 : Int), V.int (v.2 : Int), V.int (a.within v.1 v.2 : Nat), V.int ((Kv365.room k m v.1 v.2 : Nat) : Int)])
          rw [My.room_eq, Int.natCast_mul]
      | false => exact iteF ⟨_, _, _, _, rfl, find_take_succ hsp j1 e, rfl⟩
    · rintro σ H' ⟨v3, v4, v5, v6, rfl, j1, rfl⟩
      rw [List.length_map, hpl, List.take_length, hts] at j1
      refine k1 ?_ _ s1
      cases et : a.tooMuch k m with
      | none => rfl
      | some v => rw [et] at j1; cases j1
theorem scAllGoes : FnScope ["ground", "room", "row"] ["ground", "room", "row"] (defScope sAllGoes) := ⟨rfl, rfl, rfl, by decide +kernel, rfl, by decide +kernel, by decide +kernel⟩
theorem ok_allGoes {f Cg Cs fT : Addr} {fd fdT : FuncData} (F : Fun K "all_goes" "all_goes" sAllGoes f fd) (gT : mg "too_much" = some (.ref fT)) (kT : PySem.W.keepIn K (.ref fT) = true) (GT : FnOk P w K mg base CX0 2 fT fdT ["ground", "room", "row"] (spTooMuch Cg Cs K)) (bT : Binds K fdT ["ground", "room", "row"] []) :
    FnOk P w K mg base CX0 3 f fd ["ground", "room", "row"] (spAllGoes Cg Cs K) := by
  refine F.ok scAllGoes (fun vs H Q E h => ?_) (fun cdv A outer s H vs Q E hr h => ?_)
  · obtain ⟨g, ro, a, k, m, rfl, _⟩ := h
    rfl
  · obtain ⟨g, ro, a, k, m, rfl, hG, W, hS, hm, hk, k1⟩ := h
    refine ⟨_, pss_one (ps_ret (pe_cmp (pc_isN (pe_call GT hr rfl gT kT bT .nil pass0 (pa_cons (pv 0) (pa_cons (pv 1) (pa_cons (pv 2) pa_nil))))))), ?_⟩
    refine ⟨_, rfl, _, rfl, _, rfl, g, ro, a, k, m, rfl, hG, W, hS, hm, hk, fun e H1 s1 => ?_, fun v e H1 D hD h1 s1 => ?_⟩
    · have ec : a.carries k m = true := by unfold Kv365.Abs.carries; rw [e]; rfl
      rw [ec] at k1
      exact k1 H1 s1
    · have ec : a.carries k m = false := by unfold Kv365.Abs.carries; rw [e]; rfl
      rw [ec] at k1
      exact k1 H1 s1
abbrev nLeastRoom : List Str := ["ground", "row", "least", "first", "last", "flow", "count"]
theorem scLeastRoom : FnScope nLeastRoom ["ground", "row"] (defScope sLeastRoom) := ⟨rfl, rfl, rfl, by decide +kernel, rfl, by decide +kernel, by decide +kernel⟩
def roomAt (a : Kv365.Abs) (m : List Nat) (i : Nat) : Option Nat := ((My.spansOf a m).take i).foldl My.roomStep (some 1)
theorem roomAt_succ {a : Kv365.Abs} {m : List Nat} {i : Nat} {s : My.Span} (h : (My.spansOf a m)[i]? = some s) : roomAt a m (i + 1) = My.roomStep (roomAt a m i) s := by
  unfold roomAt; rw [take_snoc h, List.foldl_append]; rfl
theorem roomAt_none {a : Kv365.Abs} (W : My.Wf a) {m : List Nat} {i : Nat} (h : roomAt a m i = none) : a.leastRoom m = none := by
  rw [← My.leastRoom_fold W m]
  have e : (My.spansOf a m).foldl My.roomStep (some 1) = ((My.spansOf a m).drop i).foldl My.roomStep (roomAt a m i) := by
    unfold roomAt
    rw [← List.foldl_append, List.take_append_drop]
  rw [e, h, My.room_none]
theorem ok_leastRoom {f Cg Cs fS : Addr} {fd fdS : FuncData} (F : Fun K "least_room" "least_room" sLeastRoom f fd) (gS : mg "spans" = some (.ref fS)) (kS : PySem.W.keepIn K (.ref fS) = true) (GS : FnOk P w K mg base CX0 1 fS fdS ["ground", "row"] (spSpans Cg Cs K)) (bS : Binds K fdS ["ground", "row"] []) :
    FnOk P w K mg base CX0 2 f fd ["ground", "row"] (spLeastRoom Cg Cs K) := by
  refine F.ok scLeastRoom (fun vs H Q E h => ?_) (fun cdv A outer s H vs Q E hr h => ?_)
  · obtain ⟨g, ro, a, m, rfl, _⟩ := h
    rfl
  · obtain ⟨g, ro, a, m, rfl, hG, W, hS, hm, k1, k2⟩ := h
    refine ⟨_, pss_cons (ps_set (i := 2) scLeastRoom.nd rfl (Or.inl rfl) pe_int) (pss_cons (ps_for PassesOwn.never rfl (pi_list (pe_call GS hr rfl gS kS bS .nil pass0 (pa_cons (pv 0) (pa_cons (pv 1) pa_nil))))
        (pg_tup (n := 4) rfl (pgs_cons (pg_name (i := 3) scLeastRoom.nd rfl (Or.inl rfl)) (pgs_cons (pg_name (i := 4) scLeastRoom.nd rfl (Or.inl rfl)) (pgs_cons (pg_name (i := 5) scLeastRoom.nd rfl (Or.inl rfl)) (pgs_cons (pg_name (i := 6) scLeastRoom.nd rfl (Or.inl rfl)) pgs_nil)))))
        (pss_cons (ps_if (PW.pt (pw_and (pt_cmpR op_gt (pv 5) pe_int (nomark _)) (pw_and1 (pt_cmpR op_eq (pv 6) pe_int (nomark _))))) (pss_one (ps_ret pe_non)) pss_nil)
        (pss_one (ps_if (pt_cmpR op_gt (pv 5) (pe_op op_mul (pv 2) (pv 6)) (nomark _)) (pss_one (ps_set (i := 2) scLeastRoom.nd rfl (Or.inl rfl) (pe_op op_fdiv (pe_op op_sub (pe_op op_add (pv 5) (pv 6)) pe_int) (pv 6)))) pss_nil))))
      (pss_one (ps_ret (pv 2)))), ?_⟩
    refine ⟨_, rfl, _, rfl, g, ro, a, m, rfl, hG, W, hS, hm, fun H1 L0 ps hL0 h1 hP s1 => ⟨L0, rfl, ⟨_, SqL.of h1⟩, ?_⟩⟩
    have hpl := paired_len hP
    refine for_list (K := K) (a := L0) (xs := ps.map V.ref) (fun i σ H' => ∃ (k' : Nat) (v3 v4 v5 v6 : Option V), σ = [some (.ref g), some (.ref ro), some (.int (k' : Int)), v3, v4, v5, v6] ∧ roomAt a m i = some k' ∧ H' = H1)
      ⟨1, none, none, none, none, rfl, rfl, rfl⟩ (fun i σ H' _ ⟨_, _, _, _, _, _, _, z⟩ => by rw [z]; exact SqL.of h1) ?_ ?_
    · rintro i x σ H' hx ⟨k', v3, v4, v5, v6, rfl, j1, rfl⟩
      obtain ⟨p, hp, rfl⟩ := refs_at hx
      obtain ⟨sp, hsp, hpH⟩ := paired_get hP hp
      have hkb := My.room_bound W (m := m) (fun s hs => List.mem_of_mem_take hs) j1
      have hsb := My.mem_spans (List.mem_of_getElem? hsp)
      have hcb : sp.count ≤ 30000 := by rw [hsb.2.2.2]; exact Nat.le_trans (My.cnt_le _ _ _) hm
      have hsu := roomAt_succ hsp
      rw [j1] at hsu
      unfold My.roomStep at hsu
      dsimp only at hsu
      refine ⟨p, _, rfl, SqT.of hpH, rfl, _, _, rfl, _, _, rfl, _, _, rfl, _, _, rfl, rfl, ?_⟩
      refine ⟨_, rfl, _, _, rfl, rfl, _, rfl, ?_⟩
      by_cases hf : 0 < sp.flow
      · rw [decide_eq_true (show (0 : Int) < (sp.flow : Int) by omega)]
        refine iteT ⟨_, rfl, rfl, _, rfl, ?_⟩
        by_cases hc : sp.count = 0
        · rw [show decide (V.int (sp.count : Int) = V.int 0) = true from decide_eq_true (by rw [hc]; rfl)]
          rw [if_pos ⟨hf, hc⟩] at hsu
          exact iteT (k1 (roomAt_none W hsu) _ s1)
        · rw [show decide (V.int (sp.count : Int) = V.int 0) = false from decide_eq_false (by intro z; injection z with z; omega)]
          rw [if_neg (fun z => hc z.2)] at hsu
          refine iteF ⟨_, rfl, _, rfl, _, rfl, _, _, rfl, rfl, .inl ⟨by omega, by omega⟩, _, _, rfl, rfl, _, rfl, ?_⟩
          by_cases hlt : k' * sp.count < sp.flow
          · rw [if_pos hlt] at hsu
            rw [decide_eq_true (show (k' : Int) * (sp.count : Int) < (sp.flow : Int) by rw [← Int.natCast_mul]; omega)]
            refine iteT ⟨_, rfl, _, rfl, _, _, rfl, rfl, _, _, rfl, rfl, _, rfl, _, _, rfl, rfl, ⟨by omega, by omega⟩, ?_⟩
            have ee : ((sp.flow : Int) + (sp.count : Int) - 1) / (sp.count : Int) = (((sp.flow + sp.count - 1) / sp.count : Nat) : Int) := by
              rw [Int.natCast_ediv]
              congr 1
              omega
            exact ⟨(sp.flow + sp.count - 1) / sp.count, _, _, _, _, by dsimp only; rw [ee]; rfl, hsu, rfl⟩
          · rw [if_neg hlt] at hsu
            rw [decide_eq_false (show ¬ (k' : Int) * (sp.count : Int) < (sp.flow : Int) by rw [← Int.natCast_mul]; omega)]
            exact iteF ⟨k', _, _, _, _, rfl, hsu, rfl⟩
      · rw [decide_eq_false (show ¬ (0 : Int) < (sp.flow : Int) by omega)]
        rw [if_neg (fun z => hf z.1), if_neg (by omega)] at hsu
        refine iteF <| iteF ⟨_, rfl, _, rfl, _, rfl, _, _, rfl, rfl, .inl ⟨by omega, by omega⟩, _, _, rfl, rfl, _, rfl, ?_⟩
        rw [decide_eq_false (show ¬ (k' : Int) * (sp.count : Int) < (sp.flow : Int) by rw [← Int.natCast_mul]; omega)]
        exact iteF ⟨k', _, _, _, _, rfl, hsu, rfl⟩
    · rintro σ H' ⟨k', v3, v4, v5, v6, rfl, j1, rfl⟩
      rw [List.length_map, hpl] at j1
      have e : roomAt a m (My.spansOf a m).length = a.leastRoom m := by
        unfold roomAt; rw [List.take_length]; exact My.leastRoom_fold W m
      rw [e] at j1
      exact ⟨_, rfl, k2 k' j1 _ s1⟩
end
end Cv
end
section
namespace Cv
open PySem PySem.Spec PyProof.Rows L2 HT
abbrev sFewCarry : Stmt := top 23
def spFewCarry (Cg Cs : Addr) : Sp := fun vs H Q _ => ∃ (g : Addr) (a : Kv365.Abs) (k : Nat), vs = [.ref g, .int (k : Int)] ∧ Gnd Cg Cs H g (some a) ∧ My.Wf a ∧ k ≤ 160 ∧
  (a.fewestFor k = none → Reads H Q .non) ∧ ∀ m, a.fewestFor k = some m → m.length ≤ 12 → ∀ (H' : Hp) (r : Addr), Same H H' → H' r = some (.lst (natV m)) → Q (.ref r) H'
section
variable {P : Program} {w : World} {K : PySem.W.Frag} {mg : Str → Option Value} {base : Heap}
abbrev nFewCarry : List Str := ["ground", "room", "row", "site", "rest", "other"]
theorem scFewCarry : FnScope nFewCarry ["ground", "room"] (defScope sFewCarry) := ⟨rfl, rfl, rfl, by decide +kernel, rfl, by decide +kernel, by decide +kernel⟩
theorem ok_fewCarry {f Cg Cs fS fA : Addr} {fd fdS fdA : FuncData} (F : Fun K "fewest_carrying" "fewest_carrying" sFewCarry f fd) (B : TxtB mg) (T : TxtG K mg Cg) (GS : FnOk P w K mg base CX0 3 fS fdS ["self"] (spSites Cg Cs)) (bS : Binds K fdS ["self"] []) (mS : Meth K Cg "sites" fS)
    (gA : mg "all_goes" = some (.ref fA)) (kA : PySem.W.keepIn K (.ref fA) = true) (GA : FnOk P w K mg base CX0 3 fA fdA ["ground", "room", "row"] (spAllGoes Cg Cs K)) (bA : Binds K fdA ["ground", "room", "row"] []) : FnOk P w K mg base CX0 4 f fd ["ground", "room"] (spFewCarry Cg Cs) := by
  refine F.ok scFewCarry (fun vs H Q E h => ?_) (fun cdv A outer s H vs Q E hr h => ?_)
  · obtain ⟨g, a, k, rfl, _⟩ := h
    rfl
  · obtain ⟨g, a, k, rfl, hG, W, hk, k1, k2⟩ := h
    obtain ⟨r0, p0, t0, ss, G⟩ := id hG
    obtain ⟨dx, hg⟩ := G.ins
    have hn12 := W.n12
    have hfl : a.free.length ≤ 12 := Nat.le_trans (freeOf_len (st := some a)) hn12
    refine ⟨_, pss_cons (ps_set (i := 2) scFewCarry.nd rfl (Or.inl rfl) (pe_meth0 (pv 0) T.cl mS GS hr bS .nil pass0))
      (pss_cons (ps_if (pt_not (pt_val (pe_call GA hr rfl gA kA bA .nil pass0 (pa_cons (pv 0) (pa_cons (pv 1) (pa_cons (pv 2) pa_nil)))))) (pss_one (ps_ret pe_non)) pss_nil)
      (pss_cons (ps_for PassesOwn.never rfl (pi_reversed rfl B.reversed (pa_cons (pe_meth0 (pv 0) T.cl mS GS hr bS .nil pass0) pa_nil)) (pg_name (i := 3) scFewCarry.nd rfl (Or.inr rfl))
        (pss_cons (ps_setLc (i := 4) (own := [("other", 5)]) rfl scFewCarry.nd rfl rfl (sw_true rfl rfl rfl rfl) (pi_list (pv 2)) (blkOk_by (by show blkC nFewCarry (defScope sFewCarry) _ _ = true; decide +kernel))
          (fun _ _ _ _ _ => pg_name (i := 5) scFewCarry.nd rfl (Or.inl rfl)) (fun _ _ _ _ _ => pts_one (pt_cmpR op_ne (pv 5) (pv 3) (nomark _))) (fun _ _ _ _ _ => pv 5))
        (pss_one (ps_if (pt_val (pe_call GA hr rfl gA kA bA .nil pass0 (pa_cons (pv 0) (pa_cons (pv 1) (pa_cons (pv 4) pa_nil))))) (pss_one (ps_set (i := 2) scFewCarry.nd rfl (Or.inl rfl) (pv 4))) pss_nil))))
      (pss_one (ps_ret (pv 2))))), ?_⟩
    refine ⟨_, rfl, g, dx, _, rfl, hg, gf_no _ _ _ (by decide +kernel) (by decide +kernel) (by decide +kernel), g, some a, rfl, hG, hn12, fun H1 rw0 hrw0 h1 s1 => ?_⟩
    have h1' : H1 rw0 = some (.lst (natV a.free)) := h1
    refine ⟨_, rfl, _, rfl, _, rfl, g, rw0, a, k, a.free, rfl, hG.same s1, W, SqL.of h1', by omega, hk, fun H2 s2 => ⟨_, rfl, ?_⟩⟩
    cases ec : a.carries k a.free with
    | false =>
      have hnone : a.fewestFor k = none := by
        have := My.fewestFor_none a k
        rw [ec] at this
        exact Option.isNone_iff_eq_none.mp this
      exact iteT (k1 hnone H2 (s1.trans s2))
    | true =>
      have hsome := My.fewestFor_leave ec
      have s12 := s1.trans s2
      refine iteF ⟨_, rfl, g, dx, _, rfl, s12 _ _ hg, gf_no _ _ _ (by decide +kernel) (by decide +kernel) (by decide +kernel), g, some a, rfl, hG.same s12, hn12, fun H3 L0 hL0 h3 s3 => ⟨L0, _, rfl, SqL.of h3, ?_⟩⟩
      refine for_rev (K := K) (a := L0) (xs := natV (freeOf (some a))) (fun i σ H' => ∃ (rw1 : Addr) (v3 v4 : Option V), σ = [some (.ref g), some (.int (k : Int)), some (.ref rw1), v3, v4, none] ∧ H' rw1 = some (.lst (natV (My.leaveAt (a.carries k) a.free i))) ∧ Same H3 H')
        ⟨rw0, none, none, rfl, s3 _ _ (s2 _ _ h1'), fun _ _ e => e⟩ (fun i σ H' _ ⟨_, _, _, _, _, q⟩ => SqL.of (q _ _ h3)) ?_ ?_
      · rintro i x σ H' hx ⟨rw1, v3, v4, rfl, j1, j2⟩
        have hx2 : (natV a.free.reverse)[i]? = some x := by
          unfold natV at hx ⊢; rw [List.map_reverse]; exact hx
        obtain ⟨sn, hs, rfl⟩ := natV_at hx2
        have hsub := My.leaveAt_sub (a.carries k) a.free i
        have hsl : (My.leaveAt (a.carries k) a.free i).length ≤ 12 := Nat.le_trans hsub.length_le hfl
        have hsu := My.leaveAt_succ (ok := a.carries k) hs
        generalize hrow : My.leaveAt (a.carries k) a.free i = row at j1 hsl hsu
        refine ⟨_, rfl, rw1, rfl, ⟨_, SqL.of j1⟩, fun D hD => ?_⟩
        refine lc_list (K := K) (a := rw1) (xs := natV row) (fun n H4 => H4 D = some (.lst (natV ((row.take n).filter fun x => x != sn))) ∧ Same H' H4) ⟨upd_same, same_new hD⟩ (fun n H4 _ ⟨_, q⟩ => SqL.of (q _ _ j1)) (fun n v H4 hv ⟨q1, q2⟩ => ?_) fun H4 ⟨q1, q2⟩ => ?_
        · obtain ⟨o, ho, rfl⟩ := natV_at hv
          refine ⟨rfl, _, rfl, _, rfl, rfl, _, rfl, ?_⟩
          have et := filter_take (f := fun x => x != sn) ho
          have ed : (!decide (V.int (o : Int) = V.int (sn : Int))) = (o != sn) := by
            rw [Bool.eq_iff_iff]
            simp only [Bool.not_eq_true', decide_eq_false_iff_not, bne_iff_ne, ne_eq, V.int.injEq]
            omega
          have hlen : (natV ((row.take n).filter fun x => x != sn)).length < sizeLine := by
            rw [natV_len]
            exact small12 (Nat.le_trans (List.length_filter_le _ _) (by rw [List.length_take]; omega))
          dsimp only at et ⊢
          rw [ed]
          cases e : (o != sn) with
          | true =>
            rw [e, if_pos rfl] at et
            refine iteT ⟨_, rfl, ?_⟩
            rw [et]
            have := lc_add hD q1 q2 hlen (V.int (o : Int))
            unfold natV at this ⊢; rw [List.map_append]; exact this
          | false =>
            rw [e, if_neg Bool.false_ne_true] at et
            refine iteF ⟨?_, q2⟩
            rw [et]; exact q1
        · rw [natV_len, List.take_length] at q1
          have s4 : Same H H4 := (s12.trans s3).trans (j2.trans q2)
          refine ⟨_, rfl, _, rfl, _, rfl, g, D, a, k, row.filter (fun x => x != sn), rfl, hG.same s4, W, SqL.of q1, Nat.le_trans (List.length_filter_le _ _) (by omega), hk, fun H5 s5 => ⟨_, rfl, ?_⟩⟩
          unfold My.leaveStep at hsu
          cases e : a.carries k (row.filter fun x => x != sn) with
          | true =>
            rw [e, if_pos rfl] at hsu
            refine iteT ⟨_, rfl, D, _, _, rfl, by rw [hsu]; exact s5 _ _ q1, (j2.trans q2).trans s5⟩
          | false =>
            rw [e, if_neg Bool.false_ne_true] at hsu
            exact iteF ⟨rw1, _, _, rfl, by rw [hsu]; exact s5 _ _ (q2 _ _ j1), (j2.trans q2).trans s5⟩
      · rintro σ H' ⟨rw1, v3, v4, rfl, j1, j2⟩
        rw [natV_len, show (freeOf (some a)).length = a.free.length from rfl, My.leaveAt_all] at j1
        refine ⟨_, rfl, k2 _ hsome ?_ H' rw1 ((s12.trans s3).trans j2) j1⟩
        rw [← My.leaveAt_all]
        exact Nat.le_trans (My.leaveAt_sub _ _ _).length_le hfl
end
end Cv
end
section
namespace Cv
open PySem PySem.Spec PyProof.Rows L2 HT
abbrev sShares : Stmt := top 21
def ShareH (H : Hp) (p : Addr) (x : Nat × Nat × Nat) : Prop := H p = some (.tup [.int (x.1 : Int), .int (x.2.1 : Int), .int (x.2.2 : Int)])
theorem ShareH.put {H : Hp} {p d : Addr} {x : Nat × Nat × Nat} {xs : List V} {o : HO} (h : ShareH H p x) (hd : H d = some (.lst xs)) : ShareH (upd H d o) p x := by
  unfold ShareH
  rw [upd_ne (ne_of h hd (by intro z; cases z))]; exact h
theorem SqL.kept {K : PySem.W.Frag} {H H' : Hp} {Pt c : Addr} {xs : List V} (h : SqL K H c xs) (hT : Tab H Pt) (k : Kept Pt H H') : SqL K H' c xs := by
  rcases h with (h | ⟨o, h⟩) | h
  · exact .inl (.inl (k _ _ (hT.ne h fun ps z => by cases z) h))
  · exact .inl (.inr ⟨o, k _ _ (hT.ne h fun ps z => by cases z) h⟩)
  · exact .inr h
theorem small1000' {n : Nat} (h : n ≤ 1000000) : n < sizeLine := by rw [sizeLine_eq]; omega
def KeptBut2 (x y : Addr) (H H' : Hp) : Prop := ∀ b o, b ≠ x → b ≠ y → H b = some o → H' b = some o
def spShares (Cg Cs Pt : Addr) : PySem.W.Frag → Sp := fun K vs H Q _ => ∃ (g ro : Addr) (a : Kv365.Abs) (k : Nat) (m : List Nat), vs = [.ref g, .int (k : Int), .ref ro] ∧ Gnd Cg Cs H g (some a) ∧ My.Wf a ∧ Tab H Pt ∧ SqL K H ro (natV m) ∧ m.length ≤ 30000 ∧
  ∀ (H' : Hp) (D : Addr) (ps : List Addr), H D = none → H' D = some (.lst (ps.map V.ref)) → Paired (ShareH H') ps (a.share k m) → ps.length ≤ 8 * m.length → Kept Pt H H' → Tab H' Pt → Q (.ref D) H'
section
variable {P : Program} {w : World} {K : PySem.W.Frag} {mg : Str → Option Value} {base : Heap}
abbrev nShares : List Str := ["ground", "room", "row", "left", "order", "told", "station", "free", "number", "having", "amount", "stretch"]
theorem scShares : FnScope nShares ["ground", "room", "row"] (defScope sShares) := ⟨rfl, rfl, rfl, by decide +kernel, rfl, by decide +kernel, by decide +kernel⟩
theorem ok_shares {f Cg Cs Pt fE fC : Addr} {fd fdE fdC : FuncData} (F : Fun K "shares" "shares" sShares f fd) (B : TxtB mg) (T : TxtG K mg Cg) (TS : TxtS K mg Cs) (gE : mg "by_ends" = some (.ref fE)) (kE : PySem.W.keepIn K (.ref fE) = true) (GE : FnOk P w K mg base CX0 1 fE fdE ["stretches"] (spByEnds Cs Pt K)) (bE : Binds K fdE ["stretches"] [])
    (GC : FnOk P w K mg base CX0 1 fC fdC ["self", "station"] (spCovers Cs)) (bC : Binds K fdC ["self", "station"] []) (mC : Meth K Cs "covers" fC) : FnOk P w K mg base CX0 2 f fd ["ground", "room", "row"] (spShares Cg Cs Pt K) := by
  refine F.ok scShares (fun vs H Q E h => ?_) (fun cdv A outer s H vs Q E hr h => ?_)
  · obtain ⟨g, ro, a, k, m, rfl, _⟩ := h
    rfl
  · obtain ⟨g, ro, a, k, m, rfl, ⟨r0, p0, t0, ss, G⟩, W, hT, hS, hm, kk⟩ := h
    obtain ⟨dx, hg⟩ := G.ins
    have hl8 := W.ll
    refine ⟨_, pss_cons (ps_setLc (i := 3) (own := [("stretch", 11)]) rfl scShares.nd rfl rfl (sw_true rfl rfl rfl rfl) (pi_list (pe_fld (pv 0) rfl)) (blkOk_by (by show blkC nShares (defScope sShares) _ _ = true; decide +kernel))
          (fun _ _ _ _ _ => pg_name (i := 11) scShares.nd rfl (Or.inl rfl)) (fun _ _ _ _ _ => pts_nil) (fun _ _ _ _ _ => pe_fldB (K := K) rfl (pv 11) rfl))
      (pss_cons (ps_set (i := 4) scShares.nd rfl (Or.inl rfl) (pe_call GE hr rfl gE kE bE .nil pass0 (pa_cons (pe_fld (pv 0) rfl) pa_nil)))
      (pss_cons (ps_set (i := 5) scShares.nd rfl (Or.inl rfl) (pe_lst pa_nil))
      (pss_cons (ps_for PassesOwn.never rfl (pi_list (pv 2)) (pg_name (i := 6) scShares.nd rfl (Or.inr rfl))
        (pss_cons (ps_set (i := 7) scShares.nd rfl (Or.inl rfl) (pv 1))
        (pss_cons (ps_setLc (i := 9) (own := [("number", 8)]) rfl scShares.nd rfl rfl (sw_true rfl rfl rfl rfl) (pi_list (pv 4)) (blkOk_by (by show blkC nShares (defScope sShares) _ _ = true; decide +kernel))
          (fun _ _ _ _ _ => pg_name (i := 8) scShares.nd rfl (Or.inl rfl)) (fun _ _ _ _ _ => pts_one (pt_val (pe_meth (pe_ix (r := rIxL K) ix_list (pe_fldB (K := K) rfl (pv 0) rfl) (pv 8) (fun _ _ => rfl)) TS.cl mC GC hr bC .nil pass0 (pa_cons (pv 6) pa_nil)))) (fun _ _ _ _ _ => pv 8))
        (pss_one (ps_for PassesOwn.never rfl (pi_list (pv 9)) (pg_name (i := 8) scShares.nd rfl (Or.inl rfl))
          (pss_cons (ps_set (i := 10) scShares.nd rfl (Or.inl rfl) (pe_callB (call_min2 rfl) (by rfl) B.min PyProof.Rows.boot_min (pa_cons (pv 7) (pa_cons (pe_ix ix_list (pv 3) (pv 8) (fun _ _ => rfl)) pa_nil))))
          (pss_one (ps_if (pt_cmpR op_gt (pv 10) pe_int (nomark _))
            (pss_cons (ps_expr (pe_bm PySem.F.plainAttrs_list PySem.F.slot_list_append PySem.F.type_list_append mt_append (pv 5) (pa_cons (pe_tup (pa_cons (pv 8) (pa_cons (pv 6) (pa_cons (pv 10) pa_nil)))) pa_nil)))
            (pss_cons (ps_augS (pv 3) (pv 8) get_listN (pv 10) ip_sub set_list)
            (pss_one (ps_aug (i := 7) scShares.nd rfl (Or.inl rfl) (pv 10) ip_sub)))) pss_nil))))))))
      (pss_one (ps_ret (pv 5)))))), ?_⟩
    refine ⟨_, rfl, g, Cg, dx, _, _, rfl, hg, T.cl, T.n3, gf_stretches _ _ _, t0, rfl, ⟨_, SqL.of G.lo⟩, fun lf hlf => ?_⟩
    refine lc_list (K := K) (a := t0) (xs := ss.map V.ref) (fun i H1 => H1 lf = some (.lst (natV ((a.lows.take i).map Kv365.Low.water))) ∧ Same H H1) ⟨upd_same, same_new hlf⟩ (fun i H1 _ ⟨_, q⟩ => SqL.of (q _ _ G.lo)) (fun i v H1 hv ⟨q1, q2⟩ => ?_) fun H1 ⟨q1, s1⟩ => ?_
    · obtain ⟨p, hp, rfl⟩ := refs_at hv
      obtain ⟨l, hl, dp, hpl1⟩ := paired_get G.st hp
      refine ⟨rfl, yesT ⟨_, rfl, p, Cs, dp, _, _, rfl, q2 _ _ hpl1, TS.cl, TS.n3, sf_flow _ _ _, ?_⟩⟩
      rw [take_snoc (show a.lows[i]? = some l from hl), List.map_append]
      have := lc_add hlf q1 q2 (by rw [natV_len, List.length_map, List.length_take]; exact small1000 (by omega)) (V.int (l.water : Int))
      unfold natV at this ⊢; rw [List.map_append]; exact this
    · have el : (ss.map V.ref).length = a.lows.length := by rw [List.length_map, paired_len G.st]; rfl
      rw [el, List.take_length] at q1
      have hT1 := hT.same s1
      have G1 := G.same s1
      obtain ⟨d1, hg1⟩ := G1.ins
      refine ⟨_, rfl, g, Cg, d1, _, _, rfl, hg1, T.cl, T.n3, gf_stretches _ _ _, t0, ss, a, rfl, G1.lo, G1.st, W.ll, hT1, fun H2 L0 hL0 h2 k2 hT2 => ?_⟩
      have lf2 : H2 lf = some (.lst (natV (a.lows.map Kv365.Low.water))) := k2 _ _ (hT1.ne q1 fun ps z => by cases z) q1
      have nL1 : L0 ≠ lf := Ne.symm (ne_of_none q1 hL0)
      have G2 := G1.tab hT1 k2
      have hS2 : SqL K H2 ro (natV m) := SqL.kept (s1.seq hS) hT1 k2
      have hlfH : H lf = none := hlf
      refine ⟨Nat.zero_le _, fun tl htl => ?_⟩
      have s3 : Same H2 (upd H2 tl (.lst [])) := same_new htl
      have nlt : lf ≠ tl := ne_of_none lf2 htl
      have nLt : L0 ≠ tl := ne_of_none h2 htl
      generalize hH3 : upd H2 tl (.lst []) = H3 at s3
      have tl3 : H3 tl = some (.lst []) := by rw [← hH3]; exact upd_same
      have lf3 := s3 _ _ lf2
      have h3 := s3 _ _ h2
      have G3 := G2.same s3
      have hT3 := hT2.same s3
      have hS3 := s3.seq hS2
      have tlH : H tl = none := by
        cases e : H tl with
        | none => rfl
        | some o =>
          by_cases hp : tl = Pt
          · rw [hp] at htl
            rcases hT2 with q | ⟨_, q, _⟩ <;> (rw [htl] at q; cases q)
          · rw [k2 _ _ hp (s1 _ _ e)] at htl; cases htl
      have nro : ∀ {H' : Hp}, KeptBut2 lf tl H3 H' → SqL K H' ro (natV m) := fun {H'} q => by
        have nol : ∀ o, H ro = some o → ro ≠ lf ∧ ro ≠ tl := fun o e => ⟨ne_of_none e hlf, ne_of_none e tlH⟩
        rcases hS with (h | ⟨o, h⟩) | h
        · obtain ⟨n1, n2⟩ := nol _ h
          exact .inl (.inl (q _ _ n1 n2 (s3 _ _ (k2 _ _ (hT.ne h fun ps z => by cases z) (s1 _ _ h)))))
        · obtain ⟨n1, n2⟩ := nol _ h
          exact .inl (.inr ⟨o, q _ _ n1 n2 (s3 _ _ (k2 _ _ (hT.ne h fun ps z => by cases z) (s1 _ _ h)))⟩)
        · exact .inr h
      refine ⟨_, rfl, ro, rfl, ⟨_, hS3⟩, ?_⟩
      refine for_list (K := K) (a := ro) (xs := natV m) (fun i σ H' => ∃ (ps : List Addr) (v6 v7 v8 v9 v10 : Option V), σ = [some (.ref g), some (.int (k : Int)), some (.ref ro), some (.ref lf), some (.ref L0), some (.ref tl), v6, v7, v8, v9, v10, none] ∧ H' lf = some (.lst (natV (My.shareAt a k m i).1)) ∧ H' tl = some (.lst (ps.map V.ref)) ∧ Paired (ShareH H') ps (My.shareAt a k m i).2 ∧ ps.length ≤ 8 * i ∧ KeptBut2 lf tl H3 H')
        ⟨[], none, none, none, none, none, rfl, lf3, tl3, .nil, Nat.zero_le _, fun _ _ _ _ e => e⟩ (fun i σ H' _ ⟨_, _, _, _, _, _, _, _, _, _, _, q⟩ => nro q) ?_ ?_
      · rintro i x σ H4 hx ⟨ps, v6, v7, v8, v9, v10, rfl, j1, j2, j3, j4, j5⟩
        obtain ⟨sn, hs, rfl⟩ := natV_at hx
        have him : i < m.length := (List.getElem?_eq_some_iff.mp hs).1
        have G4 : GAt Cg Cs H4 g (some a) r0 p0 t0 ss := by
          obtain ⟨d, e⟩ := G3.ins
          exact ⟨⟨d, j5 _ _ (ne_of_none hg hlf) (ne_of_none hg tlH) e⟩, j5 _ _ (ne_of_none G.rk hlf) (ne_of_none G.rk tlH) G3.rk, j5 _ _ (ne_of_none G.pr hlf) (ne_of_none G.pr tlH) G3.pr, j5 _ _ (ne_of_none G.lo hlf) (ne_of_none G.lo tlH) G3.lo,
            paired_imp (fun q l z => let ⟨d, e⟩ := z; ⟨d, j5 _ _ (ne_of e lf3 (by intro z; cases z)) (ne_of e tl3 (by intro z; cases z)) e⟩) G3.st, G3.nd, G3.rp⟩
        obtain ⟨d4, hg4⟩ := G4.ins
        have L4 : H4 L0 = some (.lst (natV a.byEnd)) := j5 _ _ nL1 nLt h3
        refine ⟨_, rfl, _, rfl, L0, rfl, ⟨_, SqL.of L4⟩, fun hv hhv => ?_⟩
        refine lc_list (K := K) (a := L0) (xs := natV a.byEnd) (fun n H5 => H5 hv = some (.lst (natV ((a.byEnd.take n).filter fun i => (a.low i).has sn))) ∧ Same H4 H5) ⟨upd_same, same_new hhv⟩ (fun n H5 _ ⟨_, q⟩ => SqL.of (q _ _ L4)) (fun n v H5 hvx ⟨q1, q2⟩ => ?_) fun H5 ⟨q1, s5⟩ => ?_
        · obtain ⟨nb, hnb, rfl⟩ := natV_at hvx
          have hnl : nb < a.lows.length := My.mem_byEnd.mp (List.mem_of_getElem? hnb)
          obtain ⟨pn, gn, dn, stn⟩ := stretch_at G4.st hnl
          refine ⟨rfl, _, rfl, g, Cg, d4, _, _, rfl, q2 _ _ hg4, T.cl, T.n3, gf_stretches _ _ _, _, rfl, t0, _, _, _, rfl, rfl, SqL.of (q2 _ _ G4.lo), at_of (j := nb) rfl gn, pn, dn, _, rfl, q2 _ _ stn, sf_no _ _ _ (by decide +kernel) (by decide +kernel) (by decide +kernel), _, rfl, pn, a.low nb, sn, rfl, ⟨dn, q2 _ _ stn⟩, _, rfl, ?_⟩
          have et := filter_take (f := fun i => (a.low i).has sn) hnb
          have hlen : (natV ((a.byEnd.take n).filter fun i => (a.low i).has sn)).length < sizeLine := by
            rw [natV_len]
            refine small12 (Nat.le_trans (List.length_filter_le _ _) ?_)
            rw [List.length_take, My.byEnd_length]; omega
          dsimp only at et ⊢
          cases e : (a.low nb).has sn with
          | true =>
            rw [e, if_pos rfl] at et
            refine iteT ⟨_, rfl, ?_⟩
            rw [et]
            have := lc_add hhv q1 q2 hlen (V.int (nb : Int))
            unfold natV at this ⊢; rw [List.map_append]; exact this
          | false =>
            rw [e, if_neg Bool.false_ne_true] at et
            refine iteF ⟨?_, q2⟩
            rw [et]; exact q1
        · rw [natV_len, List.take_length] at q1
          have hv5 : H5 hv = some (.lst (natV (My.having a sn))) := q1
          have nhl : hv ≠ lf := Ne.symm (ne_of_none j1 hhv)
          have nht : hv ≠ tl := Ne.symm (ne_of_none j2 hhv)
          have hhl : (My.having a sn).length ≤ 8 := Nat.le_trans (My.having_len a sn) hl8
          have hsl := My.shareAt_len a k m i
          have hsu := My.shareAt_succ (a := a) (k := k) hs
          generalize hst : My.shareAt a k m i = st at j1 j3 hsl hsu
          refine ⟨_, rfl, hv, rfl, ⟨_, SqL.of hv5⟩, ?_⟩
          refine for_list (K := K) (a := hv) (xs := natV (My.having a sn)) (fun j σ H6 => ∃ (ps6 : List Addr) (v8 v10 : Option V), σ = [some (.ref g), some (.int (k : Int)), some (.ref ro), some (.ref lf), some (.ref L0), some (.ref tl), some (.int (sn : Int)), some (.int ((My.pourAt a k st sn j).room : Nat)), v8, some (.ref hv), v10, none] ∧ H6 lf = some (.lst (natV (My.pourAt a k st sn j).left)) ∧ H6 tl = some (.lst (ps6.map V.ref)) ∧ Paired (ShareH H6) ps6 (My.pourAt a k st sn j).told ∧ ps6.length ≤ 8 * i + j ∧ KeptBut2 lf tl H5 H6)
            ⟨ps, v8, v10, rfl, s5 _ _ j1, s5 _ _ j2, paired_imp (fun _ _ z => s5 _ _ z) j3, j4, fun _ _ _ _ e => e⟩ (fun j σ H6 _ ⟨_, _, _, _, _, _, _, _, q⟩ => SqL.of (q _ _ nhl nht hv5)) ?_ ?_
          · rintro j y σ H6 hy ⟨ps6, v8, v10, rfl, i1, i2, i3, i4, i5⟩
            obtain ⟨nb, hnb, rfl⟩ := natV_at hy
            obtain ⟨hnl, hhas⟩ := My.having_lt (List.mem_of_getElem? hnb)
            have hjl : j < (My.having a sn).length := (List.getElem?_eq_some_iff.mp hnb).1
            have hpu := My.pourAt_succ (k := k) (st := st) hnb
            have hpl := My.pourAt_len a k st sn j
            generalize hPj : My.pourAt a k st sn j = Pj at i1 i3 hpu hpl
            have hnL : nb < Pj.left.length := by rw [hpl, hsl]; exact hnl
            have hamt : My.pourAmt a sn Pj nb = min Pj.room (Pj.left.getD nb 0) := by unfold My.pourAmt; rw [hhas]; rfl
            have emin : (if ((Pj.left.getD nb 0 : Nat) : Int) < (Pj.room : Int) then ((Pj.left.getD nb 0 : Nat) : Int) else (Pj.room : Int)) = ((min Pj.room (Pj.left.getD nb 0) : Nat) : Int) := by
              split <;> omega
            refine ⟨_, rfl, _, rfl, _, rfl, lf, _, _, _, rfl, rfl, SqL.of i1, at_of (j := nb) rfl (natV_get hnL), _, _, rfl, ?_⟩
            rw [emin]
            generalize hx : min Pj.room (Pj.left.getD nb 0) = x at hamt
            have hxr : x ≤ Pj.room := by omega
            have hxl : x ≤ Pj.left.getD nb 0 := by omega
            refine ⟨_, rfl, _, _, rfl, rfl, _, rfl, ?_⟩
            by_cases h0 : 0 < x
            · rw [decide_eq_true (show (0 : Int) < (x : Int) by omega)]
              refine iteT ⟨_, rfl, .inl ⟨rfl, _, SqL.of i2⟩, _, rfl, _, rfl, _, rfl, by show 3 ≤ sizeLine; rw [sizeLine_eq]; omega, fun tp htp => ?_⟩
              generalize hH7 : upd H6 tp (.tup [.int (nb : Int), .int (sn : Int), .int (x : Int)]) = H7
              have s7 : Same H6 H7 := by rw [← hH7]; exact same_new htp
              have tp7 : ShareH H7 tp (nb, sn, x) := by unfold ShareH; rw [← hH7, upd_same]
              have tl7 := s7 _ _ i2
              have lf7 := s7 _ _ i1
              refine ⟨tl, _, _, rfl, rfl, tl7, by rw [List.length_map]; exact small1000' (by omega), ?_⟩
              generalize hH8 : upd H7 tl (.lst (ps6.map V.ref ++ [V.ref tp])) = H8
              have tl8 : H8 tl = some (.lst ((ps6 ++ [tp]).map V.ref)) := by rw [← hH8, upd_same, List.map_append]; rfl
              have lf8 : H8 lf = some (.lst (natV Pj.left)) := by rw [← hH8, upd_ne nlt]; exact lf7
              have P8 : Paired (ShareH H8) (ps6 ++ [tp]) (Pj.told ++ [(nb, sn, x)]) := by
                rw [← hH8]
                exact paired_snoc (paired_imp (fun _ _ z => ShareH.put (s7 _ _ z) tl7) i3) (tp7.put tl7)
              refine ⟨_, rfl, _, rfl, lf, _, nb, _, rfl, rfl, SqL.of lf8, natV_get hnL, _, rfl, _, _, rfl, rfl, lf, _, _, nb, rfl, rfl, lf8, by rw [natV_len]; exact ixN_nat hnL, ?_⟩
              refine ⟨_, rfl, _, rfl, _, _, rfl, rfl, ?_⟩
              have ep : My.pourAt a k st sn (j + 1) = ⟨Pj.room - x, Pj.left.set nb (Pj.left.getD nb 0 - x), Pj.told ++ [(nb, sn, x)]⟩ := by
                rw [hpu]
                unfold My.pourStep
                simp only [hamt]
                rw [if_neg (by omega)]
              have ec1 : ((Pj.left.getD nb 0 : Nat) : Int) - (x : Int) = ((Pj.left.getD nb 0 - x : Nat) : Int) := by omega
              have ec2 : ((Pj.room : Nat) : Int) - (x : Int) = ((Pj.room - x : Nat) : Int) := by omega
              dsimp only
              rw [ec1, natV_set]
              refine ⟨ps6 ++ [tp], _, _, by rw [ep, ec2]; rfl, by rw [ep, upd_same], by rw [upd_ne (Ne.symm nlt)]; exact tl8, ?_, by rw [List.length_append, List.length_singleton]; omega, fun b o hb1 hb2 e => ?_⟩
              · rw [ep]
                exact paired_imp (fun _ _ z => ShareH.put z lf8) P8
              · rw [upd_ne hb1, ← hH8, upd_ne hb2]; exact s7 _ _ (i5 b o hb1 hb2 e)
            · rw [decide_eq_false (show ¬ (0 : Int) < (x : Int) by omega)]
              have ep : My.pourAt a k st sn (j + 1) = Pj := by
                rw [hpu]; exact My.pourStep_zero (by rw [hamt]; omega)
              exact iteF ⟨ps6, _, _, by rw [ep]; rfl, by rw [ep]; exact i1, i2, by rw [ep]; exact i3, by omega, i5⟩
          · rintro σ H6 ⟨ps6, v8, v10, rfl, i1, i2, i3, i4, i5⟩
            rw [natV_len] at i1 i3 i4
            have ea := My.pourAt_all a k st sn
            rw [← hsu] at ea
            have e1 : (My.pourAt a k st sn (My.having a sn).length).left = (My.shareAt a k m (i + 1)).1 := congrArg Prod.fst ea
            have e2 : (My.pourAt a k st sn (My.having a sn).length).told = (My.shareAt a k m (i + 1)).2 := congrArg Prod.snd ea
            rw [e1] at i1
            rw [e2] at i3
            exact ⟨ps6, _, _, _, _, _, rfl, i1, i2, i3, by omega, fun b o hb1 hb2 e => i5 b o hb1 hb2 (s5 _ _ (j5 b o hb1 hb2 e))⟩
      · rintro σ H4 ⟨ps, v6, v7, v8, v9, v10, rfl, j1, j2, j3, j4, j5⟩
        rw [natV_len] at j3 j4
        rw [My.shareAt_all] at j3
        refine ⟨_, rfl, kk H4 tl ps tlH j2 j3 j4 (fun b o hb e => j5 b o (ne_of_none e hlf) (ne_of_none e tlH) (s3 _ _ (k2 b o hb (s1 b o e)))) ?_⟩
        rcases hT3 with q | ⟨c1, q1, q2⟩
        · exact .inl (j5 _ _ (ne_of q lf3 (by intro z; cases z)) (ne_of q tl3 (by intro z; cases z)) q)
        · exact .inr ⟨c1, j5 _ _ (ne_of q1 lf3 (by intro z; cases z)) (ne_of q1 tl3 (by intro z; cases z)) q1, j5 _ _ (ne_of q2 lf3 (by intro z; unfold codeAtHO at z; cases z)) (ne_of q2 tl3 (by intro z; unfold codeAtHO at z; cases z)) q2⟩
end
end Cv
end
section
namespace Cv
open PySem PySem.Spec PyProof.Rows L2 HT
abbrev sHMissed : Stmt := top 54
abbrev sCanTake : Stmt := top 55
abbrev sHCarries : Stmt := top 56
abbrev sHWhy : Stmt := top 57
abbrev sHLeastroom : Stmt := top 59
abbrev sHFewestfor : Stmt := top 60
abbrev sHByend : Stmt := top 65
def spCanTake (Cg Cs : Addr) : PySem.W.Frag → Sp := fun K vs H Q _ => ∃ (g ro : Addr) (a : Kv365.Abs) (k : Nat) (m : List Nat), vs = [.ref g, .int (k : Int), .ref ro] ∧ Gnd Cg Cs H g (some a) ∧ SqL K H ro (natV m) ∧ m.length ≤ 30000 ∧ Reads H Q (.bl (Kv365.okK k && a.okSet m))
theorem okK_le {k : Nat} (h : Kv365.okK k = true) : k ≤ 160 := by
  unfold Kv365.okK at h
  rw [Bool.and_eq_true, decide_eq_true_eq, decide_eq_true_eq] at h
  exact h.2
theorem can_or (a b : Bool) : (a = false ∨ b = false) ↔ (a && b) = false := by cases a <;> cases b <;> simp
section
variable {P : Program} {w : World} {K : PySem.W.Frag} {mg : Str → Option Value} {base : Heap}
theorem scHMissed : FnScope hps hps (defScope sHMissed) := ⟨rfl, rfl, rfl, by decide +kernel, rfl, by decide +kernel, by decide +kernel⟩
theorem ok_hMissed {f Cg Cs Pt fC fM fU : Addr} {fd fdC fdM fdU : FuncData} (F0 : Fun K "missed" "missed" sHMissed f fd) (N : TxtN mg) (gC : mg "are_culverts" = some (.ref fC)) (kC : PySem.W.keepIn K (.ref fC) = true) (GC : FnOk P w K mg base CX0 3 fC fdC ["ground", "row"] (spCulverts Cg Cs K)) (bC : Binds K fdC ["ground", "row"] [])
    (gM : mg "missed_numbers" = some (.ref fM)) (kM : PySem.W.keepIn K (.ref fM) = true) (GM : FnOk P w K mg base CX0 3 fM fdM ["ground", "row"] (spMissed Cg Cs K)) (bM : Binds K fdM ["ground", "row"] [])
    (gU : mg "counted" = some (.ref fU)) (kU : PySem.W.keepIn K (.ref fU) = true) (GU : FnOk P w K mg base CX0 1 fU fdU ["found"] (spCounted K)) (bU : Binds K fdU ["found"] []) : FnOk P w K mg base CX0 4 f fd hps (spHand Cg Cs Pt 0 (fun _ row => .missed row) K) := by
  refine F0.ok scHMissed (fun vs H Q E h => ?_) (fun cdv A outer s0 H vs Q E hr h => ?_)
  · obtain ⟨g, nu, ro, a, F, ns, row, rfl, _⟩ := h
    rfl
  · obtain ⟨g, nu, ro, a, F, ns, row, rfl, hG, W, hT, hN, hl, hR, hrl, k⟩ := h
    obtain ⟨u1, m1, w1⟩ := N.outOfRange
    refine ⟨_, pss_cons (ps_if (pt_not (pt_val (pe_call GC hr rfl gC kC bC .nil pass0 (pa_cons (pv 0) (pa_cons (pv 2) pa_nil))))) (pss_one (ps_ret (pe_lst (pa_cons (pe_glob rfl m1 w1) pa_nil)))) pss_nil)
      (pss_one (ps_ret (pe_call GU (hr.mono (by decide)) rfl gU kU bU .nil pass0 (pa_cons (pe_call GM hr rfl gM kM bM .nil pass0 (pa_cons (pv 0) (pa_cons (pv 2) pa_nil))) pa_nil)))), ?_⟩
    refine ⟨_, rfl, _, rfl, g, ro, some a, row, rfl, hG.gnd, hR, hrl, fun H1 s1 => ⟨_, rfl, ?_⟩⟩
    rw [← okSet_eq]
    cases e : a.okSet row with
    | false =>
      have ed : a.does (.missed row) = (a, Kv365.say (-22)) := by simp only [Kv365.Abs.does, e, if_true]
      simp only [ed] at k
      exact iteT ⟨row1, fun D hD => k.give hG hT (Same.kept s1) (hT.same s1) hD⟩
    | true =>
      have ed : a.does (.missed row) = (a, Kv365.list (missOf a.lows row)) := by simp only [Kv365.Abs.does, e, Bool.true_eq_false, if_false]; rfl
      simp only [ed] at k
      have hml : (missOf a.lows row).length ≤ 8 := by
        unfold missOf
        exact Nat.le_trans (List.length_filter_le _ _) (by rw [List.length_range]; exact W.ll)
      refine iteF ⟨_, rfl, _, rfl, g, ro, some a, row, rfl, (hG.same s1).gnd, W.ll, s1.seq hR, hrl, fun H2 r hr0 h2 s2 => ?_⟩
      exact .inr ⟨r, missOf a.lows row, rfl, SqL.of h2, h2, by omega, fun H3 D hD h3 s3 => k.new hG hT (Same.kept (s1.trans s2)) (hT.same (s1.trans s2)) hD h3 s3⟩
theorem scCanTake : FnScope ["ground", "room", "row"] ["ground", "room", "row"] (defScope sCanTake) := ⟨rfl, rfl, rfl, by decide +kernel, rfl, by decide +kernel, by decide +kernel⟩
theorem ok_canTake {f Cg Cs fI fC : Addr} {fd fdI fdC : FuncData} (F0 : Fun K "can_take" "can_take" sCanTake f fd) (gI : mg "is_room" = some (.ref fI)) (kI : PySem.W.keepIn K (.ref fI) = true) (GI : FnOk P w K mg base CX0 1 fI fdI ["room"] spIsRoom) (bI : Binds K fdI ["room"] [])
    (gC : mg "are_culverts" = some (.ref fC)) (kC : PySem.W.keepIn K (.ref fC) = true) (GC : FnOk P w K mg base CX0 3 fC fdC ["ground", "row"] (spCulverts Cg Cs K)) (bC : Binds K fdC ["ground", "row"] []) : FnOk P w K mg base CX0 4 f fd ["ground", "room", "row"] (spCanTake Cg Cs K) := by
  refine F0.ok scCanTake (fun vs H Q E h => ?_) (fun cdv A outer s0 H vs Q E hr h => ?_)
  · obtain ⟨g, ro, a, k, m, rfl, _⟩ := h
    rfl
  · obtain ⟨g, ro, a, k, m, rfl, hG, hS, hm, kk⟩ := h
    refine ⟨_, pss_one (ps_ret (pe_and (pe_call GI (hr.mono (by decide)) rfl gI kI bI .nil pass0 (pa_cons (pv 1) pa_nil)) (pe_one (pe_call GC hr rfl gC kC bC .nil pass0 (pa_cons (pv 0) (pa_cons (pv 2) pa_nil)))))), ?_⟩
    refine ⟨_, rfl, k, rfl, _, rfl, ?_⟩
    cases e : Kv365.okK k with
    | false =>
      rw [e, Bool.false_and] at kk
      exact iteF (kk H (fun _ _ q => q))
    | true =>
      rw [e, Bool.true_and, okSet_eq] at kk
      exact iteT ⟨_, rfl, _, rfl, g, ro, some a, m, rfl, hG, hS, hm, fun H1 s1 => kk H1 s1⟩
theorem scHCarries : FnScope hps hps (defScope sHCarries) := ⟨rfl, rfl, rfl, by decide +kernel, rfl, by decide +kernel, by decide +kernel⟩
def cCarries (ns row : List Nat) : Kv365.Call := .carries (ns.getD 0 0) row
theorem ok_hCarries {f Cg Cs Pt fC fA : Addr} {fd fdC fdA : FuncData} (F0 : Fun K "carries" "carries" sHCarries f fd) (N : TxtN mg) (gC : mg "can_take" = some (.ref fC)) (kC : PySem.W.keepIn K (.ref fC) = true) (GC : FnOk P w K mg base CX0 4 fC fdC ["ground", "room", "row"] (spCanTake Cg Cs K)) (bC : Binds K fdC ["ground", "room", "row"] [])
    (gA : mg "all_goes" = some (.ref fA)) (kA : PySem.W.keepIn K (.ref fA) = true) (GA : FnOk P w K mg base CX0 3 fA fdA ["ground", "room", "row"] (spAllGoes Cg Cs K)) (bA : Binds K fdA ["ground", "room", "row"] []) : FnOk P w K mg base CX0 5 f fd hps (spHand Cg Cs Pt 1 cCarries K) := by
  refine F0.ok scHCarries (fun vs H Q E h => ?_) (fun cdv A outer s0 H vs Q E hr h => ?_)
  · obtain ⟨g, nu, ro, a, F, ns, row, rfl, _⟩ := h
    rfl
  · obtain ⟨g, nu, ro, a, F, ns, row, rfl, hG, W, hT, hN, hl, hR, hrl, k⟩ := h
    obtain ⟨x, rfl⟩ := list1 hl
    obtain ⟨u1, m1, w1⟩ := N.outOfRange
    have k' : Hands Cg Cs Pt H g F (some (a.does (.carries x row)).1) (a.does (.carries x row)).2 Q := k
    refine ⟨_, pss_cons (ps_if (pt_not (pt_val (pe_call GC hr rfl gC kC bC .nil pass0 (pa_cons (pv 0) (pa_cons (pe_ix ix_list (pv 1) pe_int (fun _ _ => rfl)) (pa_cons (pv 2) pa_nil)))))) (pss_one (ps_ret (pe_lst (pa_cons (pe_glob rfl m1 w1) pa_nil)))) pss_nil)
      (pss_one (ps_ret (pe_lst (pa_cons (pe_ifExp (pt_val (pe_call GA (hr.mono (by decide)) rfl gA kA bA .nil pass0 (pa_cons (pv 0) (pa_cons (pe_ix ix_list (pv 1) pe_int (fun _ _ => rfl)) (pa_cons (pv 2) pa_nil))))) pe_int pe_int) pa_nil)))), ?_⟩
    refine ⟨_, rfl, _, rfl, nu, _, _, _, rfl, rfl, hN, at_of (j := 0) rfl rfl, _, rfl, g, ro, a, x, row, rfl, hG.gnd, hR, hrl, fun H1 s1 => ⟨_, rfl, ?_⟩⟩
    cases e : (Kv365.okK x && a.okSet row) with
    | false =>
      have ed : a.does (.carries x row) = (a, Kv365.say (-22)) := by simp only [Kv365.Abs.does, if_pos ((can_or _ _).mpr e)]
      simp only [ed] at k'
      exact iteT ⟨row1, fun D hD => k'.give hG hT (Same.kept s1) (hT.same s1) hD⟩
    | true =>
      have hk := okK_le (Bool.and_eq_true_iff.mp e).1
      have ed : a.does (.carries x row) = (a, Kv365.say (Kv365.bit (a.carries x row) : Nat)) := by simp only [Kv365.Abs.does, if_neg (fun z => by rw [(can_or _ _).mp z] at e; cases e)]
      simp only [ed] at k'
      refine iteF ⟨_, rfl, _, rfl, nu, _, _, _, rfl, rfl, s1.seq hN, at_of (j := 0) rfl rfl, _, rfl, g, ro, a, x, row, rfl, (hG.same s1).gnd, W, s1.seq hR, hrl, hk, fun H2 s2 => ⟨_, rfl, ?_⟩⟩
      cases e2 : a.carries x row with
      | true =>
        rw [e2] at k'
        exact iteT ⟨row1, fun D hD => k'.give hG hT (Same.kept (s1.trans s2)) (hT.same (s1.trans s2)) hD⟩
      | false =>
        rw [e2] at k'
        exact iteF ⟨row1, fun D hD => k'.give hG hT (Same.kept (s1.trans s2)) (hT.same (s1.trans s2)) hD⟩
theorem scHWhy : FnScope ["ground", "numbers", "row", "found"] hps (defScope sHWhy) := ⟨rfl, rfl, rfl, by decide +kernel, rfl, by decide +kernel, by decide +kernel⟩
def cWhy (ns row : List Nat) : Kv365.Call := .why (ns.getD 0 0) row
theorem ok_hWhy {f Cg Cs Pt fC fA : Addr} {fd fdC fdA : FuncData} (F0 : Fun K "why" "why" sHWhy f fd) (N : TxtN mg) (gC : mg "can_take" = some (.ref fC)) (kC : PySem.W.keepIn K (.ref fC) = true) (GC : FnOk P w K mg base CX0 4 fC fdC ["ground", "room", "row"] (spCanTake Cg Cs K)) (bC : Binds K fdC ["ground", "room", "row"] [])
    (gA : mg "too_much" = some (.ref fA)) (kA : PySem.W.keepIn K (.ref fA) = true) (GA : FnOk P w K mg base CX0 2 fA fdA ["ground", "room", "row"] (spTooMuch Cg Cs K)) (bA : Binds K fdA ["ground", "room", "row"] []) : FnOk P w K mg base CX0 5 f fd hps (spHand Cg Cs Pt 1 cWhy K) := by
  refine F0.ok scHWhy (fun vs H Q E h => ?_) (fun cdv A outer s0 H vs Q E hr h => ?_)
  · obtain ⟨g, nu, ro, a, F, ns, row, rfl, _⟩ := h
    rfl
  · obtain ⟨g, nu, ro, a, F, ns, row, rfl, hG, W, hT, hN, hl, hR, hrl, k⟩ := h
    obtain ⟨x, rfl⟩ := list1 hl
    obtain ⟨u1, m1, w1⟩ := N.outOfRange
    obtain ⟨u2, m2, w2⟩ := N.alreadySo
    have k' : Hands Cg Cs Pt H g F (some (a.does (.why x row)).1) (a.does (.why x row)).2 Q := k
    refine ⟨_, pss_cons (ps_if (pt_not (pt_val (pe_call GC hr rfl gC kC bC .nil pass0 (pa_cons (pv 0) (pa_cons (pe_ix ix_list (pv 1) pe_int (fun _ _ => rfl)) (pa_cons (pv 2) pa_nil)))))) (pss_one (ps_ret (pe_lst (pa_cons (pe_glob rfl m1 w1) pa_nil)))) pss_nil)
      (pss_cons (ps_set (i := 3) scHWhy.nd rfl (Or.inl rfl) (pe_call GA (hr.mono (by decide)) rfl gA kA bA .nil pass0 (pa_cons (pv 0) (pa_cons (pe_ix ix_list (pv 1) pe_int (fun _ _ => rfl)) (pa_cons (pv 2) pa_nil)))))
      (pss_one (ps_ret (pe_ifExp (pt_cmp (pc_isN (pv 3))) (pe_lst (pa_cons (pe_glob rfl m2 w2) pa_nil)) (pv 3))))), ?_⟩
    refine ⟨_, rfl, _, rfl, nu, _, _, _, rfl, rfl, hN, at_of (j := 0) rfl rfl, _, rfl, g, ro, a, x, row, rfl, hG.gnd, hR, hrl, fun H1 s1 => ⟨_, rfl, ?_⟩⟩
    cases e : (Kv365.okK x && a.okSet row) with
    | false =>
      have ed : a.does (.why x row) = (a, Kv365.say (-22)) := by simp only [Kv365.Abs.does, if_pos ((can_or _ _).mpr e)]
      simp only [ed] at k'
      exact iteT ⟨row1, fun D hD => k'.give hG hT (Same.kept s1) (hT.same s1) hD⟩
    | true =>
      have hk := okK_le (Bool.and_eq_true_iff.mp e).1
      have hno : ¬ (Kv365.okK x = false ∨ a.okSet row = false) := fun z => by rw [(can_or _ _).mp z] at e; cases e
      refine iteF ⟨_, rfl, _, rfl, nu, _, _, _, rfl, rfl, s1.seq hN, at_of (j := 0) rfl rfl, _, rfl, g, ro, a, x, row, rfl, (hG.same s1).gnd, W, s1.seq hR, hrl, hk, fun et H2 s2 => ?_, fun v et H2 D hD h2 s2 => ?_⟩
      · have ed : a.does (.why x row) = (a, Kv365.say (-17)) := by simp only [Kv365.Abs.does, if_neg hno, et]
        simp only [ed] at k'
        exact ⟨_, rfl, _, rfl, iteT ⟨row1, fun D hD => k'.give hG hT (Same.kept (s1.trans s2)) (hT.same (s1.trans s2)) hD⟩⟩
      · have ed : a.does (.why x row) = (a, ⟨(v.1 : Nat), [v.2, a.within v.1 v.2, Kv365.room x row v.1 v.2]⟩) := by simp only [Kv365.Abs.does, if_neg hno, et]
        simp only [ed] at k'
        exact ⟨_, rfl, _, rfl, iteF ⟨_, rfl, k'.new hG hT (Same.kept s1) (hT.same s1) hD h2 s2⟩⟩
theorem scHLeastroom : FnScope ["ground", "numbers", "row", "room"] hps (defScope sHLeastroom) := ⟨rfl, rfl, rfl, by decide +kernel, rfl, by decide +kernel, by decide +kernel⟩
theorem ok_hLeastroom {f Cg Cs Pt fC fA : Addr} {fd fdC fdA : FuncData} (F0 : Fun K "leastroom" "leastroom" sHLeastroom f fd) (N : TxtN mg) (gC : mg "are_culverts" = some (.ref fC)) (kC : PySem.W.keepIn K (.ref fC) = true) (GC : FnOk P w K mg base CX0 3 fC fdC ["ground", "row"] (spCulverts Cg Cs K)) (bC : Binds K fdC ["ground", "row"] [])
    (gA : mg "least_room" = some (.ref fA)) (kA : PySem.W.keepIn K (.ref fA) = true) (GA : FnOk P w K mg base CX0 2 fA fdA ["ground", "row"] (spLeastRoom Cg Cs K)) (bA : Binds K fdA ["ground", "row"] []) : FnOk P w K mg base CX0 4 f fd hps (spHand Cg Cs Pt 0 (fun _ row => .leastroom row) K) := by
  refine F0.ok scHLeastroom (fun vs H Q E h => ?_) (fun cdv A outer s0 H vs Q E hr h => ?_)
  · obtain ⟨g, nu, ro, a, F, ns, row, rfl, _⟩ := h
    rfl
  · obtain ⟨g, nu, ro, a, F, ns, row, rfl, hG, W, hT, hN, hl, hR, hrl, k⟩ := h
    obtain ⟨u1, m1, w1⟩ := N.outOfRange
    obtain ⟨u2, m2, w2⟩ := N.cannotBe
    refine ⟨_, pss_cons (ps_if (pt_not (pt_val (pe_call GC hr rfl gC kC bC .nil pass0 (pa_cons (pv 0) (pa_cons (pv 2) pa_nil))))) (pss_one (ps_ret (pe_lst (pa_cons (pe_glob rfl m1 w1) pa_nil)))) pss_nil)
      (pss_cons (ps_set (i := 3) scHLeastroom.nd rfl (Or.inl rfl) (pe_call GA (hr.mono (by decide)) rfl gA kA bA .nil pass0 (pa_cons (pv 0) (pa_cons (pv 2) pa_nil))))
      (pss_one (ps_ret (pe_lst (pa_cons (pe_ifExp (pt_cmp (pc_isN (pv 3))) (pe_glob rfl m2 w2) (pv 3)) pa_nil))))), ?_⟩
    refine ⟨_, rfl, _, rfl, g, ro, some a, row, rfl, hG.gnd, hR, hrl, fun H1 s1 => ⟨_, rfl, ?_⟩⟩
    rw [← okSet_eq]
    cases e : a.okSet row with
    | false =>
      have ed : a.does (.leastroom row) = (a, Kv365.say (-22)) := by simp only [Kv365.Abs.does, e, if_true]
      simp only [ed] at k
      exact iteT ⟨row1, fun D hD => k.give hG hT (Same.kept s1) (hT.same s1) hD⟩
    | true =>
      refine iteF ⟨_, rfl, _, rfl, g, ro, a, row, rfl, (hG.same s1).gnd, W, s1.seq hR, hrl, fun et H2 s2 => ?_, fun r et H2 s2 => ?_⟩
      · have ed : a.does (.leastroom row) = (a, Kv365.say (-33)) := by simp only [Kv365.Abs.does, e, Bool.true_eq_false, if_false, et]
        simp only [ed] at k
        exact ⟨_, rfl, _, rfl, iteT ⟨row1, fun D hD => k.give hG hT (Same.kept (s1.trans s2)) (hT.same (s1.trans s2)) hD⟩⟩
      · have ed : a.does (.leastroom row) = (a, Kv365.say (r : Nat)) := by simp only [Kv365.Abs.does, e, Bool.true_eq_false, if_false, et]
        simp only [ed] at k
        exact ⟨_, rfl, _, rfl, iteF ⟨_, rfl, row1, fun D hD => k.give hG hT (Same.kept (s1.trans s2)) (hT.same (s1.trans s2)) hD⟩⟩
theorem scHFewestfor : FnScope hps hps (defScope sHFewestfor) := ⟨rfl, rfl, rfl, by decide +kernel, rfl, by decide +kernel, by decide +kernel⟩
def cFewestfor (ns _row : List Nat) : Kv365.Call := .fewestfor (ns.getD 0 0)
theorem ok_hFewestfor {f Cg Cs Pt fI fA fU : Addr} {fd fdI fdA fdU : FuncData} (F0 : Fun K "fewestfor" "fewestfor" sHFewestfor f fd) (N : TxtN mg) (gI : mg "is_room" = some (.ref fI)) (kI : PySem.W.keepIn K (.ref fI) = true) (GI : FnOk P w K mg base CX0 1 fI fdI ["room"] spIsRoom) (bI : Binds K fdI ["room"] [])
    (gA : mg "fewest_carrying" = some (.ref fA)) (kA : PySem.W.keepIn K (.ref fA) = true) (GA : FnOk P w K mg base CX0 4 fA fdA ["ground", "room"] (spFewCarry Cg Cs)) (bA : Binds K fdA ["ground", "room"] [])
    (gU : mg "counted" = some (.ref fU)) (kU : PySem.W.keepIn K (.ref fU) = true) (GU : FnOk P w K mg base CX0 1 fU fdU ["found"] (spCounted K)) (bU : Binds K fdU ["found"] []) : FnOk P w K mg base CX0 5 f fd hps (spHand Cg Cs Pt 1 cFewestfor K) := by
  refine F0.ok scHFewestfor (fun vs H Q E h => ?_) (fun cdv A outer s0 H vs Q E hr h => ?_)
  · obtain ⟨g, nu, ro, a, F, ns, row, rfl, _⟩ := h
    rfl
  · obtain ⟨g, nu, ro, a, F, ns, row, rfl, hG, W, hT, hN, hl, hR, hrl, k⟩ := h
    obtain ⟨x, rfl⟩ := list1 hl
    obtain ⟨u1, m1, w1⟩ := N.outOfRange
    have k' : Hands Cg Cs Pt H g F (some (a.does (.fewestfor x)).1) (a.does (.fewestfor x)).2 Q := k
    refine ⟨_, pss_cons (ps_if (pt_not (pt_val (pe_call GI (hr.mono (by decide)) rfl gI kI bI .nil pass0 (pa_cons (pe_ix ix_list (pv 1) pe_int (fun _ _ => rfl)) pa_nil)))) (pss_one (ps_ret (pe_lst (pa_cons (pe_glob rfl m1 w1) pa_nil)))) pss_nil)
      (pss_one (ps_ret (pe_call GU (hr.mono (by decide)) rfl gU kU bU .nil pass0 (pa_cons (pe_call GA hr rfl gA kA bA .nil pass0 (pa_cons (pv 0) (pa_cons (pe_ix ix_list (pv 1) pe_int (fun _ _ => rfl)) pa_nil))) pa_nil)))), ?_⟩
    refine ⟨_, rfl, nu, _, _, _, rfl, rfl, hN, at_of (j := 0) rfl rfl, x, rfl, _, rfl, ?_⟩
    cases e : Kv365.okK x with
    | false =>
      have ed : a.does (.fewestfor x) = (a, Kv365.say (-22)) := by simp only [Kv365.Abs.does, e, if_true]
      simp only [ed] at k'
      exact iteT ⟨row1, fun D hD => k'.give hG hT (fun _ _ _ q => q) hT hD⟩
    | true =>
      refine iteF ⟨_, rfl, _, rfl, nu, _, _, _, rfl, rfl, hN, at_of (j := 0) rfl rfl, g, a, x, rfl, hG.gnd, W, okK_le e, fun et H2 s2 => ?_, fun m et hml H2 r s2 h2 => ?_⟩
      · have ed : a.does (.fewestfor x) = (a, Kv365.say (-33)) := by simp only [Kv365.Abs.does, e, Bool.true_eq_false, if_false, Kv365.Abs.one, et]
        simp only [ed] at k'
        exact .inl ⟨rfl, fun H3 D hD h3 s3 => k'.new hG hT (Same.kept s2) (hT.same s2) hD h3 s3⟩
      · have ed : a.does (.fewestfor x) = (a, Kv365.list m) := by simp only [Kv365.Abs.does, e, Bool.true_eq_false, if_false, Kv365.Abs.one, et]
        simp only [ed] at k'
        exact .inr ⟨r, m, rfl, SqL.of h2, h2, by omega, fun H3 D hD h3 s3 => k'.new hG hT (Same.kept s2) (hT.same s2) hD h3 s3⟩
theorem scHByend : FnScope hps hps (defScope sHByend) := ⟨rfl, rfl, rfl, by decide +kernel, rfl, by decide +kernel, by decide +kernel⟩
theorem ok_hByend {f Cg Cs Pt fE fU : Addr} {fd fdE fdU : FuncData} (F0 : Fun K "byend" "byend" sHByend f fd) (T : TxtG K mg Cg) (gE : mg "by_ends" = some (.ref fE)) (kE : PySem.W.keepIn K (.ref fE) = true) (GE : FnOk P w K mg base CX0 1 fE fdE ["stretches"] (spByEnds Cs Pt K)) (bE : Binds K fdE ["stretches"] [])
    (gU : mg "counted" = some (.ref fU)) (kU : PySem.W.keepIn K (.ref fU) = true) (GU : FnOk P w K mg base CX0 1 fU fdU ["found"] (spCounted K)) (bU : Binds K fdU ["found"] []) : FnOk P w K mg base CX0 2 f fd hps (spHand Cg Cs Pt 0 (fun _ _ => .byend) K) := by
  refine F0.ok scHByend (fun vs H Q E h => ?_) (fun cdv A outer s0 H vs Q E hr h => ?_)
  · obtain ⟨g, nu, ro, a, F, ns, row, rfl, _⟩ := h
    rfl
  · obtain ⟨g, nu, ro, a, F, ns, row, rfl, hG, W, hT, hN, hl, hR, hrl, k⟩ := h
    obtain ⟨r0, p0, t0, ss, G, eF⟩ := id hG
    obtain ⟨dx, hg⟩ := G.ins
    have k' : Hands Cg Cs Pt H g F (some a) (Kv365.list a.byEnd) Q := k
    refine ⟨_, pss_one (ps_ret (pe_call GU hr rfl gU kU bU .nil pass0 (pa_cons (pe_call GE hr rfl gE kE bE .nil pass0 (pa_cons (pe_fld (pv 0) rfl) pa_nil)) pa_nil))), ?_⟩
    refine ⟨_, rfl, g, Cg, dx, _, _, rfl, hg, T.cl, T.n3, gf_stretches _ _ _, t0, ss, a, rfl, G.lo, G.st, W.ll, hT, fun H2 r hr0 h2 k2 hT2 => ?_⟩
    have hbl : a.byEnd.length ≤ 8 := by rw [My.byEnd_length]; exact W.ll
    exact .inr ⟨r, a.byEnd, rfl, SqL.of h2, h2, by omega, fun H3 D hD h3 s3 => k'.new hG hT k2 hT2 hD h3 s3⟩
end
end Cv
end
section
namespace L2
open PySem PySem.Spec PyProof.Rows
section
open PySem.SeqAt
open PySem.AutoSeq1 (wpAny_loadPart')
open PySem.MeetsSeq PySem.MeetsSeq2 PySem.MeetsSeq3
theorem extend_tuple (l b : Addr) (xs ys : Array Value) (n n2 : Nat) (dd : Option Addr) (sl : Array (Option Value)) (h0 : ¬ (!xs.isEmpty && Builtin.List.listTooLong (xs.size + ys.size)) = true) (h1 : xs.size ≤ sizeLine) (h2 : xs.size + ys.size ≤ sizeLine + 1) :
    Meets (Builtin.«list.extend» ⟨[.ref l, .ref b], []⟩) (fun _ R s => s.heap.get? l = some { cls := .type "list", data := .seq xs n } ∧ s.heap.get? b = some { cls := .type "tuple", dict := dd, data := .seq ys n2, slots := sl } ∧
      R (.ok (.ret Value.none)) { s with heap := s.heap.update l (Obj.mapSeq fun x => x ++ ys), toks := s.toks }) := by
  refine .of_wp fun prog w A R s h => ?_
  obtain ⟨hp, gs, ds, tk, os⟩ := s
  obtain ⟨hl, hb, q⟩ := h
  have g1 := AutoSeq1.idx_int
  have g2 := AutoSeq1.sub_tuple_tuple
  have g3 := AutoSeq1.sub_list_list
  have g4 := AutoSeq1.sub_tuple_list
  have g5 := AutoSeq1.sub_list_tuple
  have hz : (xs ++ ys).size ≤ sizeLine + 1 := by rw [Array.size_append]; exact h2
  wp_walk using (wpAny_updateSeq hl rfl (hz := h1) (_hz' := hz)), wpAny_loadPart' hl, wpAny_loadPart' hb
  exact ⟨_, rfl, q⟩
end
def rExtendT : V → List V → Hp → VK → Prop := fun x vs H Q => ∃ l b xs zs, x = .ref l ∧ vs = [.ref b] ∧ H l = some (.lst xs) ∧ H b = some (.tup zs) ∧ xs.length + zs.length ≤ sizeLine ∧ Q .non (upd H l (.lst (xs ++ zs)))
theorem mt_extendT {X : Cx} : MtM X "list.extend" rExtendT := by
  intro pins s σ H x vs v us Q I rx rv h
  obtain ⟨l, b, xs, zs, rfl, rfl, hH, hB, hz, q⟩ := h
  cases rx
  obtain ⟨u, rfl, ru⟩ := rv.one
  cases ru
  obtain ⟨z, its, n, r, hl, e⟩ := I.lstM hH
  obtain ⟨its2, r2, ht, hz2⟩ := I.tuple (SqT.of hB)
  obtain ⟨⟨oc, od, odat, osl⟩, e2, c2, n2, d2⟩ := ht
  have c2 : oc = .type "tuple" := c2
  have d2 : odat = .seq its2.toArray n2 := d2
  subst c2 d2
  have hl2 := r2.length
  have hsz : its.toArray.size + its2.toArray.size ≤ sizeLine := by rw [List.size_toArray, List.size_toArray]; omega
  have hlong : ¬ (!its.toArray.isEmpty && Builtin.List.listTooLong (its.toArray.size + its2.toArray.size)) = true := by
    rw [notLongL hsz, Bool.and_false]
    exact Bool.false_ne_true
  refine call_meets F.slot_list_extend ⟨_, e, rfl⟩ F.entry_list_extend (F.args_list_extend_2 _ _) (extend_tuple l b its.toArray its2.toArray n n2 od osl hlong (by rw [List.size_toArray]; omega) (by omega)) ⟨e, e2, ?_⟩
  refine ⟨.non, _, I.lset (its' := its ++ its2) hH e (by simp) (r.append r2) ?_, rfl, q⟩
  rw [List.length_append]
  omega
end L2
namespace Cv
open PySem PySem.Spec PyProof.Rows L2 HT
abbrev sHShare : Stmt := top 58
abbrev sHAt : Stmt := top 63
abbrev sHLook : Stmt := top 64
abbrev sHState : Stmt := top 66
def flatS (l : List (Nat × Nat × Nat)) : List Nat := l.flatMap fun x => [x.1, x.2.1, x.2.2]
theorem flatS_snoc (l : List (Nat × Nat × Nat)) (x : Nat × Nat × Nat) : flatS (l ++ [x]) = flatS l ++ [x.1, x.2.1, x.2.2] := by
  unfold flatS
  rw [List.flatMap_append, List.flatMap_cons, List.flatMap_nil, List.append_nil]
theorem flatS_len : ∀ l : List (Nat × Nat × Nat), (flatS l).length = 3 * l.length
  | [] => rfl
  | x :: l => by
    have := flatS_len l
    unfold flatS at *
    rw [List.flatMap_cons, List.length_append, this, List.length_cons (as := l)]
    show 3 + _ = _
    omega
section
variable {P : Program} {w : World} {K : PySem.W.Frag} {mg : Str → Option Value} {base : Heap}
theorem scHShare : FnScope ["ground", "numbers", "row", "parts", "told", "part"] hps (defScope sHShare) := ⟨rfl, rfl, rfl, by decide +kernel, rfl, by decide +kernel, by decide +kernel⟩
def cShare (ns row : List Nat) : Kv365.Call := .share (ns.getD 0 0) row
theorem ok_hShare {f Cg Cs Pt fC fA fS : Addr} {fd fdC fdA fdS : FuncData} (F0 : Fun K "share" "share" sHShare f fd) (B : TxtB mg) (N : TxtN mg) (gC : mg "can_take" = some (.ref fC)) (kC : PySem.W.keepIn K (.ref fC) = true) (GC : FnOk P w K mg base CX0 4 fC fdC ["ground", "room", "row"] (spCanTake Cg Cs K)) (bC : Binds K fdC ["ground", "room", "row"] [])
    (gA : mg "all_goes" = some (.ref fA)) (kA : PySem.W.keepIn K (.ref fA) = true) (GA : FnOk P w K mg base CX0 3 fA fdA ["ground", "room", "row"] (spAllGoes Cg Cs K)) (bA : Binds K fdA ["ground", "room", "row"] [])
    (gS : mg "shares" = some (.ref fS)) (kS : PySem.W.keepIn K (.ref fS) = true) (GS : FnOk P w K mg base CX0 2 fS fdS ["ground", "room", "row"] (spShares Cg Cs Pt K)) (bS : Binds K fdS ["ground", "room", "row"] []) : FnOk P w K mg base CX0 5 f fd hps (spHand Cg Cs Pt 1 cShare K) := by
  refine F0.ok scHShare (fun vs H Q E h => ?_) (fun cdv A outer s0 H vs Q E hr h => ?_)
  · obtain ⟨g, nu, ro, a, F, ns, row, rfl, _⟩ := h
    rfl
  · obtain ⟨g, nu, ro, a, F, ns, row, rfl, hG, W, hT, hN, hl, hR, hrl, k⟩ := h
    obtain ⟨x, rfl⟩ := list1 hl
    obtain ⟨u1, m1, w1⟩ := N.outOfRange
    obtain ⟨u2, m2, w2⟩ := N.cannotBe
    have k' : Hands Cg Cs Pt H g F (some (a.does (.share x row)).1) (a.does (.share x row)).2 Q := k
    refine ⟨_, pss_cons (ps_if (pt_not (pt_val (pe_call GC hr rfl gC kC bC .nil pass0 (pa_cons (pv 0) (pa_cons (pe_ix ix_list (pv 1) pe_int (fun _ _ => rfl)) (pa_cons (pv 2) pa_nil)))))) (pss_one (ps_ret (pe_lst (pa_cons (pe_glob rfl m1 w1) pa_nil)))) pss_nil)
      (pss_cons (ps_if (pt_not (pt_val (pe_call GA (hr.mono (by decide)) rfl gA kA bA .nil pass0 (pa_cons (pv 0) (pa_cons (pe_ix ix_list (pv 1) pe_int (fun _ _ => rfl)) (pa_cons (pv 2) pa_nil)))))) (pss_one (ps_ret (pe_lst (pa_cons (pe_glob rfl m2 w2) pa_nil)))) pss_nil)
      (pss_cons (ps_set (i := 3) scHShare.nd rfl (Or.inl rfl) (pe_call GS (hr.mono (by decide)) rfl gS kS bS .nil pass0 (pa_cons (pv 0) (pa_cons (pe_ix ix_list (pv 1) pe_int (fun _ _ => rfl)) (pa_cons (pv 2) pa_nil)))))
      (pss_cons (ps_set (i := 4) scHShare.nd rfl (Or.inl rfl) (pe_lst (pa_cons (pe_callB call_len_seq (by rfl) B.len PySem.boot_len (pa_cons (pv 3) pa_nil)) pa_nil)))
      (pss_cons (ps_for PassesOwn.never rfl (pi_list (pv 3)) (pg_name (i := 5) scHShare.nd rfl (Or.inl rfl))
        (pss_one (ps_expr (pe_bm PySem.F.plainAttrs_list PySem.F.slot_list_extend PySem.F.type_list_extend mt_extendT (pv 4) (pa_cons (pv 5) pa_nil)))))
      (pss_one (ps_ret (pv 4))))))), ?_⟩
    refine ⟨_, rfl, _, rfl, nu, _, _, _, rfl, rfl, hN, at_of (j := 0) rfl rfl, _, rfl, g, ro, a, x, row, rfl, hG.gnd, hR, hrl, fun H1 s1 => ⟨_, rfl, ?_⟩⟩
    cases e : (Kv365.okK x && a.okSet row) with
    | false =>
      have ed : a.does (.share x row) = (a, Kv365.say (-22)) := by simp only [Kv365.Abs.does, if_pos ((can_or _ _).mpr e)]
      simp only [ed] at k'
      exact iteT ⟨row1, fun D hD => k'.give hG hT (Same.kept s1) (hT.same s1) hD⟩
    | true =>
      have hk := okK_le (Bool.and_eq_true_iff.mp e).1
      have hno : ¬ (Kv365.okK x = false ∨ a.okSet row = false) := fun z => by rw [(can_or _ _).mp z] at e; cases e
      refine iteF ⟨_, rfl, _, rfl, nu, _, _, _, rfl, rfl, s1.seq hN, at_of (j := 0) rfl rfl, _, rfl, g, ro, a, x, row, rfl, (hG.same s1).gnd, W, s1.seq hR, hrl, hk, fun H2 s2 => ⟨_, rfl, ?_⟩⟩
      have s12 := s1.trans s2
      cases ec : a.carries x row with
      | false =>
        have ed : a.does (.share x row) = (a, Kv365.say (-33)) := by simp only [Kv365.Abs.does, if_neg hno, ec, if_true]
        simp only [ed] at k'
        exact iteT ⟨row1, fun D hD => k'.give hG hT (Same.kept s12) (hT.same s12) hD⟩
      | true =>
        have ed : a.does (.share x row) = (a, ⟨((a.share x row).length : Nat), flatS (a.share x row)⟩) := by simp only [Kv365.Abs.does, if_neg hno, ec, Bool.true_eq_false, if_false]; rfl
        simp only [ed] at k'
        refine iteF ⟨_, rfl, _, rfl, nu, _, _, _, rfl, rfl, s12.seq hN, at_of (j := 0) rfl rfl, _, rfl, g, ro, a, x, row, rfl, (hG.same s12).gnd, W, hT.same s12, s12.seq hR, hrl, fun H3 pt ps hpt h3 hP hpl k3 hT3 => ?_⟩
        have kp : Kept Pt H H3 := (Same.kept s12).trans k3
        have hps : ps.length = (a.share x row).length := paired_len hP
        refine ⟨_, rfl, pt, _, rfl, .inl (SqL.of h3), row1, fun tl htl => ?_⟩
        rw [List.length_map, hps]
        have s4 : Same H3 (upd H3 tl (.lst [.int ((a.share x row).length : Nat)])) := same_new htl
        generalize hH4 : upd H3 tl (.lst [.int ((a.share x row).length : Nat)]) = H4 at s4
        have tl4 : H4 tl = some (.lst [.int ((a.share x row).length : Nat)]) := by rw [← hH4]; exact upd_same
        have npt : pt ≠ tl := ne_of_none h3 htl
        have P4 : Paired (ShareH H4) ps (a.share x row) := paired_imp (fun _ _ z => s4 _ _ z) hP
        refine ⟨_, rfl, pt, rfl, ⟨_, SqL.of (s4 _ _ h3)⟩, ?_⟩
        refine for_list (K := K) (a := pt) (xs := ps.map V.ref) (fun i σ H5 => ∃ v5, σ = [some (.ref g), some (.ref nu), some (.ref ro), some (.ref pt), some (.ref tl), v5] ∧ H5 tl = some (.lst (V.int ((a.share x row).length : Nat) :: natV (flatS ((a.share x row).take i)))) ∧ KeptBut tl H4 H5)
          ⟨none, rfl, tl4, fun _ _ _ e => e⟩ (fun i σ H5 _ ⟨_, _, _, q⟩ => SqL.of (q _ _ npt (s4 _ _ h3))) ?_ ?_
        · rintro i y σ H5 hy ⟨v5, rfl, j1, j2⟩
          obtain ⟨p, hp, rfl⟩ := refs_at hy
          obtain ⟨sh, hsh, hpH⟩ := paired_get P4 hp
          have p5 : H5 p = some (.tup [.int (sh.1 : Int), .int (sh.2.1 : Int), .int (sh.2.2 : Int)]) := j2 _ _ (ne_of hpH tl4 (by intro z; cases z)) hpH
          refine ⟨_, rfl, .inl ⟨rfl, _, SqL.of j1⟩, _, rfl, tl, p, _, _, rfl, rfl, j1, p5, ?_, _, rfl, ?_, fun b o hb e => ?_⟩
          · rw [List.length_cons, natV_len, flatS_len, List.length_take, sizeLine_eq]
            show _ + 3 ≤ _
            omega
          · rw [upd_same, take_snoc hsh, flatS_snoc]
            unfold natV
            rw [List.map_append]; rfl
          · rw [upd_ne hb]; exact j2 b o hb e
        · rintro σ H5 ⟨v5, rfl, j1, j2⟩
          rw [List.length_map, hps, List.take_length] at j1
          refine ⟨_, rfl, ?_⟩
          have hT4 := hT3.same s4
          have hT5 := hT4.but tl4 j2
          have k5 : Kept Pt H H5 := fun b o hb q => by
            have q3 := kp b o hb q
            exact j2 b o (ne_of_none q3 htl) (s4 _ _ q3)
          obtain ⟨r, p, t, ss, G, eF⟩ := id hG
          have h5 : GndF Cg Cs H5 g (some a) F := ⟨r, p, t, ss, G.tab hT k5, eF⟩
          have hDF : tl ∉ F := fun z => by
            have h3' : GndF Cg Cs H3 g (some a) F := ⟨r, p, t, ss, G.tab hT kp, eF⟩
            obtain ⟨o, e, _⟩ := h3'.mem z; rw [htl] at e; cases e
          exact k' H5 F tl h5 (fun b hb => .inl hb) (fun b o hb _ e => k5 b o hb e) hT5 (fun b o hb _ e => ne_of_none (kp b o hb e) htl) hDF j1
theorem scHLook : FnScope ["ground", "numbers", "row", "stretch"] hps (defScope sHLook) := ⟨rfl, rfl, rfl, by decide +kernel, rfl, by decide +kernel, by decide +kernel⟩
def cLook (ns _row : List Nat) : Kv365.Call := .look (ns.getD 0 0)
theorem row3 {x y z : V} : [x, y, z].length ≤ sizeLine := by rw [sizeLine_eq]; show 3 ≤ _; omega
theorem row5 {x y z u v : V} : [x, y, z, u, v].length ≤ sizeLine := by rw [sizeLine_eq]; show 5 ≤ _; omega
theorem ok_hLook {f Cg Cs Pt fH : Addr} {fd fdH : FuncData} (F0 : Fun K "look" "look" sHLook f fd) (T : TxtG K mg Cg) (TS : TxtS K mg Cs) (N : TxtN mg) (GH : FnOk P w K mg base CX0 1 fH fdH ["self", "number"] (spHasStretch Cg Cs)) (bH : Binds K fdH ["self", "number"] []) (mH : Meth K Cg "has_stretch" fH) :
    FnOk P w K mg base CX0 2 f fd hps (spHand Cg Cs Pt 1 cLook K) := by
  refine F0.ok scHLook (fun vs H Q E h => ?_) (fun cdv A outer s0 H vs Q E hr h => ?_)
  · obtain ⟨g, nu, ro, a, F, ns, row, rfl, _⟩ := h
    rfl
  · obtain ⟨g, nu, ro, a, F, ns, row, rfl, hG, W, hT, hN, hl, hR, hrl, k⟩ := h
    obtain ⟨x, rfl⟩ := list1 hl
    obtain ⟨r0, p0, t0, ss, G, eF⟩ := id hG
    obtain ⟨dx, hg⟩ := G.ins
    obtain ⟨u1, m1, w1⟩ := N.noneSuch
    have k' : Hands Cg Cs Pt H g F (some (a.does (.look x)).1) (a.does (.look x)).2 Q := k
    refine ⟨_, pss_cons (ps_if (pt_not (pt_val (pe_meth (pv 0) T.cl mH GH hr bH .nil pass0 (pa_cons (pe_ix ix_list (pv 1) pe_int (fun _ _ => rfl)) pa_nil)))) (pss_one (ps_ret (pe_lst (pa_cons (pe_glob rfl m1 w1) pa_nil)))) pss_nil)
      (pss_cons (ps_set (i := 3) scHLook.nd rfl (Or.inl rfl) (pe_ix ix_list (pe_fld (pv 0) rfl) (pe_ix ix_list (pv 1) pe_int (fun _ _ => rfl)) (fun _ _ => rfl)))
      (pss_one (ps_ret (pe_lst (pa_cons (pe_fld (pv 3) rfl) (pa_cons (pe_fld (pv 3) rfl) (pa_cons (pe_fld (pv 3) rfl) pa_nil))))))), ?_⟩
    refine ⟨_, rfl, g, dx, _, rfl, hg, gf_no _ _ _ (by decide +kernel) (by decide +kernel) (by decide +kernel), _, rfl, nu, _, _, _, rfl, rfl, hN, at_of (j := 0) rfl rfl, g, some a, x, rfl, hG.gnd, _, rfl, ?_⟩
    by_cases hx : x < a.lows.length
    · rw [show decide (x < (lowsOf (some a)).length) = true from decide_eq_true hx]
      have ed : a.does (.look x) = (a, ⟨((a.low x).from_ : Nat), [(a.low x).to_, (a.low x).water]⟩) := by simp only [Kv365.Abs.does, if_neg (show ¬ a.lows.length ≤ x by omega)]
      simp only [ed] at k'
      obtain ⟨pn, gn, dn, stn⟩ := stretch_at G.st hx
      exact iteF ⟨_, rfl, g, Cg, dx, _, _, rfl, hg, T.cl, T.n3, gf_stretches _ _ _, _, rfl, nu, _, _, _, rfl, rfl, hN, at_of (j := 0) rfl rfl, t0, _, _, _, rfl, rfl, SqL.of G.lo, at_of (j := x) rfl gn,
        _, rfl, pn, Cs, dn, _, _, rfl, stn, TS.cl, TS.n1, sf_first _ _ _, _, rfl, pn, Cs, dn, _, _, rfl, stn, TS.cl, TS.n2, sf_last _ _ _, _, rfl, pn, Cs, dn, _, _, rfl, stn, TS.cl, TS.n3, sf_flow _ _ _, row3, fun D hD => k'.give hG hT (fun _ _ _ q => q) hT hD⟩
    · rw [show decide (x < (lowsOf (some a)).length) = false from decide_eq_false hx]
      have ed : a.does (.look x) = (a, Kv365.say (-2)) := by simp only [Kv365.Abs.does, if_pos (show a.lows.length ≤ x by omega)]
      simp only [ed] at k'
      exact iteT ⟨row1, fun D hD => k'.give hG hT (fun _ _ _ q => q) hT hD⟩
theorem scHState : FnScope ["ground", "numbers", "row", "flow", "stretch"] hps (defScope sHState) := ⟨rfl, rfl, rfl, by decide +kernel, rfl, by decide +kernel, by decide +kernel⟩
theorem ok_hState {f Cg Cs Pt fR : Addr} {fd fdR : FuncData} (F0 : Fun K "state" "state" sHState f fd) (B : TxtB mg) (T : TxtG K mg Cg) (TS : TxtS K mg Cs) (GR : FnOk P w K mg base CX0 1 fR fdR ["self"] (spRockCount Cg Cs)) (bR : Binds K fdR ["self"] []) (mR : Meth K Cg "rock_count" fR) :
    FnOk P w K mg base CX0 2 f fd hps (spHand Cg Cs Pt 0 (fun _ _ => .state) K) := by
  refine F0.ok scHState (fun vs H Q E h => ?_) (fun cdv A outer s0 H vs Q E hr h => ?_)
  · obtain ⟨g, nu, ro, a, F, ns, row, rfl, _⟩ := h
    rfl
  · obtain ⟨g, nu, ro, a, F, ns, row, rfl, hG, W, hT, hN, hl, hR, hrl, k⟩ := h
    obtain ⟨r0, p0, t0, ss, G, eF⟩ := id hG
    obtain ⟨dx, hg⟩ := G.ins
    have hl8 := W.ll
    have k' : Hands Cg Cs Pt H g F (some a) ⟨0, [a.n, a.rocks.length, a.lows.length, (a.lows.map Kv365.Low.water).sum]⟩ Q := k
    refine ⟨_, pss_cons (ps_set (i := 3) scHState.nd rfl (Or.inl rfl) (pe_callB (cr_sum rfl) (by rfl) B.sum PyProof.Rows.boot_sum (pa_cons (pe_lc (own := [("stretch", 4)]) rfl scHState.nd (pi_list (pe_fld (pv 0) rfl)) (blkOk_by (by show blkC ["ground", "numbers", "row", "flow", "stretch"] (defScope sHState) _ _ = true; decide +kernel))
          (fun _ _ _ _ _ => pg_name (i := 4) scHState.nd rfl (Or.inl rfl)) (fun _ _ _ _ _ => pts_nil) (fun _ _ _ _ _ => pe_fldB (K := K) rfl (pv 4) rfl)) pa_nil)))
      (pss_one (ps_ret (pe_lst (pa_cons pe_int (pa_cons (pe_callB call_len_seq (by rfl) B.len PySem.boot_len (pa_cons (pe_fld (pv 0) rfl) pa_nil)) (pa_cons (pe_meth0 (pv 0) T.cl mR GR hr bR .nil pass0) (pa_cons (pe_callB call_len_seq (by rfl) B.len PySem.boot_len (pa_cons (pe_fld (pv 0) rfl) pa_nil)) (pa_cons (pv 3) pa_nil)))))))), ?_⟩
    refine ⟨_, rfl, g, Cg, dx, _, _, rfl, hg, T.cl, T.n3, gf_stretches _ _ _, t0, rfl, ⟨_, SqL.of G.lo⟩, fun lf hlf => ?_⟩
    refine lc_list (K := K) (a := t0) (xs := ss.map V.ref) (fun i H1 => H1 lf = some (.lst (natV ((a.lows.take i).map Kv365.Low.water))) ∧ Same H H1) ⟨upd_same, same_new hlf⟩ (fun i H1 _ ⟨_, q⟩ => SqL.of (q _ _ G.lo)) (fun i v H1 hv ⟨q1, q2⟩ => ?_) fun H1 ⟨q1, s1⟩ => ?_
    · obtain ⟨p, hp, rfl⟩ := refs_at hv
      obtain ⟨l, hl, dp, hpl1⟩ := paired_get G.st hp
      refine ⟨rfl, yesT ⟨_, rfl, p, Cs, dp, _, _, rfl, q2 _ _ hpl1, TS.cl, TS.n3, sf_flow _ _ _, ?_⟩⟩
      rw [take_snoc (show a.lows[i]? = some l from hl), List.map_append]
      have := lc_add hlf q1 q2 (by rw [natV_len, List.length_map, List.length_take]; exact small1000 (by omega)) (V.int (l.water : Int))
      unfold natV at this ⊢; rw [List.map_append]; exact this
    · have el : (ss.map V.ref).length = a.lows.length := by rw [List.length_map, paired_len G.st]; rfl
      have er : ((rockyOf (some a)).map V.bl).length = a.n := by rw [List.length_map, rockyOf_len]; rfl
      rw [el, List.take_length, natV_ints] at q1
      refine ⟨lf, _, rfl, SqL.of q1, ?_⟩
      rw [cast_sum]
      have G1 := G.same s1
      refine ⟨_, rfl, g, Cg, dx, _, _, rfl, s1 _ _ hg, T.cl, T.n1, gf_rocky _ _ _, r0, _, rfl, .inl (SqL.of G1.rk), _, rfl, g, dx, _, rfl, s1 _ _ hg, gf_no _ _ _ (by decide +kernel) (by decide +kernel) (by decide +kernel), g, some a, rfl, (hG.same s1).gnd,
        _, rfl, g, Cg, dx, _, _, rfl, s1 _ _ hg, T.cl, T.n3, gf_stretches _ _ _, t0, _, rfl, .inl (SqL.of G1.lo), _, rfl, row5, fun D hD => ?_⟩
      have z := k'.give hG hT (Same.kept s1) (hT.same s1) hD
      rw [er, el, rocky_count W]
      exact z
theorem scHAt : FnScope ["ground", "numbers", "row", "station", "count", "stretch"] hps (defScope sHAt) := ⟨rfl, rfl, rfl, by decide +kernel, rfl, by decide +kernel, by decide +kernel⟩
def cAt (ns _row : List Nat) : Kv365.Call := .at_ (ns.getD 0 0)
theorem ok_hAt {f Cg Cs Pt fH fC : Addr} {fd fdH fdC : FuncData} (F0 : Fun K "at" "at" sHAt f fd) (B : TxtB mg) (T : TxtG K mg Cg) (TS : TxtS K mg Cs) (N : TxtN mg) (GH : FnOk P w K mg base CX0 1 fH fdH ["self", "station"] (spHasStation Cg Cs)) (bH : Binds K fdH ["self", "station"] []) (mH : Meth K Cg "has_station" fH)
    (GC : FnOk P w K mg base CX0 1 fC fdC ["self", "station"] (spCovers Cs)) (bC : Binds K fdC ["self", "station"] []) (mC : Meth K Cs "covers" fC) : FnOk P w K mg base CX0 2 f fd hps (spHand Cg Cs Pt 1 cAt K) := by
  refine F0.ok scHAt (fun vs H Q E h => ?_) (fun cdv A outer s0 H vs Q E hr h => ?_)
  · obtain ⟨g, nu, ro, a, F, ns, row, rfl, _⟩ := h
    rfl
  · obtain ⟨g, nu, ro, a, F, ns, row, rfl, hG, W, hT, hN, hl, hR, hrl, k⟩ := h
    obtain ⟨x, rfl⟩ := list1 hl
    obtain ⟨r0, p0, t0, ss, G, eF⟩ := id hG
    obtain ⟨dx, hg⟩ := G.ins
    obtain ⟨u1, m1, w1⟩ := N.noneSuch
    have hl8 := W.ll
    have k' : Hands Cg Cs Pt H g F (some (a.does (.at_ x)).1) (a.does (.at_ x)).2 Q := k
    refine ⟨_, pss_cons (ps_set (i := 3) scHAt.nd rfl (Or.inr rfl) (pe_ix ix_list (pv 1) pe_int (fun _ _ => rfl)))
      (pss_cons (ps_if (pt_not (pt_val (pe_meth (pv 0) T.cl mH GH hr bH .nil pass0 (pa_cons (pv 3) pa_nil)))) (pss_one (ps_ret (pe_lst (pa_cons (pe_glob rfl m1 w1) pa_nil)))) pss_nil)
      (pss_cons (ps_set (i := 4) scHAt.nd rfl (Or.inl rfl) (pe_callB call_len_seq (by rfl) B.len PySem.boot_len (pa_cons (pe_lc (own := [("stretch", 5)]) rfl scHAt.nd (pi_list (pe_fld (pv 0) rfl)) (blkOk_by (by show blkC ["ground", "numbers", "row", "station", "count", "stretch"] (defScope sHAt) _ _ = true; decide +kernel))
          (fun _ _ _ _ _ => pg_name (i := 5) scHAt.nd rfl (Or.inl rfl)) (fun _ _ _ _ _ => pts_one (pt_val (pe_meth (pv 5) TS.cl mC GC hr bC .nil pass0 (pa_cons (pv 3) pa_nil)))) (fun _ _ _ _ _ => pv 5)) pa_nil)))
      (pss_one (ps_ret (pe_lst (pa_cons (pe_ifExp (pt_val (pe_ix ix_list (pe_fld (pv 0) rfl) (pv 3) (fun _ _ => rfl))) pe_int pe_int) (pa_cons (pe_ix ix_list (pe_fld (pv 0) rfl) (pv 3) (fun _ _ => rfl)) (pa_cons (pv 4) pa_nil)))))))), ?_⟩
    refine ⟨_, rfl, nu, _, _, _, rfl, rfl, hN, at_of (j := 0) rfl rfl, _, rfl, g, dx, _, rfl, hg, gf_no _ _ _ (by decide +kernel) (by decide +kernel) (by decide +kernel), _, rfl, g, some a, x, rfl, hG.gnd, _, rfl, ?_⟩
    by_cases hx : x < a.n
    · rw [show decide (x < stN (some a)) = true from decide_eq_true hx]
      have ed : a.does (.at_ x) = (a, ⟨(Kv365.bit (a.rocks.contains x) : Nat), [a.price.getD x 0, (a.lows.filter fun l => l.has x).length]⟩) := by simp only [Kv365.Abs.does, if_neg (show ¬ a.n ≤ x by omega)]
      simp only [ed] at k'
      obtain ⟨z1, z2⟩ := paired_zip G.st
      have hpl := paired_len G.st
      have lenz : (ss.zip a.lows).length = ss.length := by rw [List.length_zip, hpl, show (lowsOf (some a)).length = a.lows.length from rfl, Nat.min_self]
      refine iteF ⟨_, rfl, g, Cg, dx, _, _, rfl, hg, T.cl, T.n3, gf_stretches _ _ _, t0, rfl, ⟨_, SqL.of G.lo⟩, fun sa hsa => ?_⟩
      refine lc_list (K := K) (a := t0) (xs := ss.map V.ref) (fun i H2 => H2 sa = some (.lst (((selZ (fun l : Kv365.Low => l.has x) ((ss.zip a.lows).take i)).map (·.1)).map V.ref)) ∧ Same H H2) ⟨upd_same, same_new hsa⟩ (fun i H2 _ ⟨_, q⟩ => SqL.of (q _ _ G.lo)) (fun i v H2 hv ⟨q1, q2⟩ => ?_) fun H2 ⟨q1, q2⟩ => ?_
      · obtain ⟨p, hp, rfl⟩ := refs_at hv
        obtain ⟨l, hl, dp, hpl1⟩ := paired_get G.st hp
        have hz : (ss.zip a.lows)[i]? = some (p, l) := zip_at G.st hp hl
        refine ⟨rfl, _, rfl, p, dp, _, rfl, q2 _ _ hpl1, sf_no _ _ _ (by decide +kernel) (by decide +kernel) (by decide +kernel), _, rfl, p, l, x, rfl, ⟨dp, q2 _ _ hpl1⟩, _, rfl, ?_⟩
        have hlen : (((selZ (fun l : Kv365.Low => l.has x) ((ss.zip a.lows).take i)).map (·.1)).map V.ref).length < sizeLine := by
          rw [List.length_map, List.length_map]
          refine small12 (Nat.le_trans (List.length_filter_le _ _) ?_)
          rw [List.length_take, lenz, hpl]
          exact Nat.le_trans (Nat.min_le_right _ _) (by show a.lows.length ≤ 12; omega)
        have et := selZ_snoc (f := fun l : Kv365.Low => l.has x) hz
        dsimp only at et ⊢
        cases e : l.has x with
        | true =>
          rw [e, if_pos rfl] at et
          refine iteT ⟨_, rfl, ?_⟩
          rw [et, List.map_append, List.map_append]
          exact lc_add hsa q1 q2 hlen _
        | false =>
          rw [e, if_neg Bool.false_ne_true] at et
          refine iteF ⟨?_, q2⟩
          rw [et]; exact q1
      · rw [List.length_map, ← lenz, List.take_length] at q1
        have elen : (((selZ (fun l : Kv365.Low => l.has x) (ss.zip a.lows)).map (·.1)).map V.ref).length = (a.lows.filter fun l => l.has x).length := by
          have := congrArg List.length (selZ_snd (fun l : Kv365.Low => l.has x) (ss.zip a.lows))
          have z3 : (ss.zip a.lows).map (·.2) = a.lows := z2
          rw [z3, List.length_map] at this
          rw [List.length_map, List.length_map, this]
        refine ⟨sa, _, rfl, .inl (SqL.of q1), ?_⟩
        rw [elen]
        obtain ⟨a0, ea, hb0⟩ := rockyOf_at (st := some a) hx
        cases ea
        have gi : ((rockyOf (some a)).map V.bl)[x]? = some (V.bl (a.rocks.contains x)) := by rw [List.getElem?_map, hb0]; rfl
        have hxl : x < a.price.length := by rw [W.pl]; exact hx
        have G2 := G.same q2
        refine ⟨_, rfl, g, Cg, dx, _, _, rfl, q2 _ _ hg, T.cl, T.n1, gf_rocky _ _ _, _, rfl, r0, _, _, _, rfl, rfl, SqL.of G2.rk, at_of (j := x) rfl gi, _, rfl, ?_⟩
        cases e : a.rocks.contains x with
        | true =>
          rw [e] at k'
          exact iteT ⟨_, rfl, g, Cg, dx, _, _, rfl, q2 _ _ hg, T.cl, T.n2, gf_prices _ _ _, _, rfl, p0, _, _, _, rfl, rfl, SqL.of G2.pr, at_of (j := x) rfl (natV_get hxl), _, rfl, row3, fun D hD => k'.give hG hT (Same.kept q2) (hT.same q2) hD⟩
        | false =>
          rw [e] at k'
          exact iteF ⟨_, rfl, g, Cg, dx, _, _, rfl, q2 _ _ hg, T.cl, T.n2, gf_prices _ _ _, _, rfl, p0, _, _, _, rfl, rfl, SqL.of G2.pr, at_of (j := x) rfl (natV_get hxl), _, rfl, row3, fun D hD => k'.give hG hT (Same.kept q2) (hT.same q2) hD⟩
    · rw [show decide (x < stN (some a)) = false from decide_eq_false hx]
      have ed : a.does (.at_ x) = (a, Kv365.say (-2)) := by simp only [Kv365.Abs.does, if_pos (show a.n ≤ x by omega)]
      simp only [ed] at k'
      exact iteT ⟨row1, fun D hD => k'.give hG hT (fun _ _ _ q => q) hT hD⟩
end
end Cv
end
section
namespace Cv
open PySem PySem.Spec PyProof.Rows L2 HT
abbrev sTwin : Stmt := inClass (top 37) 1
abbrev sHWithout : Stmt := top 61
abbrev sHIfrock : Stmt := top 62
def spTwin (Cg Cs : Addr) : Sp := fun vs H Q _ => ∃ (g : Addr) (a : Kv365.Abs), vs = [.ref g] ∧ Gnd Cg Cs H g (some a) ∧ My.Wf a ∧ ∀ (H' : Hp) (g' : Addr) (F' : List Addr), GndF Cg Cs H' g' (some a) F' → (∀ b ∈ F', H b = none) → Same H H' → Q (.ref g') H'
section
variable {P : Program} {w : World} {K : PySem.W.Frag} {mg : Str → Option Value} {base : Heap}
theorem scTwin : FnScope ["self", "other", "each"] ["self"] (defScope sTwin) := ⟨rfl, rfl, rfl, by decide +kernel, rfl, by decide +kernel, by decide +kernel⟩
theorem ok_twin {f Cg Cs fI fS : Addr} {fd fdI fdS : FuncData} (F0 : Fun K "twin" "Ground.twin" sTwin f fd) (B : TxtB mg) (T : TxtG K mg Cg) (TS : TxtS K mg Cs) (MG : Mk K Cg fI) (GI : FnOk P w K mg base CX0 1 fI fdI ["self"] (spGInit Cg Cs)) (bI : Binds K fdI ["self"] [])
    (MS : Mk K Cs fS) (GS : FnOk P w K mg base CX0 1 fS fdS ["self", "first", "last", "flow"] (spStInit Cs)) (bS : Binds K fdS ["self", "first", "last", "flow"] []) : FnOk P w K mg base CX0 3 f fd ["self"] (spTwin Cg Cs) := by
  refine F0.ok scTwin (fun vs H Q E h => ?_) (fun cdv A outer s H vs Q E hr h => ?_)
  · obtain ⟨g, a, rfl, _⟩ := h
    rfl
  · obtain ⟨g, a, rfl, hG, W, k⟩ := h
    obtain ⟨r0, p0, t0, ss, G⟩ := id hG
    obtain ⟨dx, hg⟩ := G.ins
    have hl8 := W.ll
    refine ⟨_, pss_cons (ps_set (i := 1) scTwin.nd rfl (Or.inl rfl) (pe_make0 MG GI hr rfl T.mgC bI .nil pass0))
      (pss_cons (ps_fld (pv 1) (pe_callTy call_list_of (by rfl) B.list PyProof.Rows.boot_list (pa_cons (pe_fld (pv 0) rfl) pa_nil)) rfl)
      (pss_cons (ps_fld (pv 1) (pe_callTy call_list_of (by rfl) B.list PyProof.Rows.boot_list (pa_cons (pe_fld (pv 0) rfl) pa_nil)) rfl)
      (pss_cons (ps_fld (pv 1) (pe_lc (own := [("each", 2)]) rfl scTwin.nd (pi_list (pe_fld (pv 0) rfl)) (blkOk_by (by show blkC ["self", "other", "each"] (defScope sTwin) _ _ = true; decide +kernel))
          (fun _ _ _ _ _ => pg_name (i := 2) scTwin.nd rfl (Or.inl rfl)) (fun _ _ _ _ _ => pts_nil)
          (fun _ _ _ _ _ => pe_make MS GS hr rfl TS.mgC bS .nil pass0 (pa_cons (pe_fldB (K := K) rfl (pv 2) rfl) (pa_cons (pe_fldB (K := K) rfl (pv 2) rfl) (pa_cons (pe_fldB (K := K) rfl (pv 2) rfl) pa_nil))))) rfl)
      (pss_one (ps_ret (pv 1)))))), ?_⟩
    intro g1 dg hg1 hdg hne
    refine ⟨g1, dg, rfl, upd_same, fun H1 r1 p1 t1 G1 hr1 hp1 ht1 k1 => ⟨rfl, ?_⟩⟩
    have s1 : Same H H1 := Same.made hg1 hdg k1
    obtain ⟨d1, hgg1⟩ := G1.ins
    refine ⟨_, rfl, g, Cg, dx, _, _, rfl, s1 _ _ hg, T.cl, T.n1, gf_rocky _ _ _, r0, _, rfl, .inl (SqL.of (s1 _ _ G.rk)), fun r2 hr2 => ?_⟩
    have s2 : Same H1 (upd H1 r2 (.lst ((rockyOf (some a)).map V.bl))) := same_new hr2
    refine ⟨_, rfl, g1, Cg, d1, _, rfl, s2 _ _ hgg1, T.cl, T.n1, by rw [gf_eq]; show 3 < 1000; decide, ?_⟩
    rw [gf_put_r]
    have n12 : r2 ≠ g1 := Ne.symm (ne_of_none hgg1 hr2)
    generalize hH2 : upd (upd H1 r2 (.lst ((rockyOf (some a)).map V.bl))) g1 (.ins Cg d1 (gf r2 p1 t1)) = H2
    have g2 : H2 g1 = some (.ins Cg d1 (gf r2 p1 t1)) := by rw [← hH2]; exact upd_same
    have rk2 : H2 r2 = some (.lst ((rockyOf (some a)).map V.bl)) := by rw [← hH2, upd_ne n12]; exact upd_same
    have sH2 : Same H H2 := fun b o e => by rw [← hH2, upd_ne (ne_of_none e hg1)]; exact s2 _ _ (s1 _ _ e)
    have r2H : H r2 = none := s1.free hr2
    refine ⟨_, rfl, g, Cg, dx, _, _, rfl, sH2 _ _ hg, T.cl, T.n2, gf_prices _ _ _, p0, _, rfl, .inl (SqL.of (sH2 _ _ G.pr)), fun p2 hp2 => ?_⟩
    have s3 : Same H2 (upd H2 p2 (.lst (natV (priceOf (some a))))) := same_new hp2
    refine ⟨_, rfl, g1, Cg, d1, _, rfl, s3 _ _ g2, T.cl, T.n2, by rw [gf_eq]; show 3 < 1000; decide, ?_⟩
    rw [gf_put_p]
    have n13 : p2 ≠ g1 := Ne.symm (ne_of_none g2 hp2)
    have nrp : r2 ≠ p2 := ne_of_none rk2 hp2
    have nrg : r2 ≠ g1 := n12
    generalize hH3 : upd (upd H2 p2 (.lst (natV (priceOf (some a))))) g1 (.ins Cg d1 (gf r2 p2 t1)) = H3
    have g3 : H3 g1 = some (.ins Cg d1 (gf r2 p2 t1)) := by rw [← hH3]; exact upd_same
    have rk3 : H3 r2 = some (.lst ((rockyOf (some a)).map V.bl)) := by rw [← hH3, upd_ne nrg]; exact s3 _ _ rk2
    have pr3 : H3 p2 = some (.lst (natV (priceOf (some a)))) := by rw [← hH3, upd_ne n13]; exact upd_same
    have sH3 : Same H H3 := fun b o e => by rw [← hH3, upd_ne (ne_of_none e hg1)]; exact s3 _ _ (sH2 _ _ e)
    have p2H : H p2 = none := sH2.free hp2
    refine ⟨_, rfl, g, Cg, dx, _, _, rfl, sH3 _ _ hg, T.cl, T.n3, gf_stretches _ _ _, t0, rfl, ⟨_, SqL.of (sH3 _ _ G.lo)⟩, fun t2 ht2 => ?_⟩
    refine lc_list (K := K) (a := t0) (xs := ss.map V.ref) (fun i H4 => ∃ ns : List Addr, H4 t2 = some (.lst (ns.map V.ref)) ∧ Paired (StAt Cs H4) ns (a.lows.take i) ∧ ns.Nodup ∧ (∀ b ∈ ns, H3 b = none) ∧ Same H3 H4) ⟨[], upd_same, .nil, List.nodup_nil, fun _ z => (nomatch z), same_new ht2⟩ (fun i H4 _ ⟨_, _, _, _, _, q⟩ => SqL.of (q _ _ (sH3 _ _ G.lo))) (fun i v H4 hv ⟨ns, q1, q2, q3, q4, q5⟩ => ?_) fun H4 ⟨ns, q1, q2, q3, q4, q5⟩ => ?_
    · obtain ⟨p, hp, rfl⟩ := refs_at hv
      obtain ⟨l, hl, dp, hpl1⟩ := paired_get G.st hp
      have hp4 := q5 _ _ (sH3 _ _ hpl1)
      refine ⟨rfl, yesT ⟨_, rfl, p, Cs, dp, _, _, rfl, hp4, TS.cl, TS.n1, sf_first _ _ _, _, rfl, p, Cs, dp, _, _, rfl, hp4, TS.cl, TS.n2, sf_last _ _ _, _, rfl, p, Cs, dp, _, _, rfl, hp4, TS.cl, TS.n3, sf_flow _ _ _, fun np dnp hnp hdnp hne2 => ?_⟩⟩
      refine ⟨np, dnp, (l.from_ : Int), (l.to_ : Int), (l.water : Int), rfl, upd_same, rfl, ?_⟩
      rw [upd_upd]
      have up : ∀ b o, H4 b = some o → upd (upd H4 dnp (.own np)) np (.ins Cs dnp (sf l.from_ l.to_ l.water)) b = some o := fun b o e => by
        rw [upd_ne (ne_of_none e hnp), upd_ne (ne_of_none e hdnp)]; exact e
      generalize hH5 : upd (upd H4 dnp (.own np)) np (.ins Cs dnp (sf l.from_ l.to_ l.water)) = H5 at up
      have np5 : H5 np = some (.ins Cs dnp (sf l.from_ l.to_ l.water)) := by rw [← hH5]; exact upd_same
      have t25 := up _ _ q1
      have hnl := paired_len q2
      have hil : i < a.lows.length := (List.getElem?_eq_some_iff.mp (show a.lows[i]? = some l from hl)).1
      refine ⟨_, t25, by rw [List.length_map, hnl, List.length_take]; exact small1000 (by omega), ns ++ [np], by rw [upd_same, List.map_append]; rfl, ?_, ?_, ?_, fun b o e => ?_⟩
      · rw [take_snoc (show a.lows[i]? = some l from hl)]
        refine paired_snoc (paired_imp (fun b l z => ?_) q2) ⟨dnp, ?_⟩
        · obtain ⟨d, e⟩ := z
          exact ⟨d, by rw [upd_ne (ne_of (up _ _ e) t25 (by intro z; cases z))]; exact up _ _ e⟩
        · rw [upd_ne (ne_of np5 t25 (by intro z; cases z))]; exact np5
      · refine List.nodup_append.mpr ⟨q3, by simp, fun b hb c hc z => ?_⟩
        rw [List.mem_singleton.mp hc] at z
        obtain ⟨j, hj, ej⟩ := List.getElem_of_mem hb
        obtain ⟨l', _, d, e⟩ := paired_get q2 (List.getElem?_eq_getElem hj)
        rw [ej, z, hnp] at e
        cases e
      · intro b hb
        rcases List.mem_append.mp hb with z | z
        · exact q4 b z
        · rw [List.mem_singleton.mp z]; exact q5.free hnp
      · rw [upd_ne (ne_of_none e ht2)]; exact up _ _ (q5 _ _ e)
    · have el : (ss.map V.ref).length = a.lows.length := by rw [List.length_map, paired_len G.st]; rfl
      rw [el, List.take_length] at q2
      refine ⟨_, rfl, g1, Cg, d1, _, rfl, q5 _ _ g3, T.cl, T.n3, by rw [gf_eq]; show 3 < 1000; decide, ?_⟩
      rw [gf_put_t]
      have n14 : t2 ≠ g1 := Ne.symm (ne_of_none g3 ht2)
      refine ⟨_, rfl, ?_⟩
      refine k _ g1 (g1 :: r2 :: p2 :: t2 :: ns) ⟨r2, p2, t2, ns, ⟨⟨d1, upd_same⟩, by rw [upd_ne nrg]; exact q5 _ _ rk3, by rw [upd_ne n13]; exact q5 _ _ pr3, by rw [upd_ne n14]; exact q1, ?_, q3, nrp⟩, rfl⟩ (fun b hb => ?_) fun b o e => ?_
      · refine paired_other q2 fun z => ?_
        have := q4 _ z
        rw [g3] at this; cases this
      · rcases List.mem_cons.mp hb with z | hb
        · rw [z]; exact hg1
        · rcases List.mem_cons.mp hb with z | hb
          · rw [z]; exact r2H
          · rcases List.mem_cons.mp hb with z | hb
            · rw [z]; exact p2H
            · rcases List.mem_cons.mp hb with z | hb
              · rw [z]; exact sH3.free ht2
              · exact sH3.free (q4 b hb)
      · rw [upd_ne (ne_of_none e hg1)]; exact q5 _ _ (sH3 _ _ e)
theorem cut1 (x : V) (l : List V) : cutV (x :: l) none (some 1) = [x] := by
  unfold cutV
  have e2 : HT.sIx (x :: l).length (x :: l).length (some ((1 : Nat) : Int)) = 1 := by
    rw [HT.sIx_nat, List.length_cons]; omega
  have e3 : HT.sIx (x :: l).length (x :: l).length (some 1) = 1 := e2
  rw [HT.sIx_none, e3]; rfl
theorem scHWithout : FnScope ["ground", "numbers", "row", "other"] hps (defScope sHWithout) := ⟨rfl, rfl, rfl, by decide +kernel, rfl, by decide +kernel, by decide +kernel⟩
def cWithout (ns _row : List Nat) : Kv365.Call := .without (ns.getD 0 0)
theorem ok_hWithout {f Cg Cs Pt fH fW fD fL fU : Addr} {fd fdH fdW fdD fdL fdU : FuncData} (F0 : Fun K "without" "without" sHWithout f fd) (T : TxtG K mg Cg) (N : TxtN mg) (GH : FnOk P w K mg base CX0 1 fH fdH ["self", "number"] (spHasStretch Cg Cs)) (bH : Binds K fdH ["self", "number"] []) (mH : Meth K Cg "has_stretch" fH)
    (GW : FnOk P w K mg base CX0 3 fW fdW ["self"] (spTwin Cg Cs)) (bW : Binds K fdW ["self"] []) (mW : Meth K Cg "twin" fW) (GD : FnOk P w K mg base CX0 2 fD fdD ["self", "number"] (spGDrop Cg Cs)) (bD : Binds K fdD ["self", "number"] []) (mD : Meth K Cg "drop" fD)
    (gL : mg "fewest_row" = some (.ref fL)) (kL : PySem.W.keepIn K (.ref fL) = true) (GL : FnOk P w K mg base CX0 5 fL fdL ["ground"] (spFewestRow Cg Cs)) (bL : Binds K fdL ["ground"] [])
    (gU : mg "counted" = some (.ref fU)) (kU : PySem.W.keepIn K (.ref fU) = true) (GU : FnOk P w K mg base CX0 1 fU fdU ["found"] (spCounted K)) (bU : Binds K fdU ["found"] []) : FnOk P w K mg base CX0 6 f fd hps (spHand Cg Cs Pt 1 cWithout K) := by
  refine F0.ok scHWithout (fun vs H Q E h => ?_) (fun cdv A outer s0 H vs Q E hr h => ?_)
  · obtain ⟨g, nu, ro, a, F, ns, row, rfl, _⟩ := h
    rfl
  · obtain ⟨g, nu, ro, a, F, ns, row, rfl, hG, W, hT, hN, hl, hR, hrl, k⟩ := h
    obtain ⟨x, rfl⟩ := list1 hl
    obtain ⟨r0, p0, t0, ss, G, eF⟩ := id hG
    obtain ⟨dx, hg⟩ := G.ins
    obtain ⟨u1, m1, w1⟩ := N.noneSuch
    have k' : Hands Cg Cs Pt H g F (some (a.does (.without x)).1) (a.does (.without x)).2 Q := k
    refine ⟨_, pss_cons (ps_if (pt_not (pt_val (pe_meth (pv 0) T.cl mH GH (hr.mono (by decide)) bH .nil pass0 (pa_cons (pe_ix ix_list (pv 1) pe_int (fun _ _ => rfl)) pa_nil)))) (pss_one (ps_ret (pe_lst (pa_cons (pe_glob rfl m1 w1) pa_nil)))) pss_nil)
      (pss_cons (ps_set (i := 3) scHWithout.nd rfl (Or.inl rfl) (pe_meth0 (pv 0) T.cl mW GW (hr.mono (by decide)) bW .nil pass0))
      (pss_cons (ps_expr (pe_meth (pv 3) T.cl mD GD (hr.mono (by decide)) bD .nil pass0 (pa_cons (pe_ix ix_list (pv 1) pe_int (fun _ _ => rfl)) pa_nil)))
      (pss_one (ps_ret (pe_slice sl_list (pe_call GU (hr.mono (by decide)) rfl gU kU bU .nil pass0 (pa_cons (pe_call GL hr rfl gL kL bL .nil pass0 (pa_cons (pv 3) pa_nil)) pa_nil)) po_none (po_some pe_int)))))), ?_⟩
    refine ⟨_, rfl, g, dx, _, rfl, hg, gf_no _ _ _ (by decide +kernel) (by decide +kernel) (by decide +kernel), _, rfl, nu, _, _, _, rfl, rfl, hN, at_of (j := 0) rfl rfl, g, some a, x, rfl, hG.gnd, _, rfl, ?_⟩
    by_cases hx : x < a.lows.length
    · rw [show decide (x < (lowsOf (some a)).length) = true from decide_eq_true hx]
      have e1 : (a.does (.drop x)).1 = { a with lows := a.lows.eraseIdx x } := by simp only [Kv365.Abs.does, if_neg (show ¬ a.lows.length ≤ x by omega)]
      have W2 := W.does (.drop x)
      refine iteF ⟨_, rfl, g, dx, _, rfl, hg, gf_no _ _ _ (by decide +kernel) (by decide +kernel) (by decide +kernel), g, a, rfl, hG.gnd, W, fun H1 g1 F1 hG1 hF1 s1 => ?_⟩
      obtain ⟨r1, p1, t1, ss1, G1, eF1⟩ := id hG1
      obtain ⟨d1, hg1⟩ := G1.ins
      refine ⟨_, rfl, g1, d1, _, rfl, hg1, gf_no _ _ _ (by decide +kernel) (by decide +kernel) (by decide +kernel), _, rfl, nu, _, _, _, rfl, rfl, s1.seq hN, at_of (j := 0) rfl rfl, g1, a, x, rfl, F1, hG1, W, fun H2 F2 hG2 hF2 hk2 => ?_⟩
      have s2 : Same H H2 := fun b o e => hk2 b o (fun hb => by rw [hF1 b hb] at e; cases e) (s1 b o e)
      refine ⟨_, rfl, g1, (a.does (.drop x)).1, rfl, hG2.gnd, W2, fun e H3 s3 => ?_, fun m e H3 r s3 h3 => ?_⟩
      · have ed : a.does (.without x) = (a, Kv365.say (-33)) := by
          rw [e1] at e
          simp only [Kv365.Abs.does, if_neg (show ¬ a.lows.length ≤ x by omega), e]
        simp only [ed] at k'
        refine .inl ⟨rfl, fun H4 D hD h4 s4 => ⟨_, rfl, D, _, rfl, SqL.of h4, fun D2 hD2 => ?_⟩⟩
        rw [cut1]
        have sA := (s2.trans s3).trans s4
        exact k'.give hG hT (Same.kept sA) (hT.same sA) hD2
      · have hml : m.length ≤ 12 := by
          have := (My.mem_sets.mp (My.least_some e).1).length_le
          exact Nat.le_trans this (Nat.le_trans (freeOf_len (st := some (a.does (.drop x)).1)) W2.n12)
        have ed : a.does (.without x) = (a, Kv365.say (m.length : Nat)) := by
          rw [e1] at e
          simp only [Kv365.Abs.does, if_neg (show ¬ a.lows.length ≤ x by omega), e]
        simp only [ed] at k'
        refine .inr ⟨r, m, rfl, SqL.of h3, h3, by omega, fun H4 D hD h4 s4 => ⟨_, rfl, D, _, rfl, SqL.of h4, fun D2 hD2 => ?_⟩⟩
        rw [cut1]
        have sA := (s2.trans s3).trans s4
        exact k'.give hG hT (Same.kept sA) (hT.same sA) hD2
    · rw [show decide (x < (lowsOf (some a)).length) = false from decide_eq_false hx]
      have ed : a.does (.without x) = (a, Kv365.say (-2)) := by simp only [Kv365.Abs.does, if_pos (show a.lows.length ≤ x by omega)]
      simp only [ed] at k'
      exact iteT ⟨row1, fun D hD => k'.give hG hT (fun _ _ _ q => q) hT hD⟩
theorem fewest_rock {a : Kv365.Abs} {s : Nat} (hs : s < a.n) : (a.does (.rock s)).1.fewest = ({ a with rocks := s :: a.rocks } : Kv365.Abs).fewest := by
  simp only [Kv365.Abs.does, if_neg (show ¬ a.n ≤ s by omega)]
  cases h : a.rocks.contains s with
  | false => simp only [Bool.false_eq_true, if_false]
  | true =>
    simp only [if_true]
    have ef : a.free = ({ a with rocks := s :: a.rocks } : Kv365.Abs).free := by
      unfold Kv365.Abs.free
      refine List.filter_congr fun t _ => ?_
      show (!a.rocks.contains t) = !(s :: a.rocks).contains t
      rw [List.contains_cons]
      by_cases e : t = s
      · subst e; rw [h]; simp
      · rw [beq_eq_false_iff_ne.mpr e, Bool.false_or]
    unfold Kv365.Abs.fewest
    rw [← ef]; rfl
theorem scHIfrock : FnScope ["ground", "numbers", "row", "other"] hps (defScope sHIfrock) := ⟨rfl, rfl, rfl, by decide +kernel, rfl, by decide +kernel, by decide +kernel⟩
def cIfrock (ns _row : List Nat) : Kv365.Call := .ifrock (ns.getD 0 0)
theorem ok_hIfrock {f Cg Cs Pt fH fW fD fL fU : Addr} {fd fdH fdW fdD fdL fdU : FuncData} (F0 : Fun K "ifrock" "ifrock" sHIfrock f fd) (T : TxtG K mg Cg) (N : TxtN mg) (GH : FnOk P w K mg base CX0 1 fH fdH ["self", "station"] (spHasStation Cg Cs)) (bH : Binds K fdH ["self", "station"] []) (mH : Meth K Cg "has_station" fH)
    (GW : FnOk P w K mg base CX0 3 fW fdW ["self"] (spTwin Cg Cs)) (bW : Binds K fdW ["self"] []) (mW : Meth K Cg "twin" fW) (GD : FnOk P w K mg base CX0 2 fD fdD ["self", "station", "there"] (spGRock Cg Cs)) (bD : Binds K fdD ["self", "station", "there"] []) (mD : Meth K Cg "set_rock" fD)
    (gL : mg "fewest_row" = some (.ref fL)) (kL : PySem.W.keepIn K (.ref fL) = true) (GL : FnOk P w K mg base CX0 5 fL fdL ["ground"] (spFewestRow Cg Cs)) (bL : Binds K fdL ["ground"] [])
    (gU : mg "counted" = some (.ref fU)) (kU : PySem.W.keepIn K (.ref fU) = true) (GU : FnOk P w K mg base CX0 1 fU fdU ["found"] (spCounted K)) (bU : Binds K fdU ["found"] []) : FnOk P w K mg base CX0 6 f fd hps (spHand Cg Cs Pt 1 cIfrock K) := by
  refine F0.ok scHIfrock (fun vs H Q E h => ?_) (fun cdv A outer s0 H vs Q E hr h => ?_)
  · obtain ⟨g, nu, ro, a, F, ns, row, rfl, _⟩ := h
    rfl
  · obtain ⟨g, nu, ro, a, F, ns, row, rfl, hG, W, hT, hN, hl, hR, hrl, k⟩ := h
    obtain ⟨x, rfl⟩ := list1 hl
    obtain ⟨r0, p0, t0, ss, G, eF⟩ := id hG
    obtain ⟨dx, hg⟩ := G.ins
    obtain ⟨u1, m1, w1⟩ := N.noneSuch
    have k' : Hands Cg Cs Pt H g F (some (a.does (.ifrock x)).1) (a.does (.ifrock x)).2 Q := k
    refine ⟨_, pss_cons (ps_if (pt_not (pt_val (pe_meth (pv 0) T.cl mH GH (hr.mono (by decide)) bH .nil pass0 (pa_cons (pe_ix ix_list (pv 1) pe_int (fun _ _ => rfl)) pa_nil)))) (pss_one (ps_ret (pe_lst (pa_cons (pe_glob rfl m1 w1) pa_nil)))) pss_nil)
      (pss_cons (ps_set (i := 3) scHIfrock.nd rfl (Or.inl rfl) (pe_meth0 (pv 0) T.cl mW GW (hr.mono (by decide)) bW .nil pass0))
      (pss_cons (ps_expr (pe_meth (pv 3) T.cl mD GD (hr.mono (by decide)) bD .nil pass0 (pa_cons (pe_ix ix_list (pv 1) pe_int (fun _ _ => rfl)) (pa_cons pe_bl pa_nil))))
      (pss_one (ps_ret (pe_slice sl_list (pe_call GU (hr.mono (by decide)) rfl gU kU bU .nil pass0 (pa_cons (pe_call GL hr rfl gL kL bL .nil pass0 (pa_cons (pv 3) pa_nil)) pa_nil)) po_none (po_some pe_int)))))), ?_⟩
    refine ⟨_, rfl, g, dx, _, rfl, hg, gf_no _ _ _ (by decide +kernel) (by decide +kernel) (by decide +kernel), _, rfl, nu, _, _, _, rfl, rfl, hN, at_of (j := 0) rfl rfl, g, some a, x, rfl, hG.gnd, _, rfl, ?_⟩
    by_cases hx : x < a.n
    · rw [show decide (x < stN (some a)) = true from decide_eq_true hx]
      have e1 := fewest_rock hx
      have W2 := W.does (.rock x)
      refine iteF ⟨_, rfl, g, dx, _, rfl, hg, gf_no _ _ _ (by decide +kernel) (by decide +kernel) (by decide +kernel), g, a, rfl, hG.gnd, W, fun H1 g1 F1 hG1 hF1 s1 => ?_⟩
      obtain ⟨r1, p1, t1, ss1, G1, eF1⟩ := id hG1
      obtain ⟨d1, hg1⟩ := G1.ins
      refine ⟨_, rfl, g1, d1, _, rfl, hg1, gf_no _ _ _ (by decide +kernel) (by decide +kernel) (by decide +kernel), _, rfl, nu, _, _, _, rfl, rfl, s1.seq hN, at_of (j := 0) rfl rfl, g1, a, x, true, rfl, F1, hG1, W, fun H2 F2 hG2 hF2 hk2 => ?_⟩
      have s2 : Same H H2 := fun b o e => hk2 b o (fun hb => by rw [hF1 b hb] at e; cases e) (s1 b o e)
      have hG2 : GndF Cg Cs H2 g1 (some (a.does (.rock x)).1) F2 := hG2
      refine ⟨_, rfl, g1, (a.does (.rock x)).1, rfl, hG2.gnd, W2, fun e H3 s3 => ?_, fun m e H3 r s3 h3 => ?_⟩
      · have ed : a.does (.ifrock x) = (a, Kv365.say (-33)) := by
          rw [e1] at e
          simp only [Kv365.Abs.does, if_neg (show ¬ a.n ≤ x by omega), e]
        simp only [ed] at k'
        refine .inl ⟨rfl, fun H4 D hD h4 s4 => ⟨_, rfl, D, _, rfl, SqL.of h4, fun D2 hD2 => ?_⟩⟩
        rw [cut1]
        have sA := (s2.trans s3).trans s4
        exact k'.give hG hT (Same.kept sA) (hT.same sA) hD2
      · have hml : m.length ≤ 12 := by
          have := (My.mem_sets.mp (My.least_some e).1).length_le
          exact Nat.le_trans this (Nat.le_trans (freeOf_len (st := some (a.does (.rock x)).1)) W2.n12)
        have ed : a.does (.ifrock x) = (a, Kv365.say (m.length : Nat)) := by
          rw [e1] at e
          simp only [Kv365.Abs.does, if_neg (show ¬ a.n ≤ x by omega), e]
        simp only [ed] at k'
        refine .inr ⟨r, m, rfl, SqL.of h3, h3, by omega, fun H4 D hD h4 s4 => ⟨_, rfl, D, _, rfl, SqL.of h4, fun D2 hD2 => ?_⟩⟩
        rw [cut1]
        have sA := (s2.trans s3).trans s4
        exact k'.give hG hT (Same.kept sA) (hT.same sA) hD2
    · rw [show decide (x < stN (some a)) = false from decide_eq_false hx]
      have ed : a.does (.ifrock x) = (a, Kv365.say (-2)) := by simp only [Kv365.Abs.does, if_pos (show a.n ≤ x by omega)]
      simp only [ed] at k'
      exact iteT ⟨row1, fun D hD => k'.give hG hT (fun _ _ _ q => q) hT hD⟩
end
end Cv
end
section
namespace Cv
open PySem PySem.Spec PyProof.Rows L2 HT
abbrev sCInit : Stmt := inClass (top 40) 0
abbrev sRead : Stmt := top 68
def cf (n u r b : V) : List (Str × V) := putF "behind" b (putF "row" r (putF "numbers" u (putF "number" n [])))
theorem nc1 : ¬ ("number" : Str) = "behind" := by decide +kernel
theorem nc2 : ¬ ("number" : Str) = "row" := by decide +kernel
theorem nc3 : ¬ ("number" : Str) = "numbers" := by decide +kernel
theorem nc4 : ¬ ("numbers" : Str) = "behind" := by decide +kernel
theorem nc5 : ¬ ("numbers" : Str) = "row" := by decide +kernel
theorem nc6 : ¬ ("row" : Str) = "behind" := by decide +kernel
theorem cf_number (n u r b : V) : (cf n u r b).lookup ("number" : Str) = some n := by
  unfold cf; rw [lookup_putF, if_neg nc1, lookup_putF, if_neg nc2, lookup_putF, if_neg nc3, lookup_putF, if_pos rfl]
theorem cf_numbers (n u r b : V) : (cf n u r b).lookup ("numbers" : Str) = some u := by
  unfold cf; rw [lookup_putF, if_neg nc4, lookup_putF, if_neg nc5, lookup_putF, if_pos rfl]
theorem cf_row (n u r b : V) : (cf n u r b).lookup ("row" : Str) = some r := by
  unfold cf; rw [lookup_putF, if_neg nc6, lookup_putF, if_pos rfl]
theorem cf_behind (n u r b : V) : (cf n u r b).lookup ("behind" : Str) = some b := by
  unfold cf; rw [lookup_putF, if_pos rfl]
structure TxtC (K : PySem.W.Frag) (mg : Str → Option Value) (C : Addr) : Prop where
  cl : Cls K C
  n1 : NoAttr K C "number"
  n2 : NoAttr K C "numbers"
  n3 : NoAttr K C "row"
  n4 : NoAttr K C "behind"
  mgC : mg "Call" = some (.ref C)
def spCInit (C : Addr) : Sp := fun vs H Q _ => ∃ (p dx : Addr) (n u r b : V), vs = [.ref p, n, u, r, b] ∧ H p = some (.ins C dx []) ∧ Q .non (upd H p (.ins C dx (cf n u r b)))
def TupK (K : PySem.W.Frag) (a : Addr) (xs : List V) : Prop := ∃ (o : Obj) (its : Array Value) (n : Nat), K.lookup a = some o ∧ o.cls = .type "tuple" ∧ o.data = .seq its n ∧ its.size ≤ sizeLine ∧ Vals xs its.toList
theorem TupK.sq {K : PySem.W.Frag} {a : Addr} {xs : List V} (h : TupK K a xs) (H : Hp) : SqT K H a xs := .inr h
structure Ent where
  at_ : Addr
  fn : Addr
  n : Nat
  b : Bool
structure Table (K : PySem.W.Frag) (mg : Str → Option Value) (es : List Ent) : Prop where
  ct : ∃ c, mg "CALLS" = some (.ref c) ∧ TupK K c (es.map fun e => V.ref e.at_)
  ent : ∀ e ∈ es, TupK K e.at_ [.ref e.fn, .int (e.n : Int), .bl e.b]
  few : ∀ e ∈ es, e.n ≤ 3
def nsAt (l : List Nat) (i n : Nat) : List Nat := (l.drop (i + 1)).take n
def rowAt (l : List Nat) (i n : Nat) (b : Bool) : List Nat := if b then (l.drop (i + 2 + n)).take (l.getD (i + 1 + n) 0) else []
def endAt (l : List Nat) (i n : Nat) (b : Bool) : Nat := if b then i + 2 + n + l.getD (i + 1 + n) 0 else i + 1 + n
def spRead (Cc : Addr) (es : List Ent) : PySem.W.Frag → Sp := fun K vs H Q _ => ∃ (c : Addr) (l : List Nat) (i p : Nat) (e : Ent), vs = [.ref c, .int (i : Int)] ∧ SqL K H c (natV l) ∧ l.length ≤ 30000 ∧ l[i]? = some p ∧ es[p]? = some e ∧ i + 1 + e.n ≤ l.length ∧ (e.b = true → i + 1 + e.n < l.length) ∧ endAt l i e.n e.b ≤ l.length ∧
  ∀ (H' : Hp) (co nu ro : Addr), Same H H' → H co = none → (∃ dx, H' co = some (.ins Cc dx (cf (.int (p : Int)) (.ref nu) (.ref ro) (.int (endAt l i e.n e.b : Nat))))) → H' nu = some (.lst (natV (nsAt l i e.n))) → H' ro = some (.lst (natV (rowAt l i e.n e.b))) → Q (.ref co) H'
theorem cut_nat {l : List Nat} {a b : Nat} (h1 : a ≤ b) (h2 : b ≤ l.length) : cutV (natV l) (some (a : Int)) (some (b : Int)) = natV ((l.drop a).take (b - a)) := by
  have e1 : ∀ (d x : Nat), x ≤ l.length → HT.sIx (natV l).length d (some (x : Int)) = x := fun d x hx => by
    rw [natV_len]
    unfold HT.sIx
    simp only [if_neg (show ¬ ((x : Int) < 0) by omega)]
    omega
  unfold cutV
  rw [e1 0 a (by omega), e1 _ b h2]
  unfold natV
  rw [List.map_take, List.map_drop]
section
variable {P : Program} {w : World} {K : PySem.W.Frag} {mg : Str → Option Value} {base : Heap}
abbrev cps : List Str := ["self", "number", "numbers", "row", "behind"]
theorem scCInit : FnScope cps cps (defScope sCInit) := ⟨rfl, rfl, rfl, by decide +kernel, rfl, by decide +kernel, by decide +kernel⟩
theorem ok_cInit {f C : Addr} {fd : FuncData} (F : Fun K "__init__" "Call.__init__" sCInit f fd) (T : TxtC K mg C) : FnOk P w K mg base CX0 1 f fd cps (spCInit C) := by
  refine F.ok scCInit (fun vs H Q E h => ?_) (fun cdv A outer s H vs Q E hr h => ?_)
  · obtain ⟨p, dx, n, u, r, b, rfl, _⟩ := h
    rfl
  · obtain ⟨p, dx, n, u, r, b, rfl, hp, k⟩ := h
    refine ⟨_, pss_cons (ps_fld (pv 0) (pv 1) rfl) (pss_cons (ps_fld (pv 0) (pv 2) rfl) (pss_cons (ps_fld (pv 0) (pv 3) rfl) (pss_one (ps_fld (pv 0) (pv 4) rfl)))), ?_⟩
    refine ⟨_, rfl, _, rfl, p, C, dx, [], rfl, hp, T.cl, T.n1, (by show 0 < 1000; decide), ?_⟩
    refine ⟨_, rfl, _, rfl, p, C, dx, _, rfl, upd_same, T.cl, T.n2, (by show 1 < 1000; decide), ?_⟩
    refine ⟨_, rfl, _, rfl, p, C, dx, _, rfl, upd_same, T.cl, T.n3, Nat.lt_of_le_of_lt (length_putF _ _ _) (by show 1 + 1 < 1000; decide), ?_⟩
    refine ⟨_, rfl, _, rfl, p, C, dx, _, rfl, upd_same, T.cl, T.n4, Nat.lt_of_le_of_lt (length_putF _ _ _) (Nat.lt_of_le_of_lt (Nat.add_le_add_right (length_putF _ _ _) 1) (by show 1 + 1 + 1 < 1000; decide)), ?_⟩
    show Q .non _
    rw [upd_upd, upd_upd, upd_upd]
    exact k
theorem scRead : FnScope ["calls", "place", "number", "behind", "numbers", "row_end"] ["calls", "place"] (defScope sRead) := ⟨rfl, rfl, rfl, by decide +kernel, rfl, by decide +kernel, by decide +kernel⟩
theorem ok_read {f Cc fI : Addr} {fd fdI : FuncData} {es : List Ent} (F : Fun K "read_call" "read_call" sRead f fd) (T : TxtC K mg Cc) (TB : Table K mg es) (M : Mk K Cc fI) (GI : FnOk P w K mg base CX0 1 fI fdI cps (spCInit Cc)) (bI : Binds K fdI cps []) : FnOk P w K mg base CX0 3 f fd ["calls", "place"] (spRead Cc es K) := by
  refine F.ok scRead (fun vs H Q E h => ?_) (fun cdv A outer s H vs Q E hr h => ?_)
  · obtain ⟨c, l, i, p, e, rfl, _⟩ := h
    rfl
  · obtain ⟨c, l, i, p, e, rfl, hS, h30, hp, he, hn, hb, hend, k⟩ := h
    obtain ⟨ct, mct, tct⟩ := TB.ct
    have hem : e ∈ es := List.mem_of_getElem? he
    have te := TB.ent e hem
    have gp : (es.map fun e => V.ref e.at_)[p]? = some (V.ref e.at_) := by rw [List.getElem?_map, he]; rfl
    have gi : (natV l)[i]? = some (V.int (p : Int)) := by unfold natV; rw [List.getElem?_map, hp]; rfl
    have cts : RelV (.ref ct) (Value.ref ct) := rfl
    refine ⟨_, pss_cons (ps_set (i := 2) scRead.nd rfl (Or.inl rfl) (pe_ix ix_list (pv 0) (pv 1) (fun _ _ => rfl)))
      (pss_cons (ps_set (i := 3) scRead.nd rfl (Or.inl rfl) (pe_op op_add (pe_op op_add (pv 1) pe_int) (pe_ix ix_tup (pe_ix ix_tup (pe_glob rfl mct cts) (pv 2) (fun _ _ => rfl)) pe_int (fun _ _ => rfl))))
      (pss_cons (ps_set (i := 4) scRead.nd rfl (Or.inl rfl) (pe_slice sl_list (pv 0) (po_some (pe_op op_add (pv 1) pe_int)) (po_some (pv 3))))
      (pss_cons (ps_if (pt_not (pt_val (pe_ix ix_tup (pe_ix ix_tup (pe_glob rfl mct cts) (pv 2) (fun _ _ => rfl)) pe_int (fun _ _ => rfl)))) (pss_one (ps_ret (pe_make M GI hr rfl T.mgC bI .nil pass0 (pa_cons (pv 2) (pa_cons (pv 4) (pa_cons (pe_lst pa_nil) (pa_cons (pv 3) pa_nil))))))) pss_nil)
      (pss_cons (ps_set (i := 5) scRead.nd rfl (Or.inl rfl) (pe_op op_add (pe_op op_add (pv 3) pe_int) (pe_ix ix_list (pv 0) (pv 3) (fun _ _ => rfl))))
      (pss_one (ps_ret (pe_make M GI hr rfl T.mgC bI .nil pass0 (pa_cons (pv 2) (pa_cons (pv 4) (pa_cons (pe_slice sl_list (pv 0) (po_some (pe_op op_add (pv 3) pe_int)) (po_some (pv 5))) (pa_cons (pv 5) pa_nil))))))))))), ?_⟩
    refine ⟨_, rfl, _, rfl, c, _, _, _, rfl, rfl, hS, at_of (j := i) rfl gi, ?_⟩
    refine ⟨_, rfl, _, _, rfl, rfl, _, rfl, ct, _, _, _, rfl, rfl, tct.sq _, at_of (j := p) rfl gp, e.at_, _, _, _, rfl, rfl, te.sq _, at_of (j := 1) rfl rfl, _, _, rfl, rfl, ?_⟩
    have c1 : ((i : Int) + 1) = ((i + 1 : Nat) : Int) := by omega
    have c2 : ((i : Int) + 1 + (e.n : Int)) = ((i + 1 + e.n : Nat) : Int) := by omega
    have en : cutV (natV l) (some ((i : Int) + 1)) (some ((i : Int) + 1 + (e.n : Int))) = natV (nsAt l i e.n) := by
      rw [c2, c1, cut_nat (by omega) hn]; unfold nsAt; congr 2; omega
    refine ⟨_, rfl, _, rfl, _, _, rfl, rfl, _, rfl, _, rfl, _, rfl, c, _, rfl, hS, fun nu hnu => ?_⟩
    rw [en]
    have s1 : Same H (upd H nu (.lst (natV (nsAt l i e.n)))) := same_new hnu
    generalize hH1 : upd H nu (.lst (natV (nsAt l i e.n))) = H1 at s1
    have nu1 : H1 nu = some (.lst (natV (nsAt l i e.n))) := by rw [← hH1]; exact upd_same
    refine ⟨_, rfl, ct, _, _, _, rfl, rfl, tct.sq _, at_of (j := p) rfl gp, e.at_, _, _, _, rfl, rfl, te.sq _, at_of (j := 2) rfl rfl, _, rfl, ?_⟩
    cases eb : e.b with
    | false =>
      refine iteT ⟨_, rfl, _, rfl, Nat.zero_le _, fun ro hro => ?_⟩
      have s2 : Same H1 (upd H1 ro (.lst [])) := same_new hro
      refine ⟨_, rfl, fun co dc hco hdc hne => ⟨co, dc, _, _, _, _, rfl, upd_same, rfl, ?_⟩⟩
      rw [upd_upd]
      have up : ∀ b o, upd H1 ro (.lst []) b = some o → upd (upd (upd H1 ro (.lst [])) dc (.own co)) co (.ins Cc dc (cf (.int (p : Int)) (.ref nu) (.ref ro) (.int ((i : Int) + 1 + (e.n : Int))))) b = some o := fun b o q => by
        rw [upd_ne (ne_of_none q hco), upd_ne (ne_of_none q hdc)]; exact q
      refine k _ co nu ro (fun b o q => up b o (s2 _ _ (s1 _ _ q))) (s1.free (s2.free hco)) ⟨dc, ?_⟩ (up _ _ (s2 _ _ nu1)) ?_
      · rw [upd_same]; unfold endAt; rw [eb, if_neg Bool.false_ne_true]; dsimp only; rw [c2]
      · have := up ro _ upd_same
        unfold rowAt; rw [eb, if_neg Bool.false_ne_true]; exact this
    | true =>
      have hbl := hb eb
      unfold endAt at hend
      rw [eb, if_pos rfl] at hend
      have gm : (natV l)[i + 1 + e.n]? = some (V.int (l.getD (i + 1 + e.n) 0 : Nat)) := natV_get hbl
      refine iteF ⟨_, rfl, _, _, rfl, rfl, _, rfl, _, rfl, c, _, _, _, rfl, rfl, s1.seq hS, at_of (j := i + 1 + e.n) c2 gm, _, _, rfl, rfl, ?_⟩
      have c3 : ((i : Int) + 1 + (e.n : Int) + 1) = ((i + 2 + e.n : Nat) : Int) := by omega
      have c4 : ((i : Int) + 1 + (e.n : Int) + 1 + ((l.getD (i + 1 + e.n) 0 : Nat) : Int)) = ((i + 2 + e.n + l.getD (i + 1 + e.n) 0 : Nat) : Int) := by omega
      have er : cutV (natV l) (some ((i : Int) + 1 + (e.n : Int) + 1)) (some ((i : Int) + 1 + (e.n : Int) + 1 + ((l.getD (i + 1 + e.n) 0 : Nat) : Int))) = natV (rowAt l i e.n e.b) := by
        rw [c4, c3, cut_nat (by omega) hend]; unfold rowAt; rw [eb, if_pos rfl]; congr 2; omega
      refine ⟨_, rfl, _, rfl, _, rfl, _, rfl, _, _, rfl, rfl, _, rfl, _, rfl, _, rfl, c, _, rfl, s1.seq hS, fun ro hro => ?_⟩
      rw [er]
      have s2 : Same H1 (upd H1 ro (.lst (natV (rowAt l i e.n e.b)))) := same_new hro
      refine ⟨_, rfl, fun co dc hco hdc hne => ⟨co, dc, _, _, _, _, rfl, upd_same, rfl, ?_⟩⟩
      rw [upd_upd]
      generalize hH2 : upd H1 ro (.lst (natV (rowAt l i e.n e.b))) = H2 at s2 hco hdc
      have ro2 : H2 ro = some (.lst (natV (rowAt l i e.n e.b))) := by rw [← hH2]; exact upd_same
      have up : ∀ b o, H2 b = some o → upd (upd H2 dc (.own co)) co (.ins Cc dc (cf (.int (p : Int)) (.ref nu) (.ref ro) (.int ((i : Int) + 1 + (e.n : Int) + 1 + ((l.getD (i + 1 + e.n) 0 : Nat) : Int))))) b = some o := fun b o q => by
        rw [upd_ne (ne_of_none q hco), upd_ne (ne_of_none q hdc)]; exact q
      refine k _ co nu ro (fun b o q => up b o (s2 _ _ (s1 _ _ q))) (s1.free (s2.free hco)) ⟨dc, ?_⟩ (up _ _ (s2 _ _ nu1)) (up _ _ ro2)
      rw [upd_same]; unfold endAt; rw [eb, if_pos rfl]; dsimp only; rw [c4]
end
end Cv
end
section
namespace Cv
open PySem PySem.Spec PyProof.Rows L2 HT
abbrev sAnswer : Stmt := top 69
def cOf : Nat → List Nat → List Nat → Kv365.Call
  | 0, ns, _ => .begin_ (ns.getD 0 0)
  | 1, ns, _ => .low (ns.getD 0 0) (ns.getD 1 0) (ns.getD 2 0)
  | 2, ns, _ => .drop (ns.getD 0 0)
  | 3, ns, _ => .water (ns.getD 0 0) (ns.getD 1 0)
  | 4, ns, _ => .rock (ns.getD 0 0)
  | 5, ns, _ => .norock (ns.getD 0 0)
  | 6, ns, _ => .price (ns.getD 0 0) (ns.getD 1 0)
  | 7, _, _ => .fewest
  | 8, _, _ => .apart
  | 9, _, _ => .cheapest
  | 10, _, _ => .pays
  | 11, _, row => .hits row
  | 12, _, row => .missed row
  | 13, ns, row => .carries (ns.getD 0 0) row
  | 14, ns, row => .why (ns.getD 0 0) row
  | 15, ns, row => .share (ns.getD 0 0) row
  | 16, _, row => .leastroom row
  | 17, ns, _ => .fewestfor (ns.getD 0 0)
  | 18, ns, _ => .without (ns.getD 0 0)
  | 19, ns, _ => .ifrock (ns.getD 0 0)
  | 20, ns, _ => .at_ (ns.getD 0 0)
  | 21, ns, _ => .look (ns.getD 0 0)
  | 22, _, _ => .byend
  | _, _, _ => .state
theorem act_begin (st : Kv365.State) (n : Nat) : Kv365.act st (.begin_ n) = (beginSt st n, ⟨beginAns n, []⟩) := by
  unfold beginSt beginAns
  cases st with
  | none =>
    simp only [Kv365.act, Kv365.Abs.does]
    by_cases h : n < 2 ∨ 12 < n
    · simp only [if_pos h]; rfl
    · simp only [if_neg h]; rfl
  | some a =>
    simp only [Kv365.act, Kv365.Abs.does]
    by_cases h : n < 2 ∨ 12 < n
    · simp only [if_pos h]; rfl
    · simp only [if_neg h]; rfl
theorem cOf_begin {p : Nat} {ns row : List Nat} (h : p ≠ 0) : ∀ n, cOf p ns row ≠ .begin_ n := by
  intro n
  unfold cOf
  split <;> first | exact absurd rfl h | (intro z; cases z)
theorem act_none {c : Kv365.Call} (h : ∀ n, c ≠ .begin_ n) : Kv365.act none c = (none, Kv365.say (-11)) := by
  cases c <;> first | rfl | exact absurd rfl (h _)
theorem act_some (a : Kv365.Abs) (c : Kv365.Call) : Kv365.act (some a) c = (some (a.does c).1, (a.does c).2) := by
  cases c <;> rfl
def CallAt (Cc : Addr) (H : Hp) (co : Addr) (p : Nat) (nu ro : Addr) (e : Nat) : Prop := ∃ dx, H co = some (.ins Cc dx (cf (.int (p : Int)) (.ref nu) (.ref ro) (.int (e : Int))))
def spAnswer (Cg Cs Cc Pt : Addr) (es : List Ent) : PySem.W.Frag → Sp := fun K vs H Q _ => ∃ (g co nu ro : Addr) (st : Kv365.State) (F : List Addr) (p b : Nat) (e : Ent) (ns row : List Nat), vs = [.ref g, .ref co] ∧ GndF Cg Cs H g st F ∧ My.WfO st ∧ Tab H Pt ∧ CallAt Cc H co p nu ro b ∧ es[p]? = some e ∧ H nu = some (.lst (natV ns)) ∧ ns.length = e.n ∧ H ro = some (.lst (natV row)) ∧ row.length ≤ 30000 ∧
  Hands Cg Cs Pt H g F (Kv365.act st (cOf p ns row)).1 (Kv365.act st (cOf p ns row)).2 Q
def HandFam (Cg Cs Pt : Addr) (K : PySem.W.Frag) (es : List Ent) : Fam := fun f sp => ∃ (p : Nat) (e : Ent), es[p]? = some e ∧ f = e.fn ∧ sp = if p = 0 then spHandB Cg Cs Pt K else spHand Cg Cs Pt e.n (cOf p) K
structure HandlersOk (P : Program) (w : World) (K : PySem.W.Frag) (mg : Str → Option Value) (base : Heap) (Cg Cs Pt : Addr) (es : List Ent) : Prop where
  ok : ∀ (p : Nat) (e : Ent), es[p]? = some e → ∃ fd, FnOk P w K mg base CX0 10 e.fn fd hps (if p = 0 then spHandB Cg Cs Pt K else spHand Cg Cs Pt e.n (cOf p) K) ∧ PySem.W.keepIn K (.ref e.fn) = true ∧ Binds K fd hps []
  zero : ∀ e, es[0]? = some e → e.n = 1
section
variable {P : Program} {w : World} {K : PySem.W.Frag} {mg : Str → Option Value} {base : Heap}
theorem scAnswer : FnScope ["ground", "call", "handler"] ["ground", "call"] (defScope sAnswer) := ⟨rfl, rfl, rfl, by decide +kernel, rfl, by decide +kernel, by decide +kernel⟩
theorem ok_answer {f Cg Cs Cc Pt fB : Addr} {fd fdB : FuncData} {es : List Ent} (F0 : Fun K "answer_call" "answer_call" sAnswer f fd) (T : TxtG K mg Cg) (TC : TxtC K mg Cc) (N : TxtN mg) (TB : Table K mg es) (HO0 : HandlersOk P w K mg base Cg Cs Pt es)
    (GB : FnOk P w K mg base CX0 1 fB fdB ["self"] (spBegun Cg Cs)) (bB : Binds K fdB ["self"] []) (mB : Meth K Cg "is_begun" fB) : FnOk P w K mg base CX0 11 f fd ["ground", "call"] (spAnswer Cg Cs Cc Pt es K) := by
  refine F0.ok scAnswer (fun vs H Q E h => ?_) (fun cdv A outer s0 H vs Q E hr h => ?_)
  · obtain ⟨g, co, nu, ro, st, F, p, b, e, ns, row, rfl, _⟩ := h
    rfl
  · obtain ⟨g, co, nu, ro, st, F, p, b, e, ns, row, rfl, hG, W, hT, ⟨dc, hco⟩, he, hN, hl, hR, hrl, k⟩ := h
    obtain ⟨r0, p0, t0, ss, G, eF⟩ := id hG
    obtain ⟨dx, hg⟩ := G.ins
    obtain ⟨u1, m1, w1⟩ := N.begin_
    obtain ⟨u2, m2, w2⟩ := N.notBegun
    obtain ⟨ct, mct, tct⟩ := TB.ct
    have hem : e ∈ es := List.mem_of_getElem? he
    have te := TB.ent e hem
    have gp : (es.map fun e => V.ref e.at_)[p]? = some (V.ref e.at_) := by rw [List.getElem?_map, he]; rfl
    have cts : RelV (.ref ct) (Value.ref ct) := rfl
    have hF : FamOk (cxOf CX0 P w K mg base ["ground", "call", "handler"] "answer_call" (defScope sAnswer) f cdv A outer s0 H E).nox hps (HandFam Cg Cs Pt K es) := ⟨fun f' sp ⟨p', e', h1, h2, h3⟩ => by
      obtain ⟨fd', g1, g2, g3⟩ := HO0.ok p' e' h1
      subst h2 h3
      exact ⟨fd', 10, g1, hr, g2, g3⟩⟩
    refine ⟨_, pss_cons (ps_if (PW.pt (pw_and (pt_cmpR op_ne (pe_fld (pv 1) rfl) (pe_glob rfl m1 w1) (nomark _)) (pw_and1 (pt_not (pt_val (pe_meth0 (pv 0) T.cl mB GB (hr.mono (by decide)) bB .nil pass0)))))) (pss_one (ps_ret (pe_lst (pa_cons (pe_glob rfl m2 w2) pa_nil)))) pss_nil)
      (pss_cons (ps_set (i := 2) scAnswer.nd rfl (Or.inl rfl) (pe_ix ix_tup (pe_ix ix_tup (pe_glob rfl mct cts) (pe_fld (pv 1) rfl) (fun _ _ => rfl)) pe_int (fun _ _ => rfl)))
      (pss_one (ps_ret (pe_callV hF (pv 2) (pa_cons (pv 0) (pa_cons (pe_fld (pv 1) rfl) (pa_cons (pe_fld (pv 1) rfl) pa_nil))))))), ?_⟩
    refine ⟨_, rfl, co, Cc, dc, _, _, rfl, hco, TC.cl, TC.n1, cf_number _ _ _ _, rfl, _, rfl, ?_⟩
    by_cases hp : p = 0
    · subst hp
      refine iteF (iteF ⟨_, rfl, co, Cc, dc, _, _, rfl, hco, TC.cl, TC.n1, cf_number _ _ _ _, ct, _, _, _, rfl, rfl, tct.sq _, at_of (j := 0) rfl gp, e.at_, _, _, _, rfl, rfl, te.sq _, at_of (j := 0) rfl rfl, _, rfl, e.fn, _, rfl, ⟨0, e, he, rfl, rfl⟩, _, rfl, _, rfl, co, Cc, dc, _, _, rfl, hco, TC.cl, TC.n2, cf_numbers _ _ _ _, _, rfl, co, Cc, dc, _, _, rfl, hco, TC.cl, TC.n3, cf_row _ _ _ _, ?_⟩)
      rw [if_pos rfl]
      obtain ⟨m, rfl⟩ := list1 (hl.trans (HO0.zero e he))
      have k' : Hands Cg Cs Pt H g F (beginSt st m) ⟨beginAns m, []⟩ Q := by
        have z := k
        rw [show cOf 0 [m] row = .begin_ m from rfl, act_begin] at z
        exact z
      exact ⟨g, nu, ro, st, F, m, rfl, hG, hT, SqL.of hN, k'⟩
    · rw [show decide (V.int (p : Int) = V.int 0) = false from decide_eq_false (by intro z; injection z with z; omega)]
      refine iteT ⟨_, rfl, g, dx, _, rfl, hg, gf_no _ _ _ (by decide +kernel) (by decide +kernel) (by decide +kernel), g, st, rfl, hG.gnd, _, rfl, ?_⟩
      cases st with
      | none =>
        rw [act_none (cOf_begin hp)] at k
        exact iteT ⟨row1, fun D hD => k.give hG hT (fun _ _ _ e => e) hT hD⟩
      | some a =>
        have W' : My.Wf a := W
        have h2 := W'.n2
        rw [show decide (0 < stN (some a)) = true from decide_eq_true (show 0 < a.n by omega)]
        refine iteF ⟨_, rfl, co, Cc, dc, _, _, rfl, hco, TC.cl, TC.n1, cf_number _ _ _ _, ct, _, _, _, rfl, rfl, tct.sq _, at_of (j := p) rfl gp, e.at_, _, _, _, rfl, rfl, te.sq _, at_of (j := 0) rfl rfl, _, rfl, e.fn, _, rfl, ⟨p, e, he, rfl, rfl⟩, _, rfl, _, rfl, co, Cc, dc, _, _, rfl, hco, TC.cl, TC.n2, cf_numbers _ _ _ _, _, rfl, co, Cc, dc, _, _, rfl, hco, TC.cl, TC.n3, cf_row _ _ _ _, ?_⟩
        rw [if_neg hp]
        rw [act_some] at k
        exact ⟨g, nu, ro, a, F, ns, row, rfl, hG, W', hT, SqL.of hN, hl, SqL.of hR, hrl, k⟩
end
end Cv
end
section
namespace Cv
open PySem PySem.Spec PyProof.Rows L2 HT
abbrev castL (l : List Nat) : List Int := l.map fun (i : Nat) => (i : Int)
theorem toNat_cast (l : List Nat) : (castL l).map Int.toNat = l := by
  rw [List.map_map]
  conv => rhs; rw [← List.map_id l]
  refine List.map_congr_left fun x _ => ?_
  exact Int.toNat_natCast x
def stepOut (st : Kv365.State) (c : Kv365.Call) : Kv365.State × List Int := ((Kv365.act st c).1, Kv365Neutral.row (Kv365.act st c).2)
theorem step_call {st : Kv365.State} {w : List (List Int)} {c : Kv365.Call} (h : Kv365Neutral.callOf w = some c) : Kv365Neutral.step st w = stepOut st c := by
  unfold Kv365Neutral.step; rw [h]; rfl
theorem nat_cast (x : Nat) : Kv365Neutral.nat ((x : Nat) : Int) = x := Int.toNat_natCast x
theorem nats_cast (l : List Nat) : Kv365Neutral.nats (castL l) = l := toNat_cast l
theorem step_noRow {p n : Nat} (hs : PyKv365.shape (p : Int) = some (n, 0)) {ns : List Nat} (hl : ns.length = n) (st : Kv365.State) : Kv365Neutral.step st (PyKv365.whole [((p : Nat) : Int) :: castL ns]) = stepOut st (cOf p ns []) := by
  have hp := (My.shape_kinds hs).2.1
  have hp : p < 24 := by omega
  match p, hp, hs with
  | 0, _, hs => cases hs; obtain ⟨x, rfl⟩ := list1 hl; exact step_call (congrArg (fun z => some (Kv365.Call.begin_ z)) (nat_cast x))
  | 1, _, hs => cases hs; obtain ⟨x, y, z, rfl⟩ := list3 hl; exact step_call (by show some (Kv365.Call.low (Kv365Neutral.nat (x : Int)) (Kv365Neutral.nat (y : Int)) (Kv365Neutral.nat (z : Int))) = _; rw [nat_cast, nat_cast, nat_cast]; rfl)
  | 2, _, hs => cases hs; obtain ⟨x, rfl⟩ := list1 hl; exact step_call (congrArg (fun z => some (Kv365.Call.drop z)) (nat_cast x))
  | 3, _, hs => cases hs; obtain ⟨x, y, rfl⟩ := list2 hl; exact step_call (by show some (Kv365.Call.water (Kv365Neutral.nat (x : Int)) (Kv365Neutral.nat (y : Int))) = _; rw [nat_cast, nat_cast]; rfl)
  | 4, _, hs => cases hs; obtain ⟨x, rfl⟩ := list1 hl; exact step_call (congrArg (fun z => some (Kv365.Call.rock z)) (nat_cast x))
  | 5, _, hs => cases hs; obtain ⟨x, rfl⟩ := list1 hl; exact step_call (congrArg (fun z => some (Kv365.Call.norock z)) (nat_cast x))
  | 6, _, hs => cases hs; obtain ⟨x, y, rfl⟩ := list2 hl; exact step_call (by show some (Kv365.Call.price (Kv365Neutral.nat (x : Int)) (Kv365Neutral.nat (y : Int))) = _; rw [nat_cast, nat_cast]; rfl)
  | 7, _, hs => cases hs; cases ns with
    | nil => rfl
    | cons x l => cases hl
  | 8, _, hs => cases hs; cases ns with
    | nil => rfl
    | cons x l => cases hl
  | 9, _, hs => cases hs; cases ns with
    | nil => rfl
    | cons x l => cases hl
  | 10, _, hs => cases hs; cases ns with
    | nil => rfl
    | cons x l => cases hl
  | 11, _, hs => cases hs
  | 12, _, hs => cases hs
  | 13, _, hs => cases hs
  | 14, _, hs => cases hs
  | 15, _, hs => cases hs
  | 16, _, hs => cases hs
  | 17, _, hs => cases hs; obtain ⟨x, rfl⟩ := list1 hl; exact step_call (congrArg (fun z => some (Kv365.Call.fewestfor z)) (nat_cast x))
  | 18, _, hs => cases hs; obtain ⟨x, rfl⟩ := list1 hl; exact step_call (congrArg (fun z => some (Kv365.Call.without z)) (nat_cast x))
  | 19, _, hs => cases hs; obtain ⟨x, rfl⟩ := list1 hl; exact step_call (congrArg (fun z => some (Kv365.Call.ifrock z)) (nat_cast x))
  | 20, _, hs => cases hs; obtain ⟨x, rfl⟩ := list1 hl; exact step_call (congrArg (fun z => some (Kv365.Call.at_ z)) (nat_cast x))
  | 21, _, hs => cases hs; obtain ⟨x, rfl⟩ := list1 hl; exact step_call (congrArg (fun z => some (Kv365.Call.look z)) (nat_cast x))
  | 22, _, hs => cases hs; cases ns with
    | nil => rfl
    | cons x l => cases hl
  | 23, _, hs => cases hs; cases ns with
    | nil => rfl
    | cons x l => cases hl
  | p + 24, hp, _ => exact absurd hp (by omega)
theorem step_row {p n : Nat} (hs : PyKv365.shape (p : Int) = some (n, 1)) {ns row : List Nat} (hl : ns.length = n) (st : Kv365.State) : Kv365Neutral.step st (PyKv365.whole [((p : Nat) : Int) :: castL ns, castL row]) = stepOut st (cOf p ns row) := by
  have hp := (My.shape_kinds hs).2.1
  have hp : p < 24 := by omega
  match p, hp, hs with
  | 11, _, hs => cases hs; cases ns with
    | nil => exact step_call (congrArg (fun z => some (Kv365.Call.hits z)) (nats_cast row))
    | cons x l => cases hl
  | 12, _, hs => cases hs; cases ns with
    | nil => exact step_call (congrArg (fun z => some (Kv365.Call.missed z)) (nats_cast row))
    | cons x l => cases hl
  | 13, _, hs => cases hs; obtain ⟨x, rfl⟩ := list1 hl; exact step_call (by show some (Kv365.Call.carries (Kv365Neutral.nat (x : Int)) (Kv365Neutral.nats (castL row))) = _; rw [nat_cast, nats_cast]; rfl)
  | 14, _, hs => cases hs; obtain ⟨x, rfl⟩ := list1 hl; exact step_call (by show some (Kv365.Call.why (Kv365Neutral.nat (x : Int)) (Kv365Neutral.nats (castL row))) = _; rw [nat_cast, nats_cast]; rfl)
  | 15, _, hs => cases hs; obtain ⟨x, rfl⟩ := list1 hl; exact step_call (by show some (Kv365.Call.share (Kv365Neutral.nat (x : Int)) (Kv365Neutral.nats (castL row))) = _; rw [nat_cast, nats_cast]; rfl)
  | 16, _, hs => cases hs; cases ns with
    | nil => exact step_call (congrArg (fun z => some (Kv365.Call.leastroom z)) (nats_cast row))
    | cons x l => cases hl
  | 0, _, hs => cases hs
  | 1, _, hs => cases hs
  | 2, _, hs => cases hs
  | 3, _, hs => cases hs
  | 4, _, hs => cases hs
  | 5, _, hs => cases hs
  | 6, _, hs => cases hs
  | 7, _, hs => cases hs
  | 8, _, hs => cases hs
  | 9, _, hs => cases hs
  | 10, _, hs => cases hs
  | 17, _, hs => cases hs
  | 18, _, hs => cases hs
  | 19, _, hs => cases hs
  | 20, _, hs => cases hs
  | 21, _, hs => cases hs
  | 22, _, hs => cases hs
  | 23, _, hs => cases hs
  | p + 24, hp, _ => exact absurd hp (by omega)
end Cv
end
section
namespace Cv
open PySem PySem.Spec PyProof.Rows L2 HT
structure Shapes (es : List Ent) : Prop where
  len : es.length = 24
  sh : ∀ (p : Nat) (e : Ent), es[p]? = some e → PyKv365.shape (p : Int) = some (e.n, if e.b then 1 else 0)
theorem castL_drop (l : List Nat) (i : Nat) : castL (l.drop i) = (castL l).drop i := by unfold castL; rw [List.map_drop]
theorem castL_take (l : List Nat) (i : Nat) : castL (l.take i) = (castL l).take i := by unfold castL; rw [List.map_take]
theorem told_one (x : List Int) : PyFlat.told [x] = (x.length : Int) :: x := by
  unfold PyFlat.told
  rw [List.flatMap_cons, List.flatMap_nil, List.append_nil]
def ansI (x : Kv365.Ans) : List Int := Kv365Neutral.row x
theorem ansI_V (x : Kv365.Ans) : (ansI x).map V.int = ansV x := by
  unfold ansI Kv365Neutral.row Kv365Neutral.ints ansV natV
  rw [List.map_cons, List.map_map]; rfl
theorem call_at {l : List Nat} {es : List Ent} (S : Shapes es) {f i : Nat} (hi : i < l.length) (h : My.fine f (castL (l.drop i))) : ∃ (p : Nat) (e : Ent) (g : Nat), f = g + 1 ∧ l[i]? = some p ∧ es[p]? = some e ∧ i + 1 + e.n ≤ l.length ∧ (e.b = true → i + 1 + e.n < l.length) ∧ endAt l i e.n e.b ≤ l.length ∧ i < endAt l i e.n e.b ∧ (nsAt l i e.n).length = e.n ∧ (rowAt l i e.n e.b).length ≤ l.length ∧
    My.fine g (castL (l.drop (endAt l i e.n e.b))) ∧ ∀ s, My.due s f (castL (l.drop i)) = ((ansI (Kv365.act s (cOf p (nsAt l i e.n) (rowAt l i e.n e.b))).2).length : Int) :: ansI (Kv365.act s (cOf p (nsAt l i e.n) (rowAt l i e.n e.b))).2 ++ My.due (Kv365.act s (cOf p (nsAt l i e.n) (rowAt l i e.n e.b))).1 g (castL (l.drop (endAt l i e.n e.b))) := by
  have e1 : l.drop i = l[i] :: l.drop (i + 1) := List.drop_eq_getElem_cons hi
  have e2 : castL (l.drop i) = ((l[i] : Nat) : Int) :: castL (l.drop (i + 1)) := by rw [e1]; rfl
  rw [e2] at h
  obtain ⟨n, k, g, hf, hs, hn, hk⟩ := My.fine_cons h
  have hp := (My.shape_kinds hs).2.1
  have hpl : l[i] < es.length := by rw [S.len]; omega
  have he := List.getElem?_eq_getElem hpl
  have hsh := S.sh _ _ he
  generalize hee : es[l[i]]'hpl = e at he hsh
  rw [hs] at hsh
  have hnk := Option.some.inj hsh
  have hn1 : n = e.n := congrArg Prod.fst hnk
  have hk1 : k = if e.b then 1 else 0 := congrArg Prod.snd hnk
  subst hn1
  have hln : (castL (l.drop (i + 1))).length = l.length - (i + 1) := by unfold castL; rw [List.length_map, List.length_drop]
  rw [hln] at hn
  have hns : nsAt l i e.n = (l.drop (i + 1)).take e.n := rfl
  have hnl : (nsAt l i e.n).length = e.n := by rw [hns, List.length_take, List.length_drop]; omega
  refine ⟨l[i], e, g, hf, List.getElem?_eq_getElem hi, he, by omega, ?_⟩
  rcases hk with ⟨k0, hfi, hd⟩ | ⟨k1, m, r2, hr, hm, hfi, hd⟩
  · have eb : e.b = false := by cases q : e.b with
      | false => rfl
      | true => rw [q] at hk1; simp at hk1; omega
    have ee : endAt l i e.n e.b = i + 1 + e.n := by unfold endAt; rw [eb]; rfl
    have er : rowAt l i e.n e.b = [] := by unfold rowAt; rw [eb]; rfl
    rw [ee, er]
    have edr : (castL (l.drop (i + 1))).drop e.n = castL (l.drop (i + 1 + e.n)) := by rw [← castL_drop, List.drop_drop]
    rw [edr] at hfi hd
    refine ⟨fun z => (by rw [eb] at z; cases z), by omega, by omega, hnl, Nat.zero_le _, hfi, fun s => ?_⟩
    rw [e2, hd s, ← castL_take]
    have := step_noRow (p := l[i]) (n := e.n) (by rw [hs, k0]) hnl s
    rw [hns] at this
    rw [this, told_one, ← hns]; rfl
  · have eb : e.b = true := by cases q : e.b with
      | true => rfl
      | false => rw [q] at hk1; simp at hk1; omega
    have hr' : castL (l.drop (i + 1 + e.n)) = (m : Int) :: r2 := by rw [← hr, ← castL_drop, List.drop_drop]
    have hlt : i + 1 + e.n < l.length := by
      apply Nat.lt_of_not_le
      intro z
      rw [List.drop_eq_nil_of_le z] at hr'; cases hr'
    have e3 : l.drop (i + 1 + e.n) = l[i + 1 + e.n] :: l.drop (i + 1 + e.n + 1) := List.drop_eq_getElem_cons hlt
    rw [e3] at hr'
    have hm1 : ((l[i + 1 + e.n] : Nat) : Int) = (m : Int) := (List.cons.inj hr').1
    have hr2 : castL (l.drop (i + 1 + e.n + 1)) = r2 := (List.cons.inj hr').2
    have hm2 : l.getD (i + 1 + e.n) 0 = m := by
      rw [List.getD_eq_getElem?_getD, List.getElem?_eq_getElem hlt]
      show l[i + 1 + e.n] = m
      omega
    have ee : endAt l i e.n e.b = i + 2 + e.n + m := by unfold endAt; rw [eb, if_pos rfl, hm2]
    have er : rowAt l i e.n e.b = (l.drop (i + 2 + e.n)).take m := by unfold rowAt; rw [eb, if_pos rfl, hm2]
    have e4 : i + 1 + e.n + 1 = i + 2 + e.n := by omega
    rw [e4] at hr2
    rw [ee, er]
    subst hr2
    have hrl : (castL (l.drop (i + 2 + e.n))).length = l.length - (i + 2 + e.n) := by unfold castL; rw [List.length_map, List.length_drop]
    rw [hrl] at hm
    have edr : (castL (l.drop (i + 2 + e.n))).drop m = castL (l.drop (i + 2 + e.n + m)) := by rw [← castL_drop, List.drop_drop]
    rw [edr] at hfi hd
    refine ⟨fun _ => hlt, by omega, by omega, hnl, by rw [List.length_take, List.length_drop]; omega, hfi, fun s => ?_⟩
    rw [e2, hd s, ← castL_take, ← castL_take]
    have := step_row (p := l[i]) (n := e.n) (row := (l.drop (i + 2 + e.n)).take m) (by rw [hs, k1]) hnl s
    rw [hns] at this
    rw [this, told_one, ← hns]; rfl
end Cv
end
section
namespace Cv
open PySem PySem.Spec PyProof.Rows L2 HT
abbrev sAnswers : Stmt := top 70
def spAnswers (Pt : Addr) : PySem.W.Frag → Sp := fun K vs H Q _ => ∃ (c : Addr) (l : List Nat), vs = [.ref c] ∧ SqL K H c (natV l) ∧ c ≠ Pt ∧ l.length ≤ 30000 ∧ Tab H Pt ∧ My.fine l.length (castL l) ∧ (My.due none l.length (castL l)).length ≤ 10000000 ∧
  ∀ (H' : Hp) (D : Addr), H' D = some (.lst ((My.due none l.length (castL l)).map V.int)) → Q (.ref D) H'
section
variable {P : Program} {w : World} {K : PySem.W.Frag} {mg : Str → Option Value} {base : Heap}
theorem scAnswers : FnScope ["calls", "ground", "told", "place", "call", "answer"] ["calls"] (defScope sAnswers) := ⟨rfl, rfl, rfl, by decide +kernel, rfl, by decide +kernel, by decide +kernel⟩
theorem GndF.putOut {Cg Cs : Addr} {H : Hp} {g t : Addr} {st : Kv365.State} {F : List Addr} {o : HO} (h : GndF Cg Cs H g st F) (n : t ∉ F) : GndF Cg Cs (upd H t o) g st F := by
  obtain ⟨r, p, t0, ss, G, rfl⟩ := h
  have n1 : g ≠ t := fun z => n (by rw [z]; exact List.mem_cons_self)
  have n2 : r ≠ t := fun z => n (by rw [z]; exact List.mem_cons_of_mem _ List.mem_cons_self)
  have n3 : p ≠ t := fun z => n (by rw [z]; exact List.mem_cons_of_mem _ (List.mem_cons_of_mem _ List.mem_cons_self))
  have n4 : t0 ≠ t := fun z => n (by rw [z]; exact List.mem_cons_of_mem _ (List.mem_cons_of_mem _ (List.mem_cons_of_mem _ List.mem_cons_self)))
  have n5 : t ∉ ss := fun z => n (List.mem_cons_of_mem _ (List.mem_cons_of_mem _ (List.mem_cons_of_mem _ (List.mem_cons_of_mem _ z))))
  obtain ⟨dx, e⟩ := G.ins
  exact ⟨r, p, t0, ss, ⟨⟨dx, by rw [upd_ne n1]; exact e⟩, by rw [upd_ne n2]; exact G.rk, by rw [upd_ne n3]; exact G.pr, by rw [upd_ne n4]; exact G.lo, paired_other G.st n5, G.nd, G.rp⟩, rfl⟩
def muA (l : List Nat) (σ : L2.St) : Nat := match σ with
  | [_, _, _, some (.int z), _, _] => l.length - z.toNat
  | _ => 0
structure Turn (Cg Cs Pt : Addr) (H0 : Hp) (l : List Nat) (H : Hp) (g t : Addr) (i : Nat) (st : Kv365.State) (F : List Addr) (done : List Int) (f : Nat) : Prop where
  gnd : GndF Cg Cs H g st F
  wf : My.WfO st
  tab : Tab H Pt
  told : H t = some (.lst (done.map V.int))
  out : t ∉ F
  new : ∀ b ∈ F, H0 b = none
  newT : H0 t = none
  ptT : t ≠ Pt
  keep : ∀ b o, b ≠ Pt → H0 b = some o → H b = some o
  le : i ≤ l.length
  fine : My.fine f (castL (l.drop i))
  eq : done ++ My.due st f (castL (l.drop i)) = My.due none l.length (castL l)
theorem Turn.seq {Cg Cs Pt : Addr} {H0 H : Hp} {l : List Nat} {g t c : Addr} {i f : Nat} {st : Kv365.State} {F : List Addr} {done : List Int} (T : Turn Cg Cs Pt H0 l H g t i st F done f) (hc : c ≠ Pt) {xs : List V} (h : SqL K H0 c xs) : SqL K H c xs := by
  rcases h with (h | ⟨o, h⟩) | h
  · exact .inl (.inl (T.keep _ _ hc h))
  · exact .inl (.inr ⟨o, T.keep _ _ hc h⟩)
  · exact .inr h
theorem ok_answers {f Cg Cs Cc Pt fI fR fA : Addr} {fd fdI fdR fdA : FuncData} {es : List Ent} (F0 : Fun K "answers" "answers" sAnswers f fd) (TG : TxtG K mg Cg) (TC : TxtC K mg Cc) (B : TxtB mg) (S : Shapes es) (M : Mk K Cg fI) (GI : FnOk P w K mg base CX0 1 fI fdI ["self"] (spGInit Cg Cs)) (bI : Binds K fdI ["self"] [])
    (GR : FnOk P w K mg base CX0 3 fR fdR ["calls", "place"] (spRead Cc es K)) (bR : Binds K fdR ["calls", "place"] []) (gR : mg "read_call" = some (.ref fR)) (kR : PySem.W.keepIn K (.ref fR) = true)
    (GA : FnOk P w K mg base CX0 11 fA fdA ["ground", "call"] (spAnswer Cg Cs Cc Pt es K)) (bA : Binds K fdA ["ground", "call"] []) (gA : mg "answer_call" = some (.ref fA)) (kA : PySem.W.keepIn K (.ref fA) = true) : FnOk P w K mg base CX0 12 f fd ["calls"] (spAnswers Pt K) := by
  refine F0.ok scAnswers (fun vs H Q E h => ?_) (fun cdv A outer s0 H vs Q E hr h => ?_)
  · obtain ⟨c, l, rfl, _⟩ := h
    rfl
  · obtain ⟨c, l, rfl, hS, hcP, h30, hT, hF, hL, k⟩ := h
    refine ⟨_, pss_cons (ps_set (i := 1) scAnswers.nd rfl (Or.inl rfl) (pe_make0 M GI (hr.mono (by decide)) rfl TG.mgC bI .nil pass0))
      (pss_cons (ps_set (i := 2) scAnswers.nd rfl (Or.inl rfl) (pe_lst pa_nil))
      (pss_cons (ps_set (i := 3) scAnswers.nd rfl (Or.inl rfl) pe_int)
      (pss_cons (ps_while PassesOwn.never (pt_cmpR op_lt (pv 3) (pe_callB call_len_seq (by rfl) B.len PySem.boot_len (pa_cons (pv 0) pa_nil)) (nomark _))
        (pss_cons (ps_set (i := 4) scAnswers.nd rfl (Or.inl rfl) (pe_call GR (hr.mono (by decide)) rfl gR kR bR .nil pass0 (pa_cons (pv 0) (pa_cons (pv 3) pa_nil))))
        (pss_cons (ps_set (i := 5) scAnswers.nd rfl (Or.inl rfl) (pe_call GA hr rfl gA kA bA .nil pass0 (pa_cons (pv 1) (pa_cons (pv 4) pa_nil))))
        (pss_cons (ps_expr (pe_bm PySem.F.plainAttrs_list PySem.F.slot_list_append PySem.F.type_list_append mt_append (pv 2) (pa_cons (pe_callB call_len_seq (by rfl) B.len PySem.boot_len (pa_cons (pv 5) pa_nil)) pa_nil)))
        (pss_cons (ps_expr (pe_bm PySem.F.plainAttrs_list PySem.F.slot_list_extend PySem.F.type_list_extend mt_extend (pv 2) (pa_cons (pv 5) pa_nil)))
        (pss_one (ps_set (i := 3) scAnswers.nd rfl (Or.inl rfl) (pe_fld (pv 4) rfl))))))))
      (pss_one (ps_ret (pv 2)))))), ?_⟩
    intro g dg hg hdg hne
    refine ⟨g, dg, rfl, upd_same, fun H1 r0 p0 t0 G hr0 hp0 ht0 k1 => ⟨rfl, Nat.zero_le _, fun t ht => ?_⟩⟩
    have s1 : Same H H1 := Same.made hg hdg k1
    have s2 : Same H1 (upd H1 t (.lst [])) := same_new ht
    have fr : ∀ {x : Addr}, upd (upd H dg (.own g)) g (.ins Cg dg []) x = none → H x = none := fun {x} q => by
      cases e : H x with
      | none => rfl
      | some o => rw [upd_ne (ne_of_none e hg), upd_ne (ne_of_none e hdg), e] at q; cases q
    have T0 : Turn Cg Cs Pt H l (upd H1 t (.lst [])) g t 0 none [g, r0, p0, t0] [] l.length := by
      have hGF : GndF Cg Cs H1 g none [g, r0, p0, t0] := ⟨r0, p0, t0, [], G, rfl⟩
      refine ⟨hGF.same s2, trivial, (hT.same s1).same s2, upd_same, fun z => ?_, fun b hb => ?_, s1.free ht, fun z => ?_, fun b o _ e => s2 _ _ (s1 _ _ e), Nat.zero_le _, hF, rfl⟩
      · obtain ⟨o, e, _⟩ := hGF.mem z; rw [ht] at e; cases e
      · simp only [List.mem_cons, List.not_mem_nil, or_false] at hb
        rcases hb with rfl | rfl | rfl | rfl
        · exact hg
        · exact fr hr0
        · exact fr hp0
        · exact fr ht0
      · rw [z] at ht
        rcases (hT.same s1) with q | ⟨_, q, _⟩ <;> (rw [ht] at q; cases q)
    refine while_by (fun σ H' => ∃ (i : Nat) (st : Kv365.State) (F : List Addr) (done : List Int) (f' : Nat) (v4 v5 : Option V), σ = [some (.ref c), some (.ref g), some (.ref t), some (.int (i : Int)), v4, v5] ∧ Turn Cg Cs Pt H l H' g t i st F done f')
      (fun σ _ => muA l σ) ⟨0, none, _, [], l.length, none, none, rfl, T0⟩ ?_ ?_
    · rintro σ H2 ⟨i, st, F, done, f', v4, v5, rfl, T⟩
      have hS2 := T.seq hcP hS
      refine ⟨_, rfl, _, rfl, c, _, rfl, .inl hS2, _, _, rfl, rfl, _, rfl, ?_⟩
      rw [natV_len]
      by_cases hi : i < l.length
      · rw [decide_eq_true (show (i : Int) < (l.length : Int) by omega)]
        refine iteT ?_
        obtain ⟨p, e, f2, hf2, hp, he, q1, q2, q3, q4, q5, q6, q7, q8⟩ := call_at S hi T.fine
        refine ⟨_, rfl, _, rfl, c, l, i, p, e, rfl, hS2, h30, hp, he, q1, q2, q3, fun H3 co nu ro s3 nco hco hnu hro => ?_⟩
        have hG3 := T.gnd.same s3
        refine ⟨_, rfl, _, rfl, g, co, nu, ro, st, F, p, _, e, _, _, rfl, hG3, T.wf, T.tab.same s3, hco, he, hnu, q5, hro, Nat.le_trans q6 h30, ?_⟩
        intro H4 F4 D hG4 hF4 hk4 hT4 hD4 hDF hD
        have hW := T.wf.act (cOf p (nsAt l i e.n) (rowAt l i e.n e.b))
        have hq := q8 st
        have hEq := T.eq
        rw [hq] at hEq
        generalize Kv365.act st (cOf p (nsAt l i e.n) (rowAt l i e.n e.b)) = z at hG4 hD hW hq hEq
        obtain ⟨st', x⟩ := z
        dsimp only at hG4 hD hW hq hEq
        obtain ⟨dc, hco⟩ := hco
        have coF : co ∉ F := fun z => by obtain ⟨o, e, _⟩ := T.gnd.mem z; rw [nco] at e; cases e
        have coP : co ≠ Pt := fun z => by
          rw [z] at hco
          rcases (T.tab.same s3) with q | ⟨_, q, _⟩ <;> (rw [hco] at q; cases q)
        have co4 := hk4 _ _ coP coF hco
        have t4 := hk4 _ _ T.ptT T.out (s3 _ _ T.told)
        have tF4 : t ∉ F4 := fun z => by
          rcases hF4 _ z with q | q
          · exact T.out q
          · rw [s3 _ _ T.told] at q; cases q
        have tD : t ≠ D := hD4 _ _ T.ptT T.out (s3 _ _ T.told)
        have hlen : done.length + 1 + (ansI x).length ≤ 10000000 := by
          have := congrArg List.length hEq
          rw [List.length_append, List.length_append, List.length_cons] at this
          omega
        have hxl : (ansV x).length = (ansI x).length := by rw [← ansI_V, List.length_map]
        refine ⟨_, rfl, .inl ⟨rfl, _, SqL.of t4⟩, _, rfl, D, _, rfl, .inl (SqL.of hD), t, _, _, rfl, rfl, t4, by rw [List.length_map, sizeLine_eq]; omega, ?_⟩
        refine ⟨_, rfl, .inl ⟨rfl, _, SqL.of upd_same⟩, _, rfl, t, D, _, _, rfl, rfl, upd_same, by rw [upd_ne (Ne.symm tD)]; exact hD, by rw [List.length_append, List.length_map, hxl, sizeLine_eq]; show done.length + 1 + _ ≤ _; omega, ?_⟩
        rw [upd_upd]
        have ct : co ≠ t := fun z => by rw [z] at co4; rw [t4] at co4; cases co4
        refine ⟨_, rfl, co, Cc, dc, _, _, rfl, by rw [upd_ne ct]; exact co4, TC.cl, TC.n4, cf_behind _ _ _ _, ?_⟩
        have sF : ∀ b o, b ≠ t → H4 b = some o → upd H4 t (.lst (done.map V.int ++ [V.int ((ansV x).length : Nat)] ++ ansV x)) b = some o := fun b o hb q => by rw [upd_ne hb]; exact q
        refine ⟨⟨endAt l i e.n e.b, st', F4, done ++ (((ansI x).length : Int) :: ansI x), f2, _, _, rfl, ?_⟩, ?_⟩
        · refine ⟨?_, hW, ?_, ?_, tF4, ?_, T.newT, T.ptT, ?_, q3, q7, ?_⟩
          · exact hG4.putOut tF4
          · exact hT4.but t4 sF
          · rw [upd_same, List.map_append, List.map_cons, ansI_V, hxl, List.append_assoc]; rfl
          · intro b hb
            rcases hF4 b hb with q | q
            · exact T.new b q
            · cases h0 : H b with
              | none => rfl
              | some o =>
                by_cases hbP : b = Pt
                · rw [hbP] at q
                  rcases (T.tab.same s3) with q' | ⟨_, q', _⟩ <;> (rw [q] at q'; cases q')
                · rw [s3 _ _ (T.keep b o hbP h0)] at q; cases q
          · intro b o hbP h0
            have bF : b ∉ F := fun z => by rw [T.new b z] at h0; cases h0
            have bt : b ≠ t := fun z => by rw [z, T.newT] at h0; cases h0
            exact sF b o bt (hk4 b o hbP bF (s3 _ _ (T.keep b o hbP h0)))
          · rw [← hEq, List.append_assoc]
        · show l.length - ((endAt l i e.n e.b : Nat) : Int).toNat < l.length - ((i : Nat) : Int).toNat
          rw [Int.toNat_natCast, Int.toNat_natCast]; omega
      · rw [decide_eq_false (show ¬ (i : Int) < (l.length : Int) by omega)]
        refine iteF ?_
        have ei : i = l.length := by have := T.le; omega
        have e1 := T.eq
        rw [ei, List.drop_length] at e1
        have e2 : My.due st f' (castL []) = [] := My.due_nil st f'
        rw [e2, List.append_nil] at e1
        refine ⟨_, rfl, k _ t ?_⟩
        rw [← e1]; exact T.told
    · intro σ H2 Q1 Q2 hq hc
      obtain ⟨a1, a2, a3, a4, a5, a6, a7, a8, a9, a10, a11, a12, a13, a14, a15⟩ := hc
      exact ⟨a1, a2, a3, a4, a5, a6, a7, a8, a9, a10, a11, a12, a13, a14, hq _ _ a15⟩
end
end Cv
end
section
namespace Cv
open PySem PySem.Spec PyProof.Rows L2 HT
open PySem.W (WData Codec OpenSpec Well WellAll ReadsW ReadsAllW tabObj CodeHd TabsAt)
def argT2 (tabs : List (Addr × Addr)) (H : Hp) : Hp := fun b => if b ∈ tabs.map (·.2) then some (.tbl #[]) else H b
structure TabsIn (mg : Str → Option Value) (base : Heap) (tabs : List (Addr × Addr)) : Prop where
  code : ∀ q ∈ tabs, CodeHd base q.1 q.2
  blt : ∀ q ∈ tabs, base.BuiltinsAt mg q.2
  noP : ∀ q ∈ tabs, base.get? q.2 = none
structure AtEntry (K : PySem.W.Frag) (tabs : List (Addr × Addr)) (H : Hp) : Prop where
  tab : ∀ q ∈ tabs, H q.2 = some (.tbl #[])
  noK : ∀ q ∈ tabs, K.lookup q.2 = none
theorem dw_mono_L {K : PySem.W.Frag} {H : Hp} {tabs : List (Addr × Addr)} (hn : ∀ q ∈ tabs, H q.2 = none) {a : Addr} {xs : List V} (h : SqL K H a xs) : SqL K (argT2 tabs H) a xs := by
  have key : ∀ o, H a = some o → argT2 tabs H a = some o := fun o e => by
    unfold argT2
    rw [if_neg]
    · exact e
    · intro m
      obtain ⟨q, hq, rfl⟩ := List.mem_map.mp m
      rw [hn q hq] at e; cases e
  rcases h with (h | ⟨o, h⟩) | h
  · exact .inl (.inl (key _ h))
  · exact .inl (.inr ⟨o, key _ h⟩)
  · exact .inr h
theorem dw_mono_T {K : PySem.W.Frag} {H : Hp} {tabs : List (Addr × Addr)} (hn : ∀ q ∈ tabs, H q.2 = none) {a : Addr} {xs : List V} (h : SqT K H a xs) : SqT K (argT2 tabs H) a xs := by
  have key : ∀ o, H a = some o → argT2 tabs H a = some o := fun o e => by
    unfold argT2
    rw [if_neg]
    · exact e
    · intro m
      obtain ⟨q, hq, rfl⟩ := List.mem_map.mp m
      rw [hn q hq] at e; cases e
  rcases h with (h | ⟨o, h⟩) | h
  · exact .inl (.inl (key _ h))
  · exact .inl (.inr ⟨o, key _ h⟩)
  · exact .inr h
mutual
theorem dw_mono {K : PySem.W.Frag} {H : Hp} {tabs : List (Addr × Addr)} (hn : ∀ q ∈ tabs, H q.2 = none) : ∀ {v : V} {d : WData}, Dw K H v d → Dw K (argT2 tabs H) v d
  | _, _, .non => .non
  | _, _, .bl b => .bl b
  | _, _, .int i => .int i
  | _, _, .str x => .str x
  | _, _, .byt b => .byt b
  | _, _, .lst h1 h2 => .lst (dw_mono_L hn h1) (dwAll_mono hn h2)
  | _, _, .tup h1 h2 => .tup (dw_mono_T hn h1) (dwAll_mono hn h2)
theorem dwAll_mono {K : PySem.W.Frag} {H : Hp} {tabs : List (Addr × Addr)} (hn : ∀ q ∈ tabs, H q.2 = none) : ∀ {vs : List V} {ds : List WData}, DwAll K H vs ds → DwAll K (argT2 tabs H) vs ds
  | _, _, .nil => .nil
  | _, _, .cons h1 h2 => .cons (dw_mono hn h1) (dwAll_mono hn h2)
end
theorem spec_callT {P : Program} {w : World} {K : PySem.W.Frag} {mg mb : Str → Option Value} {CX : CXT} {k : Nat} {fa : Addr} {fd : FuncData} {ps : List Str} {sp : Sp} {s₁ : Shared} {vals : List Value} {ds : List WData} {R : PySem.W.WRecords} {cl : Str → Option Addr} {d0 : WData} {tabs : List (Addr × Addr)}
    (KX : K.In s₁.heap) (hns : s₁.heap.Ns mainGlobals mg) (hb : s₁.heap.Ns builtinsNs mb) (hbb : ∀ x : Str, x ≠ "__name__" → mb x = bootBuiltins x) (hlim : s₁.heap.NoLimit) (hg : s₁.gens = #[])
    (hTabs : TabsAt tabs s₁.heap) (hKT : ∀ q ∈ tabs, K.lookup q.2 = none) (hbm : ∃ bm ob, mg "__builtins__" = some (.ref bm) ∧ bm ≠ builtinsNs ∧ s₁.heap.get? bm = some ob ∧ ob.cls = .type "module" ∧ ob.dict = some builtinsNs ∧ ob.data = .plain)
    (hwl : WellAll w.params s₁.heap vals ds) (hpl : plWs ds = true) (hwt : ∀ d ∈ ds, d.weight ≤ 1048576) (hr : Room k callerA)
    (F : ∀ base : Heap, K.In base → base.Ns mainGlobals mg → TabsIn mg base tabs → FnOk P w K mg base CX k fa fd ps sp) (hbind : ∀ (s : Shared) (us : List Value), us.length = ps.length → BindsTo s fd ⟨us, []⟩ (ps.zip us)) (hlen : ds.length = ps.length)
    (hsp : ∀ (H : Hp) (xs : List V), AtEntry K tabs H → DwAll K H xs ds → sp xs H (fun v H' => Dw K H' v d0) fun _ _ _ => False)
    (hCX : ∀ H e s', CX [] H s₁ (fun _ _ _ => False) e s' → False) :
    codeAny (model P w) callerA (.call (.ref fa) ⟨vals, []⟩) (fun r s' => ∃ u as, r = .ok (.ret u) ∧ ReadsW R cl s'.heap u d0 as ∧ OldK s₁.heap s'.heap ∧ s'.os = s₁.os ∧ AllBare s'.gens) s₁ := by
  obtain ⟨A, ho, ar⟩ := area_all ds vals hwl hpl hwt
  have hO0 : OnlyF (argH K s₁.heap A) := argH_only ar
  have hok0 : HOk P w (argH K s₁.heap A) s₁.heap := argH_ok ar
  have hS0 := dw_all KX ar ds vals hwl hpl ho
  have hV := vals_toV ho
  have hK0 : ∀ b u, argH K s₁.heap A b = some u → K.lookup b = none := fun b u q => (argH_is ar q).1
  have cls0 : ∀ b u, argH K s₁.heap A b = some u → ∃ o, s₁.heap.get? b = some o ∧ (o.cls = .type "list" ∨ o.cls = .type "tuple") ∧ ∃ vs n, o.data = .seq vs n := fun b u q => by
    obtain ⟨_, vs, _, _, ⟨e, _⟩ | ⟨e, _⟩⟩ := argH_is ar q
    · exact ⟨_, e, .inl rfl, _, _, rfl⟩
    · exact ⟨_, e, .inr rfl, _, _, rfl⟩
  have hT0 : ∀ q ∈ tabs, argH K s₁.heap A q.2 = none := fun q hq => by
    cases e : argH K s₁.heap A q.2 with
    | none => rfl
    | some u =>
      obtain ⟨o, e1, e2, _⟩ := cls0 _ _ e
      rw [(hTabs q hq).2] at e1
      cases e1
      rcases e2 with e2 | e2 <;> cases e2
  generalize argH K s₁.heap A = H0 at hO0 hok0 hS0 hK0 cls0 hT0
  have hat : ∀ {b : Addr}, b ∈ tabs.map (·.2) → s₁.heap.get? b = some (tabObj #[]) := fun {b} m => by
    obtain ⟨q, hq, rfl⟩ := List.mem_map.mp m
    exact (hTabs q hq).2
  have hS := dwAll_mono hT0 hS0
  have hE : AtEntry K tabs (argT2 tabs H0) := ⟨fun q hq => if_pos (List.mem_map_of_mem hq), hKT⟩
  have out : ∀ b, b ∉ tabs.map (·.2) → argT2 tabs H0 b = H0 b := fun b m => if_neg m
  have inn : ∀ b, b ∈ tabs.map (·.2) → argT2 tabs H0 b = some (.tbl #[]) := fun b m => if_pos m
  have hok : HOk P w (argT2 tabs H0) s₁.heap := fun b u q => by
    by_cases m : b ∈ tabs.map (·.2)
    · rw [inn b m] at q
      cases q
      exact hat m
    · rw [out b m] at q
      refine (hok0 b u q).stay (fun c v _ r => r) (fun c r => ?_) fun c xs r => ?_
      · rcases hO0 c with z | ⟨_, _, z⟩ <;> (rw [z] at r; cases r)
      · rcases hO0 c with z | ⟨_, _, z⟩ <;> (rw [z] at r; cases r)
  have hO : ∀ b, argT2 tabs H0 b = none ∨ (∃ o u, argT2 tabs H0 b = some (.frz o u)) ∨ (b ∈ tabs.map (·.2) ∧ argT2 tabs H0 b = some (.tbl #[])) := fun b => by
    by_cases m : b ∈ tabs.map (·.2)
    · exact .inr (.inr ⟨m, inn b m⟩)
    · rw [out b m]
      rcases hO0 b with z | z
      · exact .inl z
      · exact .inr (.inl z)
  have nK : ∀ b o, K.lookup b = some o → argT2 tabs H0 b = none := fun b o e => by
    have m : b ∉ tabs.map (·.2) := fun m => by
      obtain ⟨q, hq, rfl⟩ := List.mem_map.mp m
      rw [hKT q hq] at e; cases e
    rw [out b m]
    cases q : H0 b with
    | none => rfl
    | some u => rw [hK0 b u q] at e; cases e
  have noA : ∀ {b : Addr} {o : Obj}, s₁.heap.get? b = some o → o ≠ tabObj #[] → (∀ vs n, o.data ≠ .seq vs n) → argT2 tabs H0 b = none := fun {b o} e c d => by
    have m : b ∉ tabs.map (·.2) := fun m => by
      rw [hat m] at e; cases e; exact c rfl
    rw [out b m]
    cases q : H0 b with
    | none => rfl
    | some u =>
      obtain ⟨o', e1, _, vs, n, e2⟩ := cls0 _ _ q
      rw [e] at e1; cases e1
      exact absurd e2 (d vs n)
  generalize argT2 tabs H0 = H at hok hS hE hO nK noA inn
  have base_of : ∀ {b : Addr} {o : Obj}, s₁.heap.get? b = some o → H b = none → (hidT s₁.heap H).get? b = some o := fun e n => hidT_get e n
  have nsN : ∀ {b : Addr} {o : Obj} {es : Array DictEntry} {ep : Nat}, s₁.heap.get? b = some o → o.data = .dict es ep → H b = none := fun {b o es ep} e d =>
    noA e (fun z => by rw [z] at d; cases d) fun vs n q => by rw [d] at q; cases q
  have nsK : ∀ {b : Addr} {m : Str → Option Value}, s₁.heap.Ns b m → (hidT s₁.heap H).Ns b m := fun {b m} ⟨o, es, ep, e, d, r⟩ => ⟨o, es, ep, base_of e (nsN e d), d, r⟩
  have hKb : K.In (hidT s₁.heap H) := fun b o e => base_of (KX b o e) (nK b o e)
  have hM : Mod K mg (hidT s₁.heap H) := ⟨hKb, nsK hns, ⟨mb, nsK hb, hbb⟩, let ⟨mc, h1, h2⟩ := hlim; ⟨mc, nsK h1, h2⟩⟩
  have e0 : Env0 P w K mg (hidT s₁.heap H) callerA [] s₁ H := ⟨rfl, hM, fun b o e => of_hidT e, Nat.le_of_eq (hidT_size _ _), trivial, fun b hb => absurd (show b ∈ ([] : List Addr) from hb) (by simp), hok, .of_eq hg⟩
  have hl : vals.length = ps.length := by rw [wellAll_len hwl]; exact hlen
  have hTI : TabsIn mg (hidT s₁.heap H) tabs := by
    refine ⟨fun q hq => ?_, fun q hq => ?_, fun q hq => ?_⟩
    · obtain ⟨o, vs, file, tf, flags, tg, inF, text, tt, e1, r1, r2, r⟩ := (hTabs q hq).1
      exact ⟨o, vs, file, tf, flags, tg, inF, text, tt, base_of e1 (noA e1 (fun z => by rw [z] at r1; cases r1) fun vs n z => by rw [r2] at z; cases z), r1, r2, r⟩
    · obtain ⟨bm, ob, b1, b2, b3, b4, b5, b6⟩ := hbm
      refine ⟨bm, ob, b1, b2, fun z => ?_, fun z => ?_, base_of b3 (noA b3 (fun z => by rw [z] at b4; cases b4) fun vs n z => by rw [b6] at z; cases z), b4, b5, b6⟩
      · obtain ⟨o, es, ep, e, d, _⟩ := hns
        rw [← z, b3] at e; cases e; rw [b6] at d; cases d
      · rw [z, (hTabs q hq).2] at b3; cases b3; cases b4
    · cases e : (hidT s₁.heap H).get? q.2 with
      | none => rfl
      | some o =>
        have z := (of_hidT e).2
        rw [hE.tab q hq] at z; cases z
  refine codeAny_mono ((F _ hKb (nsK hns) hTI).run callerA [] s₁ H ⟨vals, []⟩ vals (vals.map toV) _ _ hr e0 (hbind s₁ vals hl) hV (hsp H _ hE hS)) fun r s' x => ?_
  cases r with
  | error e => exact (hCX H e s' x).elim
  | ok fl =>
    cases fl with
    | next => exact False.elim x
    | brk => exact False.elim x
    | cont => exact False.elim x
    | ret u =>
      obtain ⟨v, H', os, bare, un, hok', r', q⟩ := x
      have kept : ∀ b o, b ∉ tabs.map (·.2) → s₁.heap.get? b = some o → s'.heap.get? b = some o := fun b o m e => by
        rcases hO b with z | ⟨ob, u3, z⟩ | ⟨m', _⟩
        · exact un.keep b o e z (by intro z; exact absurd (show b ∈ ([] : List Addr) from z) (by simp)) (by simp)
        · have z2 := un.frzs b ob _ z
          obtain ⟨e1, _⟩ := hok b _ z
          obtain ⟨e2, _⟩ := hok' b _ z2
          rw [e] at e1
          cases e1
          exact e2
        · exact absurd m' m
      have KX' : K.In s'.heap := fun b o e => kept b o (fun m => by
        obtain ⟨q, hq, rfl⟩ := List.mem_map.mp m
        rw [hKT q hq] at e; cases e) (KX b o e)
      obtain ⟨as, hrd⟩ := Dw.reads (R := R) (cl := cl) hok' KX' d0 v u q r'
      have grown : ∀ q ∈ tabs, ∃ more, s'.heap.get? q.2 = some (tabObj (#[] ++ more)) := fun q hq => by
        obtain ⟨more, e⟩ := un.tbls q.2 _ (hE.tab q hq)
        exact ⟨more, hok' _ _ e⟩
      have old : OldK s₁.heap s'.heap := by
        refine ⟨fun b o e => ?_, fun b o e => ?_⟩
        · by_cases m : b ∈ tabs.map (·.2)
          · obtain ⟨q, hq, rfl⟩ := List.mem_map.mp m
            obtain ⟨more, e2⟩ := grown q hq
            have e1 := (hTabs q hq).2
            rw [e] at e1
            cases e1
            exact .inr (.inl ⟨((hTabs q hq).1.tab (hTabs q hq).2).isCodeTable, rfl, #[], more, rfl, e2⟩)
          · exact .inl (kept b o m e)
        · by_cases m : b ∈ tabs.map (·.2)
          · obtain ⟨q, hq, rfl⟩ := List.mem_map.mp m
            obtain ⟨more, e2⟩ := grown q hq
            exact ⟨_, e2⟩
          · exact ⟨o, kept b o m e⟩
      exact ⟨u, as, rfl, hrd, old, os, bare⟩
theorem walk_specT {r : OpenSpec} {k : Nat} {q : Program} {loose : List Str} {XP : (Str → Option Value) → Heap → Prop} {YP : World → Heap → Prop} {d : DefRec} {K : Params → PySem.W.Frag} {CX : CXT} {ps : List Str} {sp : PySem.W.Frag → Sp} {tabs : Params → List (Addr × Addr)}
    (hwell : r.wellSaid = true) (hdf : d.params.defaults = []) (hlen : r.args.length = ps.length) (hr : Room k callerA)
    (hY : ∀ (w : World) (h : Heap), YP w h → (K w.params).In h)
    (hT : ∀ (w : World) (mean : ExcName → Option Value) (mg mb : Str → Option Value) (h : Heap), Top q (PySem.W.looseW q loose) mean mg mb h → (K w.params).In h → TabsAt (tabs w.params) h)
    (hKT : ∀ (pm : Params), ∀ t ∈ tabs pm, (K pm).lookup t.2 = none)
    (F : ∀ (w : World) (mg : Str → Option Value) (fa : Addr) (h : Heap), YP w h → (K w.params).In h → h.Ns mainGlobals mg → mg d.name = some (.ref fa) →
      ∃ fd : FuncData, (∀ (s : Shared) (us : List Value), us.length = ps.length → BindsTo s fd ⟨us, []⟩ (ps.zip us)) ∧
        ∀ base : Heap, (K w.params).In base → base.Ns mainGlobals mg → TabsIn mg base (tabs w.params) → FnOk r.prog w (K w.params) mg base CX k fa fd ps (sp (K w.params)))
    (hsp : ∀ (pm : Params) (H : Hp) (xs : List V) (a : Codec.denoteAll r.args), AtEntry (K pm) (tabs pm) H → Codec.withinAll r.args a = true → Codec.app r.args r.asked a = true → DwAll (K pm) H xs (Codec.encAll r.args a) →
      sp (K pm) xs H (fun v H' => Dw (K pm) H' v (r.ret.enc (Codec.app r.args r.f a))) fun _ _ _ => False)
    (hCX : ∀ (H : Hp) (s : Shared) (e : Value) (s' : Shared), CX [] H s (fun _ _ _ => False) e s' → False) :
    PySem.W.WalkOS q loose XP YP r d [] (fun f vs => PySem.call f vs) := by
  intro w s_0 s₁ mg mb G Y fa o pm cd doc dV kV ho hd hcd hD hmg hg args vals as hpre hlay hrd hwl hlo
  obtain ⟨a, e1, e2⟩ := PySem.W.os_pre_some hpre
  obtain ⟨e3, hwi⟩ := Codec.encAll_of_decAll r.args args a e1
  subst e3
  have KX := hY w _ Y
  obtain ⟨fd, hb, hF⟩ := F w mg fa _ Y KX G.T.g hmg
  refine PySem.W.enter_call (codeAny_mono (spec_callT (R := []) (cl := classAt s_0.heap) (d0 := r.ret.enc (Codec.app r.args r.f a)) KX G.T.g G.T.b G.T.builtins G.T.nolimit hg (hT w _ mg mb _ G.T KX) (hKT w.params) G.T.bmain hwl (pl_encAll _ _) (layable_weight hlay) hr hF hb (by rw [encAll_len]; exact hlen)
    (fun H xs hO hS => hsp w.params H xs a hO hwi e2 hS) fun H e s' => hCX H s₁ e s') fun r' s' hq => ?_)
  obtain ⟨u, as', rfl, h1, h2, h3, h4⟩ := hq
  exact ⟨.inl ⟨u, _, as', rfl, fun _ => rfl, h1, (OpenSpec.post_iff hwell hwi _ _).mpr rfl, fun z => Bool.noConfusion (show false = true from z)⟩, h2, h3, h4⟩
end Cv
end
section
namespace Cv
open PySem PySem.Spec PyProof.Rows L2 HT
def shTab : List (Nat × Bool) := [(1, false), (3, false), (1, false), (2, false), (1, false), (1, false), (2, false), (0, false), (0, false), (0, false), (0, false), (0, true), (0, true), (1, true), (1, true), (1, true), (0, true), (1, false), (1, false), (1, false), (1, false), (1, false), (0, false), (0, false)]
theorem shTab_ok : ∀ p : Fin 24, (shTab[p.val]?).map (fun x => (x.1, if x.2 then 1 else 0)) = PyKv365.shape ((p.val : Nat) : Int) := by decide
theorem shapes_of {es : List Ent} (h : es.map (fun e => (e.n, e.b)) = shTab) : Shapes es := by
  have hl : es.length = 24 := by
    have := congrArg List.length h
    rw [List.length_map] at this
    exact this
  refine ⟨hl, fun p e he => ?_⟩
  have hp : p < 24 := by rw [← hl]; exact (List.getElem?_eq_some_iff.mp he).1
  have h1 := shTab_ok ⟨p, hp⟩
  have h2 : shTab[p]? = some (e.n, e.b) := by rw [← h, List.getElem?_map, he]; rfl
  rw [← h1]
  show (shTab[p]?).map _ = _
  rw [h2]; rfl
end Cv
end
section
namespace Cv
open PySem PySem.Spec PyProof.Rows L2 HT
open PySem.W (CodeHd)
section
variable {K : PySem.W.Frag} {mg : Str → Option Value} {h : Heap}
structure TopIn (K : PySem.W.Frag) (mg : Str → Option Value) (x : Str) (st : Stmt) (f : Addr) (fd : FuncData) : Prop where
  fn : Fun K x x st f fd
  mg : mg x = some (.ref f)
theorem topIn {x : Str} {st : Stmt} {f : Addr} {oc kV dc pm cd ct : Value} {od an : Option Addr} {sl : Array (Option Value)} (X : K.In h) (G : h.Ns mainGlobals mg) (a : PySem.W.nsIn K mainGlobals x = some (some (.ref f)))
    (l : K.lookup f = some ⟨oc, od, .func (PySem.W.fnOf x x (defArgs st) (defBody st) (defScope st) .none kV dc pm an cd ct), sl⟩) (c : PySem.W.codeIn K cd x = true) (k : PySem.W.keepIn K (.ref f) = true) :
    TopIn K mg x st f (PySem.W.fnOf x x (defArgs st) (defBody st) (defScope st) .none kV dc pm an cd ct) := ⟨fun_mk l c k, PySem.W.mg_of X G a⟩
structure MethIn (K : PySem.W.Frag) (C : Addr) (m qual : Str) (st : Stmt) (f : Addr) (fd : FuncData) : Prop where
  fn : Fun K m qual st f fd
  me : Meth K C m f
theorem methIn {C : Addr} {m qual : Str} {st : Stmt} {f : Addr} {oc kV dc pm cd ct : Value} {od an : Option Addr} {sl : Array (Option Value)} (a : PySem.W.findIn K (.ref C) m = some (some (.ref f))) (i : PySem.W.isFn K (.ref f) = true)
    (l : K.lookup f = some ⟨oc, od, .func (PySem.W.fnOf m qual (defArgs st) (defBody st) (defScope st) .none kV dc pm an cd ct), sl⟩) (c : PySem.W.codeIn K cd qual = true) (k : PySem.W.keepIn K (.ref f) = true) :
    MethIn K C m qual st f (PySem.W.fnOf m qual (defArgs st) (defBody st) (defScope st) .none kV dc pm an cd ct) := ⟨fun_mk l c k, a, i, k⟩
structure ClsIn (K : PySem.W.Frag) (mg : Str → Option Value) (x : Str) (C fI : Addr) : Prop where
  cl : Cls K C
  mak : Mk K C fI
  mg : mg x = some (.ref C)
theorem clsIn {x : Str} {C fI : Addr} (X : K.In h) (G : h.Ns mainGlobals mg) (g : PySem.W.nsIn K mainGlobals x = some (some (.ref C))) (pg : PySem.W.plainGet K C Str.empty = true) (hd : PySem.W.hasDictIn K C = true) (po : PySem.W.plainOver K C = true)
    (sa : PySem.W.findIn K (.ref C) "__setattr__" = some (some (.builtin "object.__setattr__"))) (mk : PySem.W.makesIn K C = true) (ini : PySem.W.findIn K (.ref C) "__init__" = some (some (.ref fI))) (ifn : PySem.W.isFn K (.ref fI) = true) (kc : PySem.W.keepIn K (.ref C) = true) : ClsIn K mg x C fI :=
  ⟨⟨pg, hd, po, sa⟩, ⟨mk, ini, ifn, kc⟩, PySem.W.mg_of X G g⟩
def NumIn (_K : PySem.W.Frag) (mg : Str → Option Value) (x : Str) (z : Int) : Prop := ∃ u, mg x = some u ∧ RelV (.int z) u
theorem numIn {x : Str} {z : Int} {t : Tok} (X : K.In h) (G : h.Ns mainGlobals mg) (a : PySem.W.nsIn K mainGlobals x = some (some (.int z t))) : NumIn K mg x z := ⟨_, PySem.W.mg_of X G a, t, rfl⟩
theorem tupIn {a : Addr} {od : Option Addr} {its : List Value} {n : Nat} {sl : Array (Option Value)} {xs : List V} (l : K.lookup a = some ⟨.type "tuple", od, .seq its.toArray n, sl⟩) (v : Vals xs its) (hz : Nat.ble xs.length 1000 = true := by exact rfl) : TupK K a xs :=
  ⟨_, its.toArray, n, l, rfl, rfl, by have := Nat.le_of_ble_eq_true hz; rw [v.length] at this; rw [List.size_toArray, sizeLine_eq]; omega, v⟩
theorem relInt {z : Int} {t : Tok} : RelV (.int z) (.int z t) := ⟨t, rfl⟩
theorem tab_code {x : Str} {st : Stmt} {f c P : Addr} {fd : FuncData} (X : K.In h) (G : h.Ns mainGlobals mg) (D : TopIn K mg x st f fd) (ht : PySem.W.tabIn K x = some (c, P)) : fd.code = .ref c := by
  obtain ⟨oc, od, kV, doc, pm, an, cdv, ct, osl, e, lk, hcd⟩ := D.fn.ex
  exact PySem.W.law_code X G ht D.mg (X _ _ lk) rfl
end
theorem all_mk {P : Program} {w : World} {K : PySem.W.Frag} {h : Heap} {mg : Str → Option Value} {fa ct cB Pt CS CG CC fStInit fCovers fGInit fTwin fRockCount fBegun fHasStation fHasStretch fIsSite fSites fSitesOf fGBegin fGLow fGDrop fGWater fGRock fGPrice fCInit fRises fCulverts fHasOne fTheyDo fSomeDo fByEnds fSkipped fBest fLeast fFewestRow fAreApart fApartN fPay fMissed fIsRoom fSpans fTooMuch fAllGoes fShares fLeastRoom fFewCarry fCounted fCanTake fHBegin fHLow fHDrop fHWater fHRock fHNorock fHPrice fHFewest fHApart fHCheapest fHPays fHHits fHMissed fHCarries fHWhy fHShare fHLeastroom fHFewestfor fHWithout fHIfrock fHAt fHLook fHByend fHState fRead fAnswer fAnswers eHBegin eHLow eHDrop eHWater eHRock eHNorock eHPrice eHFewest eHApart eHCheapest eHPays eHHits eHMissed eHCarries eHWhy eHShare eHLeastroom eHFewestfor eHWithout eHIfrock eHAt eHLook eHByend eHState : Addr} {fdStInit fdCovers fdGInit fdTwin fdRockCount fdBegun fdHasStation fdHasStretch fdIsSite fdSites fdSitesOf fdGBegin fdGLow fdGDrop fdGWater fdGRock fdGPrice fdCInit fdRises fdCulverts fdHasOne fdTheyDo fdSomeDo fdByEnds fdSkipped fdBest fdLeast fdFewestRow fdAreApart fdApartN fdPay fdMissed fdIsRoom fdSpans fdTooMuch fdAllGoes fdShares fdLeastRoom fdFewCarry fdCounted fdCanTake fdHBegin fdHLow fdHDrop fdHWater fdHRock fdHNorock fdHPrice fdHFewest fdHApart fdHCheapest fdHPays fdHHits fdHMissed fdHCarries fdHWhy fdHShare fdHLeastroom fdHFewestfor fdHWithout fdHIfrock fdHAt fdHLook fdHByend fdHState fdRead fdAnswer fdAnswers : FuncData} (X : K.In h) (G : h.Ns mainGlobals mg) (hfa : mg "answers" = some (.ref fa))
    (cS : ClsIn K mg "Stretch" CS fStInit)
    (nS0 : PySem.W.findIn K (.ref CS) "first" = some none)
    (nS1 : PySem.W.findIn K (.ref CS) "last" = some none)
    (nS2 : PySem.W.findIn K (.ref CS) "flow" = some none)
    (mStInit : MethIn K CS "__init__" "Stretch.__init__" sStInit fStInit fdStInit)
    (mCovers : MethIn K CS "covers" "Stretch.covers" sCovers fCovers fdCovers)
    (cG : ClsIn K mg "Ground" CG fGInit)
    (nG0 : PySem.W.findIn K (.ref CG) "rocky" = some none)
    (nG1 : PySem.W.findIn K (.ref CG) "prices" = some none)
    (nG2 : PySem.W.findIn K (.ref CG) "stretches" = some none)
    (mGInit : MethIn K CG "__init__" "Ground.__init__" sGInit fGInit fdGInit)
    (mTwin : MethIn K CG "twin" "Ground.twin" sTwin fTwin fdTwin)
    (mRockCount : MethIn K CG "rock_count" "Ground.rock_count" sRockCount fRockCount fdRockCount)
    (mBegun : MethIn K CG "is_begun" "Ground.is_begun" sBegun fBegun fdBegun)
    (mHasStation : MethIn K CG "has_station" "Ground.has_station" sHasStation fHasStation fdHasStation)
    (mHasStretch : MethIn K CG "has_stretch" "Ground.has_stretch" sHasStretch fHasStretch fdHasStretch)
    (mIsSite : MethIn K CG "is_site" "Ground.is_site" sIsSite fIsSite fdIsSite)
    (mSites : MethIn K CG "sites" "Ground.sites" sSites fSites fdSites)
    (mSitesOf : MethIn K CG "sites_of" "Ground.sites_of" sSitesOf fSitesOf fdSitesOf)
    (mGBegin : MethIn K CG "begin" "Ground.begin" sGBegin fGBegin fdGBegin)
    (mGLow : MethIn K CG "low" "Ground.low" sGLow fGLow fdGLow)
    (mGDrop : MethIn K CG "drop" "Ground.drop" sGDrop fGDrop fdGDrop)
    (mGWater : MethIn K CG "water" "Ground.water" sGWater fGWater fdGWater)
    (mGRock : MethIn K CG "set_rock" "Ground.set_rock" sGRock fGRock fdGRock)
    (mGPrice : MethIn K CG "price" "Ground.price" sGPrice fGPrice fdGPrice)
    (cC : ClsIn K mg "Call" CC fCInit)
    (nC0 : PySem.W.findIn K (.ref CC) "number" = some none)
    (nC1 : PySem.W.findIn K (.ref CC) "numbers" = some none)
    (nC2 : PySem.W.findIn K (.ref CC) "row" = some none)
    (nC3 : PySem.W.findIn K (.ref CC) "behind" = some none)
    (mCInit : MethIn K CC "__init__" "Call.__init__" sCInit fCInit fdCInit)
    (dRises : TopIn K mg "rises" sRises fRises fdRises)
    (dCulverts : TopIn K mg "are_culverts" sCulverts fCulverts fdCulverts)
    (dHasOne : TopIn K mg "has_one" sHasOne fHasOne fdHasOne)
    (dTheyDo : TopIn K mg "they_do" sTheyDo fTheyDo fdTheyDo)
    (dSomeDo : TopIn K mg "some_do" sSomeDo fSomeDo fdSomeDo)
    (dByEnds : TopIn K mg "by_ends" sByEnds fByEnds fdByEnds)
    (dSkipped : TopIn K mg "is_skipped" sSkipped fSkipped fdSkipped)
    (dBest : TopIn K mg "best_behind" sBest fBest fdBest)
    (dLeast : TopIn K mg "least_row" sLeast fLeast fdLeast)
    (dFewestRow : TopIn K mg "fewest_row" sFewestRow fFewestRow fdFewestRow)
    (dAreApart : TopIn K mg "are_apart" sAreApart fAreApart fdAreApart)
    (dApartN : TopIn K mg "apart_numbers" sApart fApartN fdApartN)
    (dPay : TopIn K mg "payments" sPay fPay fdPay)
    (dMissed : TopIn K mg "missed_numbers" sMissed fMissed fdMissed)
    (dIsRoom : TopIn K mg "is_room" sIsRoom fIsRoom fdIsRoom)
    (dSpans : TopIn K mg "spans" sSpans fSpans fdSpans)
    (dTooMuch : TopIn K mg "too_much" sTooMuch fTooMuch fdTooMuch)
    (dAllGoes : TopIn K mg "all_goes" sAllGoes fAllGoes fdAllGoes)
    (dShares : TopIn K mg "shares" sShares fShares fdShares)
    (dLeastRoom : TopIn K mg "least_room" sLeastRoom fLeastRoom fdLeastRoom)
    (dFewCarry : TopIn K mg "fewest_carrying" sFewCarry fFewCarry fdFewCarry)
    (dCounted : TopIn K mg "counted" sCounted fCounted fdCounted)
    (dCanTake : TopIn K mg "can_take" sCanTake fCanTake fdCanTake)
    (dHBegin : TopIn K mg "begin" sHBegin fHBegin fdHBegin)
    (dHLow : TopIn K mg "low" sHLow fHLow fdHLow)
    (dHDrop : TopIn K mg "drop" sHDrop fHDrop fdHDrop)
    (dHWater : TopIn K mg "water" sHWater fHWater fdHWater)
    (dHRock : TopIn K mg "rock" sHRock fHRock fdHRock)
    (dHNorock : TopIn K mg "norock" sHNorock fHNorock fdHNorock)
    (dHPrice : TopIn K mg "price" sHPrice fHPrice fdHPrice)
    (dHFewest : TopIn K mg "fewest" sHFewest fHFewest fdHFewest)
    (dHApart : TopIn K mg "apart" sHApart fHApart fdHApart)
    (dHCheapest : TopIn K mg "cheapest" sHCheapest fHCheapest fdHCheapest)
    (dHPays : TopIn K mg "pays" sHPays fHPays fdHPays)
    (dHHits : TopIn K mg "hits" sHHits fHHits fdHHits)
    (dHMissed : TopIn K mg "missed" sHMissed fHMissed fdHMissed)
    (dHCarries : TopIn K mg "carries" sHCarries fHCarries fdHCarries)
    (dHWhy : TopIn K mg "why" sHWhy fHWhy fdHWhy)
    (dHShare : TopIn K mg "share" sHShare fHShare fdHShare)
    (dHLeastroom : TopIn K mg "leastroom" sHLeastroom fHLeastroom fdHLeastroom)
    (dHFewestfor : TopIn K mg "fewestfor" sHFewestfor fHFewestfor fdHFewestfor)
    (dHWithout : TopIn K mg "without" sHWithout fHWithout fdHWithout)
    (dHIfrock : TopIn K mg "ifrock" sHIfrock fHIfrock fdHIfrock)
    (dHAt : TopIn K mg "at" sHAt fHAt fdHAt)
    (dHLook : TopIn K mg "look" sHLook fHLook fdHLook)
    (dHByend : TopIn K mg "byend" sHByend fHByend fdHByend)
    (dHState : TopIn K mg "state" sHState fHState fdHState)
    (dRead : TopIn K mg "read_call" sRead fRead fdRead)
    (dAnswer : TopIn K mg "answer_call" sAnswer fAnswer fdAnswer)
    (dAnswers : TopIn K mg "answers" sAnswers fAnswers fdAnswers)
    (unoneSuch : NumIn K mg "NONE_SUCH" (-2))
    (unotBegun : NumIn K mg "NOT_BEGUN" (-11))
    (ualreadySo : NumIn K mg "ALREADY_SO" (-17))
    (uoutOfRange : NumIn K mg "OUT_OF_RANGE" (-22))
    (utooMany : NumIn K mg "TOO_MANY" (-28))
    (ucannotBe : NumIn K mg "CANNOT_BE" (-33))
    (ufewestStations : NumIn K mg "FEWEST_STATIONS" (2))
    (umostStations : NumIn K mg "MOST_STATIONS" (12))
    (umostStretches : NumIn K mg "MOST_STRETCHES" (8))
    (umostWater : NumIn K mg "MOST_WATER" (20))
    (umostPrice : NumIn K mg "MOST_PRICE" (9))
    (ubegin_ : NumIn K mg "BEGIN" (0))
    (umostRoom : NumIn K mg "MOST_ROOM" (160))
    (b_len : mg "len" = none)
    (b_range : mg "range" = none)
    (b_all : mg "all" = none)
    (b_any : mg "any" = none)
    (b_min : mg "min" = none)
    (b_sum : mg "sum" = none)
    (b_list : mg "list" = none)
    (b_sorted : mg "sorted" = none)
    (b_reversed : mg "reversed" = none)
    (b_enumerate : mg "enumerate" = none)
    (tC : mg "CALLS" = some (.ref ct))
    (tT : TupK K ct [.ref eHBegin, .ref eHLow, .ref eHDrop, .ref eHWater, .ref eHRock, .ref eHNorock, .ref eHPrice, .ref eHFewest, .ref eHApart, .ref eHCheapest, .ref eHPays, .ref eHHits, .ref eHMissed, .ref eHCarries, .ref eHWhy, .ref eHShare, .ref eHLeastroom, .ref eHFewestfor, .ref eHWithout, .ref eHIfrock, .ref eHAt, .ref eHLook, .ref eHByend, .ref eHState])
    (tHBegin : TupK K eHBegin [.ref fHBegin, .int ((1 : Nat) : Int), .bl false])
    (tHLow : TupK K eHLow [.ref fHLow, .int ((3 : Nat) : Int), .bl false])
    (tHDrop : TupK K eHDrop [.ref fHDrop, .int ((1 : Nat) : Int), .bl false])
    (tHWater : TupK K eHWater [.ref fHWater, .int ((2 : Nat) : Int), .bl false])
    (tHRock : TupK K eHRock [.ref fHRock, .int ((1 : Nat) : Int), .bl false])
    (tHNorock : TupK K eHNorock [.ref fHNorock, .int ((1 : Nat) : Int), .bl false])
    (tHPrice : TupK K eHPrice [.ref fHPrice, .int ((2 : Nat) : Int), .bl false])
    (tHFewest : TupK K eHFewest [.ref fHFewest, .int ((0 : Nat) : Int), .bl false])
    (tHApart : TupK K eHApart [.ref fHApart, .int ((0 : Nat) : Int), .bl false])
    (tHCheapest : TupK K eHCheapest [.ref fHCheapest, .int ((0 : Nat) : Int), .bl false])
    (tHPays : TupK K eHPays [.ref fHPays, .int ((0 : Nat) : Int), .bl false])
    (tHHits : TupK K eHHits [.ref fHHits, .int ((0 : Nat) : Int), .bl true])
    (tHMissed : TupK K eHMissed [.ref fHMissed, .int ((0 : Nat) : Int), .bl true])
    (tHCarries : TupK K eHCarries [.ref fHCarries, .int ((1 : Nat) : Int), .bl true])
    (tHWhy : TupK K eHWhy [.ref fHWhy, .int ((1 : Nat) : Int), .bl true])
    (tHShare : TupK K eHShare [.ref fHShare, .int ((1 : Nat) : Int), .bl true])
    (tHLeastroom : TupK K eHLeastroom [.ref fHLeastroom, .int ((0 : Nat) : Int), .bl true])
    (tHFewestfor : TupK K eHFewestfor [.ref fHFewestfor, .int ((1 : Nat) : Int), .bl false])
    (tHWithout : TupK K eHWithout [.ref fHWithout, .int ((1 : Nat) : Int), .bl false])
    (tHIfrock : TupK K eHIfrock [.ref fHIfrock, .int ((1 : Nat) : Int), .bl false])
    (tHAt : TupK K eHAt [.ref fHAt, .int ((1 : Nat) : Int), .bl false])
    (tHLook : TupK K eHLook [.ref fHLook, .int ((1 : Nat) : Int), .bl false])
    (tHByend : TupK K eHByend [.ref fHByend, .int ((0 : Nat) : Int), .bl false])
    (tHState : TupK K eHState [.ref fHState, .int ((0 : Nat) : Int), .bl false])
    (tab : PySem.W.tabIn K "by_ends" = some (cB, Pt)) :
    ∃ fd : FuncData, (∀ (s : Shared) (us : List Value), us.length = (["calls"] : List Str).length → BindsTo s fd ⟨us, []⟩ ((["calls"] : List Str).zip us)) ∧ ∀ base : Heap, K.In base → base.Ns mainGlobals mg → TabsIn mg base [(cB, Pt)] → FnOk P w K mg base CX0 12 fa fd ["calls"] (spAnswers Pt K) := by
  have e := hfa.symm.trans dAnswers.mg
  cases e
  have xStInit := mStInit.fn.binds (ps := ["self", "first", "last", "flow"]) fun _ _ _ _ _ _ us hl => match us, hl with | [_, _, _, _], _ => rfl
  have xCovers := mCovers.fn.binds (ps := ["self", "station"]) fun _ _ _ _ _ _ us hl => match us, hl with | [_, _], _ => rfl
  have xGInit := mGInit.fn.binds (ps := ["self"]) fun _ _ _ _ _ _ us hl => match us, hl with | [_], _ => rfl
  have xTwin := mTwin.fn.binds (ps := ["self"]) fun _ _ _ _ _ _ us hl => match us, hl with | [_], _ => rfl
  have xRockCount := mRockCount.fn.binds (ps := ["self"]) fun _ _ _ _ _ _ us hl => match us, hl with | [_], _ => rfl
  have xBegun := mBegun.fn.binds (ps := ["self"]) fun _ _ _ _ _ _ us hl => match us, hl with | [_], _ => rfl
  have xHasStation := mHasStation.fn.binds (ps := ["self", "station"]) fun _ _ _ _ _ _ us hl => match us, hl with | [_, _], _ => rfl
  have xHasStretch := mHasStretch.fn.binds (ps := ["self", "number"]) fun _ _ _ _ _ _ us hl => match us, hl with | [_, _], _ => rfl
  have xIsSite := mIsSite.fn.binds (ps := ["self", "station"]) fun _ _ _ _ _ _ us hl => match us, hl with | [_, _], _ => rfl
  have xSites := mSites.fn.binds (ps := ["self"]) fun _ _ _ _ _ _ us hl => match us, hl with | [_], _ => rfl
  have xSitesOf := mSitesOf.fn.binds (ps := ["self", "stretch"]) fun _ _ _ _ _ _ us hl => match us, hl with | [_, _], _ => rfl
  have xGBegin := mGBegin.fn.binds (ps := ["self", "stations"]) fun _ _ _ _ _ _ us hl => match us, hl with | [_, _], _ => rfl
  have xGLow := mGLow.fn.binds (ps := ["self", "first", "last", "flow"]) fun _ _ _ _ _ _ us hl => match us, hl with | [_, _, _, _], _ => rfl
  have xGDrop := mGDrop.fn.binds (ps := ["self", "number"]) fun _ _ _ _ _ _ us hl => match us, hl with | [_, _], _ => rfl
  have xGWater := mGWater.fn.binds (ps := ["self", "number", "flow"]) fun _ _ _ _ _ _ us hl => match us, hl with | [_, _, _], _ => rfl
  have xGRock := mGRock.fn.binds (ps := ["self", "station", "there"]) fun _ _ _ _ _ _ us hl => match us, hl with | [_, _, _], _ => rfl
  have xGPrice := mGPrice.fn.binds (ps := ["self", "station", "cost"]) fun _ _ _ _ _ _ us hl => match us, hl with | [_, _, _], _ => rfl
  have xCInit := mCInit.fn.binds (ps := ["self", "number", "numbers", "row", "behind"]) fun _ _ _ _ _ _ us hl => match us, hl with | [_, _, _, _, _], _ => rfl
  have xRises := dRises.fn.binds (ps := ["row"]) fun _ _ _ _ _ _ us hl => match us, hl with | [_], _ => rfl
  have xCulverts := dCulverts.fn.binds (ps := ["ground", "row"]) fun _ _ _ _ _ _ us hl => match us, hl with | [_, _], _ => rfl
  have xHasOne := dHasOne.fn.binds (ps := ["stretch", "row"]) fun _ _ _ _ _ _ us hl => match us, hl with | [_, _], _ => rfl
  have xTheyDo := dTheyDo.fn.binds (ps := ["ground", "row"]) fun _ _ _ _ _ _ us hl => match us, hl with | [_, _], _ => rfl
  have xSomeDo := dSomeDo.fn.binds (ps := ["ground"]) fun _ _ _ _ _ _ us hl => match us, hl with | [_], _ => rfl
  have xByEnds := dByEnds.fn.binds (ps := ["stretches"]) fun _ _ _ _ _ _ us hl => match us, hl with | [_], _ => rfl
  have xSkipped := dSkipped.fn.binds (ps := ["stretches", "left", "right"]) fun _ _ _ _ _ _ us hl => match us, hl with | [_, _, _], _ => rfl
  have xBest := dBest.fn.binds (ps := ["ground", "tails", "station"]) fun _ _ _ _ _ _ us hl => match us, hl with | [_, _, _], _ => rfl
  have xLeast := dLeast.fn.binds (ps := ["ground", "costs"]) fun _ _ _ _ _ _ us hl => match us, hl with | [_, _], _ => rfl
  have xFewestRow := dFewestRow.fn.binds (ps := ["ground"]) fun _ _ _ _ _ _ us hl => match us, hl with | [_], _ => rfl
  have xAreApart := dAreApart.fn.binds (ps := ["ground", "one", "other"]) fun _ _ _ _ _ _ us hl => match us, hl with | [_, _, _], _ => rfl
  have xApartN := dApartN.fn.binds (ps := ["ground"]) fun _ _ _ _ _ _ us hl => match us, hl with | [_], _ => rfl
  have xPay := dPay.fn.binds (ps := ["ground"]) fun _ _ _ _ _ _ us hl => match us, hl with | [_], _ => rfl
  have xMissed := dMissed.fn.binds (ps := ["ground", "row"]) fun _ _ _ _ _ _ us hl => match us, hl with | [_, _], _ => rfl
  have xIsRoom := dIsRoom.fn.binds (ps := ["room"]) fun _ _ _ _ _ _ us hl => match us, hl with | [_], _ => rfl
  have xSpans := dSpans.fn.binds (ps := ["ground", "row"]) fun _ _ _ _ _ _ us hl => match us, hl with | [_, _], _ => rfl
  have xTooMuch := dTooMuch.fn.binds (ps := ["ground", "room", "row"]) fun _ _ _ _ _ _ us hl => match us, hl with | [_, _, _], _ => rfl
  have xAllGoes := dAllGoes.fn.binds (ps := ["ground", "room", "row"]) fun _ _ _ _ _ _ us hl => match us, hl with | [_, _, _], _ => rfl
  have xShares := dShares.fn.binds (ps := ["ground", "room", "row"]) fun _ _ _ _ _ _ us hl => match us, hl with | [_, _, _], _ => rfl
  have xLeastRoom := dLeastRoom.fn.binds (ps := ["ground", "row"]) fun _ _ _ _ _ _ us hl => match us, hl with | [_, _], _ => rfl
  have xFewCarry := dFewCarry.fn.binds (ps := ["ground", "room"]) fun _ _ _ _ _ _ us hl => match us, hl with | [_, _], _ => rfl
  have xCounted := dCounted.fn.binds (ps := ["found"]) fun _ _ _ _ _ _ us hl => match us, hl with | [_], _ => rfl
  have xCanTake := dCanTake.fn.binds (ps := ["ground", "room", "row"]) fun _ _ _ _ _ _ us hl => match us, hl with | [_, _, _], _ => rfl
  have xHBegin := dHBegin.fn.binds (ps := ["ground", "numbers", "row"]) fun _ _ _ _ _ _ us hl => match us, hl with | [_, _, _], _ => rfl
  have xHLow := dHLow.fn.binds (ps := ["ground", "numbers", "row"]) fun _ _ _ _ _ _ us hl => match us, hl with | [_, _, _], _ => rfl
  have xHDrop := dHDrop.fn.binds (ps := ["ground", "numbers", "row"]) fun _ _ _ _ _ _ us hl => match us, hl with | [_, _, _], _ => rfl
  have xHWater := dHWater.fn.binds (ps := ["ground", "numbers", "row"]) fun _ _ _ _ _ _ us hl => match us, hl with | [_, _, _], _ => rfl
  have xHRock := dHRock.fn.binds (ps := ["ground", "numbers", "row"]) fun _ _ _ _ _ _ us hl => match us, hl with | [_, _, _], _ => rfl
  have xHNorock := dHNorock.fn.binds (ps := ["ground", "numbers", "row"]) fun _ _ _ _ _ _ us hl => match us, hl with | [_, _, _], _ => rfl
  have xHPrice := dHPrice.fn.binds (ps := ["ground", "numbers", "row"]) fun _ _ _ _ _ _ us hl => match us, hl with | [_, _, _], _ => rfl
  have xHFewest := dHFewest.fn.binds (ps := ["ground", "numbers", "row"]) fun _ _ _ _ _ _ us hl => match us, hl with | [_, _, _], _ => rfl
  have xHApart := dHApart.fn.binds (ps := ["ground", "numbers", "row"]) fun _ _ _ _ _ _ us hl => match us, hl with | [_, _, _], _ => rfl
  have xHCheapest := dHCheapest.fn.binds (ps := ["ground", "numbers", "row"]) fun _ _ _ _ _ _ us hl => match us, hl with | [_, _, _], _ => rfl
  have xHPays := dHPays.fn.binds (ps := ["ground", "numbers", "row"]) fun _ _ _ _ _ _ us hl => match us, hl with | [_, _, _], _ => rfl
  have xHHits := dHHits.fn.binds (ps := ["ground", "numbers", "row"]) fun _ _ _ _ _ _ us hl => match us, hl with | [_, _, _], _ => rfl
  have xHMissed := dHMissed.fn.binds (ps := ["ground", "numbers", "row"]) fun _ _ _ _ _ _ us hl => match us, hl with | [_, _, _], _ => rfl
  have xHCarries := dHCarries.fn.binds (ps := ["ground", "numbers", "row"]) fun _ _ _ _ _ _ us hl => match us, hl with | [_, _, _], _ => rfl
  have xHWhy := dHWhy.fn.binds (ps := ["ground", "numbers", "row"]) fun _ _ _ _ _ _ us hl => match us, hl with | [_, _, _], _ => rfl
  have xHShare := dHShare.fn.binds (ps := ["ground", "numbers", "row"]) fun _ _ _ _ _ _ us hl => match us, hl with | [_, _, _], _ => rfl
  have xHLeastroom := dHLeastroom.fn.binds (ps := ["ground", "numbers", "row"]) fun _ _ _ _ _ _ us hl => match us, hl with | [_, _, _], _ => rfl
  have xHFewestfor := dHFewestfor.fn.binds (ps := ["ground", "numbers", "row"]) fun _ _ _ _ _ _ us hl => match us, hl with | [_, _, _], _ => rfl
  have xHWithout := dHWithout.fn.binds (ps := ["ground", "numbers", "row"]) fun _ _ _ _ _ _ us hl => match us, hl with | [_, _, _], _ => rfl
  have xHIfrock := dHIfrock.fn.binds (ps := ["ground", "numbers", "row"]) fun _ _ _ _ _ _ us hl => match us, hl with | [_, _, _], _ => rfl
  have xHAt := dHAt.fn.binds (ps := ["ground", "numbers", "row"]) fun _ _ _ _ _ _ us hl => match us, hl with | [_, _, _], _ => rfl
  have xHLook := dHLook.fn.binds (ps := ["ground", "numbers", "row"]) fun _ _ _ _ _ _ us hl => match us, hl with | [_, _, _], _ => rfl
  have xHByend := dHByend.fn.binds (ps := ["ground", "numbers", "row"]) fun _ _ _ _ _ _ us hl => match us, hl with | [_, _, _], _ => rfl
  have xHState := dHState.fn.binds (ps := ["ground", "numbers", "row"]) fun _ _ _ _ _ _ us hl => match us, hl with | [_, _, _], _ => rfl
  have xRead := dRead.fn.binds (ps := ["calls", "place"]) fun _ _ _ _ _ _ us hl => match us, hl with | [_, _], _ => rfl
  have xAnswer := dAnswer.fn.binds (ps := ["ground", "call"]) fun _ _ _ _ _ _ us hl => match us, hl with | [_, _], _ => rfl
  have xAnswers := dAnswers.fn.binds (ps := ["calls"]) fun _ _ _ _ _ _ us hl => match us, hl with | [_], _ => rfl
  have TS : TxtS K mg CS := ⟨cS.cl, nS0, nS1, nS2, cS.mg⟩
  have TG : TxtG K mg CG := ⟨cG.cl, nG0, nG1, nG2, cG.mg⟩
  have TC : TxtC K mg CC := ⟨cC.cl, nC0, nC1, nC2, nC3, cC.mg⟩
  have N : TxtN mg := ⟨unoneSuch, unotBegun, ualreadySo, uoutOfRange, utooMany, ucannotBe, ufewestStations, umostStations, umostStretches, umostWater, umostPrice, ubegin_, umostRoom⟩
  have B : TxtB mg := ⟨b_len, b_range, b_all, b_any, b_min, b_sum, b_list, b_sorted, b_reversed, b_enumerate⟩
  have S : Shapes [⟨eHBegin, fHBegin, 1, false⟩, ⟨eHLow, fHLow, 3, false⟩, ⟨eHDrop, fHDrop, 1, false⟩, ⟨eHWater, fHWater, 2, false⟩, ⟨eHRock, fHRock, 1, false⟩, ⟨eHNorock, fHNorock, 1, false⟩, ⟨eHPrice, fHPrice, 2, false⟩, ⟨eHFewest, fHFewest, 0, false⟩, ⟨eHApart, fHApart, 0, false⟩, ⟨eHCheapest, fHCheapest, 0, false⟩, ⟨eHPays, fHPays, 0, false⟩, ⟨eHHits, fHHits, 0, true⟩, ⟨eHMissed, fHMissed, 0, true⟩, ⟨eHCarries, fHCarries, 1, true⟩, ⟨eHWhy, fHWhy, 1, true⟩, ⟨eHShare, fHShare, 1, true⟩, ⟨eHLeastroom, fHLeastroom, 0, true⟩, ⟨eHFewestfor, fHFewestfor, 1, false⟩, ⟨eHWithout, fHWithout, 1, false⟩, ⟨eHIfrock, fHIfrock, 1, false⟩, ⟨eHAt, fHAt, 1, false⟩, ⟨eHLook, fHLook, 1, false⟩, ⟨eHByend, fHByend, 0, false⟩, ⟨eHState, fHState, 0, false⟩] := shapes_of rfl
  have TB : Table K mg [⟨eHBegin, fHBegin, 1, false⟩, ⟨eHLow, fHLow, 3, false⟩, ⟨eHDrop, fHDrop, 1, false⟩, ⟨eHWater, fHWater, 2, false⟩, ⟨eHRock, fHRock, 1, false⟩, ⟨eHNorock, fHNorock, 1, false⟩, ⟨eHPrice, fHPrice, 2, false⟩, ⟨eHFewest, fHFewest, 0, false⟩, ⟨eHApart, fHApart, 0, false⟩, ⟨eHCheapest, fHCheapest, 0, false⟩, ⟨eHPays, fHPays, 0, false⟩, ⟨eHHits, fHHits, 0, true⟩, ⟨eHMissed, fHMissed, 0, true⟩, ⟨eHCarries, fHCarries, 1, true⟩, ⟨eHWhy, fHWhy, 1, true⟩, ⟨eHShare, fHShare, 1, true⟩, ⟨eHLeastroom, fHLeastroom, 0, true⟩, ⟨eHFewestfor, fHFewestfor, 1, false⟩, ⟨eHWithout, fHWithout, 1, false⟩, ⟨eHIfrock, fHIfrock, 1, false⟩, ⟨eHAt, fHAt, 1, false⟩, ⟨eHLook, fHLook, 1, false⟩, ⟨eHByend, fHByend, 0, false⟩, ⟨eHState, fHState, 0, false⟩] := by
    refine ⟨⟨ct, tC, tT⟩, fun e he => ?_, fun e he => ?_⟩
    · simp only [List.mem_cons, List.not_mem_nil, or_false] at he
      rcases he with rfl | rfl | rfl | rfl | rfl | rfl | rfl | rfl | rfl | rfl | rfl | rfl | rfl | rfl | rfl | rfl | rfl | rfl | rfl | rfl | rfl | rfl | rfl | rfl
      · exact tHBegin
      · exact tHLow
      · exact tHDrop
      · exact tHWater
      · exact tHRock
      · exact tHNorock
      · exact tHPrice
      · exact tHFewest
      · exact tHApart
      · exact tHCheapest
      · exact tHPays
      · exact tHHits
      · exact tHMissed
      · exact tHCarries
      · exact tHWhy
      · exact tHShare
      · exact tHLeastroom
      · exact tHFewestfor
      · exact tHWithout
      · exact tHIfrock
      · exact tHAt
      · exact tHLook
      · exact tHByend
      · exact tHState
    · simp only [List.mem_cons, List.not_mem_nil, or_false] at he
      rcases he with rfl | rfl | rfl | rfl | rfl | rfl | rfl | rfl | rfl | rfl | rfl | rfl | rfl | rfl | rfl | rfl | rfl | rfl | rfl | rfl | rfl | rfl | rfl | rfl <;> (dsimp only; omega)
  have hcd := tab_code X G dByEnds tab
  obtain ⟨oc, od, kV, doc, pm, an, cdv, ctt, osl, efd, _, _⟩ := dAnswers.fn.ex
  refine ⟨fdAnswers, fun s us hu => ?_, fun base Kb Gb TI => ?_⟩
  · rw [efd]
    exact match us, hu with | [_], _ => .of_eq rfl
  have hm : (cB, Pt) ∈ [(cB, Pt)] := List.mem_cons_self
  have TT : TabAt mg base fdByEnds Pt := ⟨⟨cB, hcd, TI.code _ hm⟩, TI.blt _ hm, TI.noP _ hm⟩
  have gStInit := ok_StInit (P := P) (w := w) (base := base) mStInit.fn TS
  have gCovers := ok_covers (P := P) (w := w) (base := base) mCovers.fn TS
  have gGInit := ok_GInit (P := P) (w := w) (base := base) (Cs := CS) mGInit.fn TG
  have gBegun := ok_begun (P := P) (w := w) (base := base) (Cs := CS) mBegun.fn TG B
  have gHasStation := ok_hasStation (P := P) (w := w) (base := base) (Cs := CS) mHasStation.fn TG B
  have gHasStretch := ok_hasStretch (P := P) (w := w) (base := base) (Cs := CS) mHasStretch.fn TG B
  have gIsSite := ok_isSite (P := P) (w := w) (base := base) (Cs := CS) mIsSite.fn TG gHasStation xHasStation mHasStation.me
  have gSites := ok_sites (P := P) (w := w) (base := base) (Cs := CS) mSites.fn TG B gIsSite xIsSite mIsSite.me
  have gSitesOf := ok_sitesOf (P := P) (w := w) (base := base) mSitesOf.fn TG TS gSites xSites mSites.me gCovers xCovers mCovers.me
  have gGBegin := ok_gBegin (P := P) (w := w) (base := base) (Cs := CS) mGBegin.fn TG N
  have gGPrice := ok_gPrice (P := P) (w := w) (base := base) (Cs := CS) mGPrice.fn TG N gHasStation xHasStation mHasStation.me
  have gGWater := ok_gWater (P := P) (w := w) (base := base) mGWater.fn TG TS N gHasStretch xHasStretch mHasStretch.me
  have gGDrop := ok_gDrop (P := P) (w := w) (base := base) (Cs := CS) mGDrop.fn B TG N gHasStretch xHasStretch mHasStretch.me
  have gGLow := ok_gLow (P := P) (w := w) (base := base) mGLow.fn B TG TS N gHasStation xHasStation mHasStation.me cS.mak gStInit xStInit
  have gRockCount := ok_rockCount (P := P) (w := w) (base := base) (Cs := CS) mRockCount.fn TG
  have gGRock := ok_gRock (P := P) (w := w) (base := base) (Cs := CS) mGRock.fn TG N gHasStation xHasStation mHasStation.me gRockCount xRockCount mRockCount.me
  have gTwin := ok_twin (P := P) (w := w) (base := base) mTwin.fn B TG TS cG.mak gGInit xGInit cS.mak gStInit xStInit
  have gRises := ok_rises (P := P) (w := w) (base := base) dRises.fn B
  have gHasOne := ok_hasOne (P := P) (w := w) (base := base) dHasOne.fn B TS gCovers xCovers mCovers.me
  have gMissed := ok_missed (P := P) (w := w) (base := base) dMissed.fn B TG dHasOne.mg dHasOne.fn.kp gHasOne xHasOne
  have gTheyDo := ok_theyDo (P := P) (w := w) (base := base) dTheyDo.fn B dMissed.mg dMissed.fn.kp gMissed xMissed
  have gCulverts := ok_culverts (P := P) (w := w) (base := base) dCulverts.fn B TG dRises.mg dRises.fn.kp gRises xRises gIsSite xIsSite mIsSite.me
  have gSomeDo := ok_someDo (P := P) (w := w) (base := base) dSomeDo.fn TG dTheyDo.mg dTheyDo.fn.kp gTheyDo xTheyDo gSites xSites mSites.me
  have gSkipped := ok_skipped (P := P) (w := w) (base := base) dSkipped.fn B TS
  have gByEnds := ok_byEnds (P := P) (w := w) (base := base) dByEnds.fn B TS TT
  have gBest := ok_best (P := P) (w := w) (base := base) dBest.fn B TG dSkipped.mg dSkipped.fn.kp gSkipped xSkipped
  have gLeast := ok_least (P := P) (w := w) (base := base) dLeast.fn B TG dBest.mg dBest.fn.kp gBest xBest gSites xSites mSites.me
  have gFewestRow := ok_fewestRow (P := P) (w := w) (base := base) dFewestRow.fn B TG dLeast.mg dLeast.fn.kp gLeast xLeast
  have gAreApart := ok_areApart (P := P) (w := w) (base := base) dAreApart.fn TG dHasOne.mg dHasOne.fn.kp gHasOne xHasOne gSitesOf xSitesOf mSitesOf.me
  have gApartN := ok_apart (P := P) (w := w) (base := base) dApartN.fn B TG dByEnds.mg dByEnds.fn.kp gByEnds xByEnds dAreApart.mg dAreApart.fn.kp gAreApart xAreApart
  have gPay := ok_pay (P := P) (w := w) (base := base) dPay.fn B TG dByEnds.mg dByEnds.fn.kp gByEnds xByEnds gSitesOf xSitesOf mSitesOf.me
  have gIsRoom := ok_isRoom (P := P) (w := w) (base := base) dIsRoom.fn N
  have gSpans := ok_spans (P := P) (w := w) (base := base) dSpans.fn B TG TS
  have gTooMuch := ok_tooMuch (P := P) (w := w) (base := base) dTooMuch.fn dSpans.mg dSpans.fn.kp gSpans xSpans
  have gAllGoes := ok_allGoes (P := P) (w := w) (base := base) dAllGoes.fn dTooMuch.mg dTooMuch.fn.kp gTooMuch xTooMuch
  have gLeastRoom := ok_leastRoom (P := P) (w := w) (base := base) dLeastRoom.fn dSpans.mg dSpans.fn.kp gSpans xSpans
  have gFewCarry := ok_fewCarry (P := P) (w := w) (base := base) dFewCarry.fn B TG gSites xSites mSites.me dAllGoes.mg dAllGoes.fn.kp gAllGoes xAllGoes
  have gShares := ok_shares (P := P) (w := w) (base := base) dShares.fn B TG TS dByEnds.mg dByEnds.fn.kp gByEnds xByEnds gCovers xCovers mCovers.me
  have gCounted := ok_counted (P := P) (w := w) (base := base) dCounted.fn B N
  have gCanTake := ok_canTake (P := P) (w := w) (base := base) dCanTake.fn dIsRoom.mg dIsRoom.fn.kp gIsRoom xIsRoom dCulverts.mg dCulverts.fn.kp gCulverts xCulverts
  have hHBegin := ok_hBegin (P := P) (w := w) (base := base) (Pt := Pt) dHBegin.fn TG gGBegin xGBegin mGBegin.me
  have hHLow := ok_hLow (P := P) (w := w) (base := base) (Pt := Pt) dHLow.fn TG gGLow xGLow mGLow.me
  have hHDrop := ok_hDrop (P := P) (w := w) (base := base) (Pt := Pt) dHDrop.fn TG gGDrop xGDrop mGDrop.me
  have hHWater := ok_hWater (P := P) (w := w) (base := base) (Pt := Pt) dHWater.fn TG gGWater xGWater mGWater.me
  have hHRock := ok_hRock (P := P) (w := w) (base := base) (Pt := Pt) dHRock.fn TG gGRock xGRock mGRock.me
  have hHNorock := ok_hNorock (P := P) (w := w) (base := base) (Pt := Pt) dHNorock.fn TG gGRock xGRock mGRock.me
  have hHPrice := ok_hPrice (P := P) (w := w) (base := base) (Pt := Pt) dHPrice.fn TG gGPrice xGPrice mGPrice.me
  have hHFewest := ok_hFewest (P := P) (w := w) (base := base) (Pt := Pt) dHFewest.fn dFewestRow.mg dFewestRow.fn.kp gFewestRow xFewestRow dCounted.mg dCounted.fn.kp gCounted xCounted
  have hHApart := ok_hApart (P := P) (w := w) (base := base) (Pt := Pt) dHApart.fn N dSomeDo.mg dSomeDo.fn.kp gSomeDo xSomeDo dApartN.mg dApartN.fn.kp gApartN xApartN dCounted.mg dCounted.fn.kp gCounted xCounted
  have hHCheapest := ok_hCheapest (P := P) (w := w) (base := base) (Pt := Pt) dHCheapest.fn TG N dLeast.mg dLeast.fn.kp gLeast xLeast
  have hHPays := ok_hPays (P := P) (w := w) (base := base) (Pt := Pt) dHPays.fn B N dSomeDo.mg dSomeDo.fn.kp gSomeDo xSomeDo dPay.mg dPay.fn.kp gPay xPay
  have hHHits := ok_hHits (P := P) (w := w) (base := base) (Pt := Pt) dHHits.fn N dCulverts.mg dCulverts.fn.kp gCulverts xCulverts dTheyDo.mg dTheyDo.fn.kp gTheyDo xTheyDo
  have hHMissed := ok_hMissed (P := P) (w := w) (base := base) (Pt := Pt) dHMissed.fn N dCulverts.mg dCulverts.fn.kp gCulverts xCulverts dMissed.mg dMissed.fn.kp gMissed xMissed dCounted.mg dCounted.fn.kp gCounted xCounted
  have hHCarries := ok_hCarries (P := P) (w := w) (base := base) (Pt := Pt) dHCarries.fn N dCanTake.mg dCanTake.fn.kp gCanTake xCanTake dAllGoes.mg dAllGoes.fn.kp gAllGoes xAllGoes
  have hHWhy := ok_hWhy (P := P) (w := w) (base := base) (Pt := Pt) dHWhy.fn N dCanTake.mg dCanTake.fn.kp gCanTake xCanTake dTooMuch.mg dTooMuch.fn.kp gTooMuch xTooMuch
  have hHShare := ok_hShare (P := P) (w := w) (base := base) (Pt := Pt) dHShare.fn B N dCanTake.mg dCanTake.fn.kp gCanTake xCanTake dAllGoes.mg dAllGoes.fn.kp gAllGoes xAllGoes dShares.mg dShares.fn.kp gShares xShares
  have hHLeastroom := ok_hLeastroom (P := P) (w := w) (base := base) (Pt := Pt) dHLeastroom.fn N dCulverts.mg dCulverts.fn.kp gCulverts xCulverts dLeastRoom.mg dLeastRoom.fn.kp gLeastRoom xLeastRoom
  have hHFewestfor := ok_hFewestfor (P := P) (w := w) (base := base) (Pt := Pt) dHFewestfor.fn N dIsRoom.mg dIsRoom.fn.kp gIsRoom xIsRoom dFewCarry.mg dFewCarry.fn.kp gFewCarry xFewCarry dCounted.mg dCounted.fn.kp gCounted xCounted
  have hHWithout := ok_hWithout (P := P) (w := w) (base := base) (Pt := Pt) dHWithout.fn TG N gHasStretch xHasStretch mHasStretch.me gTwin xTwin mTwin.me gGDrop xGDrop mGDrop.me dFewestRow.mg dFewestRow.fn.kp gFewestRow xFewestRow dCounted.mg dCounted.fn.kp gCounted xCounted
  have hHIfrock := ok_hIfrock (P := P) (w := w) (base := base) (Pt := Pt) dHIfrock.fn TG N gHasStation xHasStation mHasStation.me gTwin xTwin mTwin.me gGRock xGRock mGRock.me dFewestRow.mg dFewestRow.fn.kp gFewestRow xFewestRow dCounted.mg dCounted.fn.kp gCounted xCounted
  have hHAt := ok_hAt (P := P) (w := w) (base := base) (Pt := Pt) dHAt.fn B TG TS N gHasStation xHasStation mHasStation.me gCovers xCovers mCovers.me
  have hHLook := ok_hLook (P := P) (w := w) (base := base) (Pt := Pt) dHLook.fn TG TS N gHasStretch xHasStretch mHasStretch.me
  have hHByend := ok_hByend (P := P) (w := w) (base := base) (Pt := Pt) dHByend.fn TG dByEnds.mg dByEnds.fn.kp gByEnds xByEnds dCounted.mg dCounted.fn.kp gCounted xCounted
  have hHState := ok_hState (P := P) (w := w) (base := base) (Pt := Pt) dHState.fn B TG TS gRockCount xRockCount mRockCount.me
  have HO0 : HandlersOk P w K mg base CG CS Pt [⟨eHBegin, fHBegin, 1, false⟩, ⟨eHLow, fHLow, 3, false⟩, ⟨eHDrop, fHDrop, 1, false⟩, ⟨eHWater, fHWater, 2, false⟩, ⟨eHRock, fHRock, 1, false⟩, ⟨eHNorock, fHNorock, 1, false⟩, ⟨eHPrice, fHPrice, 2, false⟩, ⟨eHFewest, fHFewest, 0, false⟩, ⟨eHApart, fHApart, 0, false⟩, ⟨eHCheapest, fHCheapest, 0, false⟩, ⟨eHPays, fHPays, 0, false⟩, ⟨eHHits, fHHits, 0, true⟩, ⟨eHMissed, fHMissed, 0, true⟩, ⟨eHCarries, fHCarries, 1, true⟩, ⟨eHWhy, fHWhy, 1, true⟩, ⟨eHShare, fHShare, 1, true⟩, ⟨eHLeastroom, fHLeastroom, 0, true⟩, ⟨eHFewestfor, fHFewestfor, 1, false⟩, ⟨eHWithout, fHWithout, 1, false⟩, ⟨eHIfrock, fHIfrock, 1, false⟩, ⟨eHAt, fHAt, 1, false⟩, ⟨eHLook, fHLook, 1, false⟩, ⟨eHByend, fHByend, 0, false⟩, ⟨eHState, fHState, 0, false⟩] := by
    refine ⟨fun p e he => ?_, fun e he => by cases he; rfl⟩
    match p, he with
    | 0, he => cases he; exact ⟨_, hHBegin.mono (by decide), dHBegin.fn.kp, xHBegin⟩
    | 1, he => cases he; exact ⟨_, hHLow.mono (by decide), dHLow.fn.kp, xHLow⟩
    | 2, he => cases he; exact ⟨_, hHDrop.mono (by decide), dHDrop.fn.kp, xHDrop⟩
    | 3, he => cases he; exact ⟨_, hHWater.mono (by decide), dHWater.fn.kp, xHWater⟩
    | 4, he => cases he; exact ⟨_, hHRock.mono (by decide), dHRock.fn.kp, xHRock⟩
    | 5, he => cases he; exact ⟨_, hHNorock.mono (by decide), dHNorock.fn.kp, xHNorock⟩
    | 6, he => cases he; exact ⟨_, hHPrice.mono (by decide), dHPrice.fn.kp, xHPrice⟩
    | 7, he => cases he; exact ⟨_, hHFewest.mono (by decide), dHFewest.fn.kp, xHFewest⟩
    | 8, he => cases he; exact ⟨_, hHApart.mono (by decide), dHApart.fn.kp, xHApart⟩
    | 9, he => cases he; exact ⟨_, hHCheapest.mono (by decide), dHCheapest.fn.kp, xHCheapest⟩
    | 10, he => cases he; exact ⟨_, hHPays.mono (by decide), dHPays.fn.kp, xHPays⟩
    | 11, he => cases he; exact ⟨_, hHHits.mono (by decide), dHHits.fn.kp, xHHits⟩
    | 12, he => cases he; exact ⟨_, hHMissed.mono (by decide), dHMissed.fn.kp, xHMissed⟩
    | 13, he => cases he; exact ⟨_, hHCarries.mono (by decide), dHCarries.fn.kp, xHCarries⟩
    | 14, he => cases he; exact ⟨_, hHWhy.mono (by decide), dHWhy.fn.kp, xHWhy⟩
    | 15, he => cases he; exact ⟨_, hHShare.mono (by decide), dHShare.fn.kp, xHShare⟩
    | 16, he => cases he; exact ⟨_, hHLeastroom.mono (by decide), dHLeastroom.fn.kp, xHLeastroom⟩
    | 17, he => cases he; exact ⟨_, hHFewestfor.mono (by decide), dHFewestfor.fn.kp, xHFewestfor⟩
    | 18, he => cases he; exact ⟨_, hHWithout.mono (by decide), dHWithout.fn.kp, xHWithout⟩
    | 19, he => cases he; exact ⟨_, hHIfrock.mono (by decide), dHIfrock.fn.kp, xHIfrock⟩
    | 20, he => cases he; exact ⟨_, hHAt.mono (by decide), dHAt.fn.kp, xHAt⟩
    | 21, he => cases he; exact ⟨_, hHLook.mono (by decide), dHLook.fn.kp, xHLook⟩
    | 22, he => cases he; exact ⟨_, hHByend.mono (by decide), dHByend.fn.kp, xHByend⟩
    | 23, he => cases he; exact ⟨_, hHState.mono (by decide), dHState.fn.kp, xHState⟩
    | p + 24, he => cases he
  have gCInit := ok_cInit (P := P) (w := w) (base := base) mCInit.fn TC
  have gRead := ok_read (P := P) (w := w) (base := base) dRead.fn TC TB cC.mak gCInit xCInit
  have gAnswer := ok_answer (P := P) (w := w) (base := base) dAnswer.fn TG TC N TB HO0 gBegun xBegun mBegun.me
  exact ok_answers (P := P) (w := w) (base := base) dAnswers.fn TG TC B S cG.mak gGInit xGInit gRead xRead dRead.mg dRead.fn.kp gAnswer xAnswer dAnswer.mg dAnswer.fn.kp
end Cv
end
section
namespace Cv
open PySem PySem.Spec PyProof.Rows L2 HT
open PySem.W (WData Codec OpenSpec)
theorem entry {K : PySem.W.Frag} {H : Hp} {c Pt c1 : Addr} {xs : List V} {ns : List Int} (hE : AtEntry K [(c, Pt)] H) (hs : SqL K H c1 xs) (ha : DwAll K H xs (ns.map WData.int)) (hw : (Codec.inLen 0 30000 ns && ns.all (Codec.inInt 0 4294967295) && true) = true) (hask : PyKv365.answers_asked ns = true) :
    spAnswers Pt K [.ref c1] H (fun v H' => Dw K H' v (.list ((PyKv365.answers ns).map WData.int))) fun _ _ _ => False := by
  have e := L2.ints_dw ns _ ha
  subst e
  rw [Bool.and_eq_true, Bool.and_eq_true] at hw
  have h1 := (Codec.inNat_iff.mp hw.1.1).2
  have h2 : ∀ z ∈ ns, 0 ≤ z := fun z hz => (Codec.inInt_iff.mp (List.all_eq_true.mp hw.1.2 z hz)).1
  have ec : castL (ns.map Int.toNat) = ns := by
    unfold castL
    rw [List.map_map]
    conv => rhs; rw [← List.map_id ns]
    exact List.map_congr_left fun z hz => Int.toNat_of_nonneg (h2 z hz)
  have ev : ns.map V.int = natV (ns.map Int.toNat) := by
    conv => lhs; rw [← ec]
    unfold castL natV
    rw [List.map_map]; rfl
  have hm : (c, Pt) ∈ [(c, Pt)] := List.mem_cons_self
  obtain ⟨f1, f2⟩ := My.asked_fine hask
  have f3 := My.answers_due f1
  rw [ev] at hs
  refine ⟨c1, ns.map Int.toNat, rfl, hs, fun z => ?_, by rw [List.length_map]; exact h1, .inl (hE.tab _ hm), by rw [ec, List.length_map]; exact f1, by rw [ec, List.length_map, ← f3]; exact f2, fun H' D hD => ?_⟩
  · have e1 := hE.tab _ hm
    have e2 := hE.noK _ hm
    subst z
    rcases hs with (h | ⟨o, h⟩) | ⟨o, its, n, h, _⟩
    · rw [h] at e1; cases e1
    · rw [h] at e1; cases e1
    · rw [h] at e2; cases e2
  · rw [ec, List.length_map, ← f3] at hD
    exact .lst (L2.SqL.of hD) (L2.dw_ints _)
end Cv
end
namespace PySem.W.Fast
def tw6881759432021271252:=()
def tw1539702233584338120:=()
def tw12982228506533522591:=()
def tw6624602488687607374:=()
def tw12637500946756092457:=()
def tw17999557876217867178:=()
def tw6297449135660929781:=()
def tw2188281764715282189:=()
def tw14480345824716383755:=()
def tw533295323576938156:=()
def tw18394437671437804022:=()
def tw13631736815414719590:=()
def tw9836329785650856202:=()
def tw12463468843260523310:=()
def tw10734891426182516517:=()
def tw5701725179401451813:=()
def tw7278374941186565770:=()
def tw15794554464725987113:=()
def tw11810794830241307596:=()
def tw15987616437462616341:=()
def tw6247339439255444016:=()
def tw15770545807474577469:=()
def tw11434079172868929851:=()
def tw9344742820919665804:=()
def tw17850305276431161290:=()
def tw2505049932941568301:=()
def tw9735813649094802084:=()
def tw13104347534597455532:=()
def tw15173308270391044745:=()
def tw4593429384351758481:=()
def tw4957604395070794579:=()
def tw12562375898847194520:=()
def tw13409602112537667772:=()
def tw13875799759582841171:=()
def tw4110647086520878117:=()
def tw2028687715856621292:=()
def tw15187308610949586379:=()
def tw15576804119748994269:=()
def tw2789951223503594514:=()
def tw7295505350447820295:=()
def tw11667948182297882107:=()
def tw593534367006889888:=()
def tw4669193064198846976:=()
def tw14980471506040739683:=()
def tw9558574296143501911:=()
def tw11201148777976412087:=()
def tw522521802552084718:=()
def tw1019660935664986571:=()
def tw10932785552094432490:=()
def tw10622617239352079050:=()
def tw3143347469652038569:=()
def tw8260298364139539753:=()
def tw11442315956935416077:=()
def tw9552955799674985839:=()
def tw8609359641752367454:=()
def tw8440529837171419207:=()
def tw10712132670426816766:=()
def tw10190675679361593596:=()
def tw3615139902561145331:=()
def tw12715182149727893744:=()
def tw14994295905540747363:=()
def tw8157438989116229784:=()
def tw570640652730656804:=()
def tw8849177316356739955:=()
def tw13628822008401718689:=()
def tw14038463884536131791:=()
def tw3287663110117239532:=()
def tw8000913915368724761:=()
def tw18215436602138306724:=()
def tw5413272769426485264:=()
def tw6017909038846006757:=()
def tw4918705596928937193:=()
def tw5424761159441080927:=()
def tw2206450516235146201:=()
def tw11267260555012568973:=()
def tw16021785260134920937:=()
def tw75177980295414862:=()
def tw9658824469110216048:=()
def tw17162003684502194687:=()
def tw16637773536668338950:=()
def tw6354599016890097876:=()
def tw4099030788881300233:=()
def tw12369300949195769368:=()
def tw13355258115127554227:=()
def tw8650612119574703206:=()
def tw5164916716578657922:=()
def tw332200920477347077:=()
def tw16613446191753502469:=()
def tw2015727273989469990:=()
def tw3891114985867114785:=()
def tw10230319853462579082:=()
def tw8125248213905228874:=()
def tw1932063890139072745:=()
def tw16515985988953712952:=()
def tw8950245190326882901:=()
def tw10266326289628093590:=()
def tw4732002493584997947:=()
def tw2855665363477216645:=()
def tw14728732243425022883:=()
def tw4901686099589626505:=()
def tw8210905235970021226:=()
def tw4858358156392327739:=()
def tw9938314408038620241:=()
def tw13413179825567801290:=()
def tw3609006987818643333:=()
def tw17517683556005217470:=()
def tw18401781829793970805:=()
def tw2859115930117282038:=()
def tw2156846003940789791:=()
def tw18014093013333565574:=()
def tw2858247563700564838:=()
def tw9223447319665870647:=()
def tw10271533639165504647:=()
def tw5357912562504776025:=()
def tw4842785108825726540:=()
def tw7240566101146756768:=()
def tw7637398401728352316:=()
def tw7364991671798596264:=()
def tw3895728059350108117:=()
def tw7277346769037610831:=()
def tw13040099150877018977:=()
def tw17721648130658116585:=()
def tw4369603293613850974:=()
def tw11512931657691309872:=()
def tw4033474366851361633:=()
def tw16328407466834952228:=()
def tw12148061561488650360:=()
def tw10307887852384325711:=()
def tw9340173922454244607:=()
def tw7432338977384601057:=()
def tw6426744974512648185:=()
def tw3949412653470933441:=()
def tw4233328658869043156:=()
def tw12270021549683109039:=()
def tw13606439076711570324:=()
def tw2318855625278705814:=()
def tw15728372842128065549:=()
def tw166650884517836656:=()
def tw6159704848264849468:=()
def tw14166236049832190137:=()
def tw13021291347704315086:=()
def tw11761843019903962506:=()
def tw1119885654091437462:=()
def tw18103428410644420239:=()
def tw1914754335669932401:=()
def tw18105695215264905308:=()
def tw1941895731155390040:=()
def tw9633265379257974280:=()
def tw17817852558631937173:=()
def tw1161388294661411773:=()
def tw10419729414280049993:=()
def tw17339962801190748410:=()
def tw7255700459616797946:=()
def tw14364313587019517467:=()
def tw17594871235878912796:=()
def tw2488361837370211544:=()
def tw11933092221196839935:=()
def tw16725550555306901036:=()
def tw6557954311180481347:=()
def tw15079622655794343497:=()
def tw5320374404999102098:=()
def tw982367824231416731:=()
def tw17314123596900342577:=()
def tw17726940633808745950:=()
def tw13459042376003927115:=()
def tw8266444734035625781:=()
def tw843633634699725461:=()
def tw12106915920363906157:=()
def tw7249083303472757447:=()
def tw4791964909538093282:=()
def tw9634360113092457872:=()
def tw9405333319248054447:=()
def tw6247412594998622438:=()
def tw3588444177907193046:=()
def tw17234478113270940612:=()
def tw2472948370966395097:=()
def tw9523157726114214243:=()
def tw13870125556433856507:=()
def tw4170859580851095936:=()
def tw16288443134925903376:=()
def tw402253263211842785:=()
def tw11173635863878903129:=()
def tw9832953674449638119:=()
def tw6136684567926229185:=()
def tw13947832372736959540:=()
def tw4815525290789060048:=()
def tw5766349635049271243:=()
def tw17174326864868164053:=()
def tw15315775092717139326:=()
def tw14474736819981823684:=()
def tw4507332500091324402:=()
def tw18252343011378742056:=()
def tw10137543544674588467:=()
def tw868939231309387693:=()
def tw62630137172097295:=()
def tw6971474455114496484:=()
def tw9112380508570601023:=()
def tw17125535138405704820:=()
def tw1205381744186823897:=()
def tw1117835232472806444:=()
def tw3960948236993802263:=()
def tw7019826436445389002:=()
def tw3584316556103241996:=()
def tw13229753764184046532:=()
def tw8912946414261552634:=()
def tw8411344321386394254:=()
def tw3511434567070003737:=()
def tw12217684507614735141:=()
def tw17188158705733282201:=()
def tw11379355173157221825:=()
def tw15311395533805214018:=()
def tw275091717519179184:=()
def tw2350620052949215773:=()
def tw11061121410617794365:=()
def tw3508885032129879404:=()
def tw2941590796680351083:=()
def tw3646001045782554477:=()
def tw5390606802963451632:=()
def tw582687891268332995:=()
def tw8065516462521345143:=()
def tw3277626436539759494:=()
def tw12215710208219337511:=()
def tw14196943496088734916:=()
def tw2046641282941008690:=()
def tw3205246581936981284:=()
def tw14722447479533229878:=()
def tw11008952844389678367:=()
def tw108105518031417673:=()
def tw17760224834480411200:=()
def tw9465721405458042032:=()
def tw7086257670322344314:=()
def tw11540783463852981691:=()
def tw106299701971738400:=()
def tw6194901184419248250:=()
def tw3152580037203038612:=()
def tw5858462565681669063:=()
def tw9462901444008229335:=()
def tw11800484590966421508:=()
def tw4073638245579024884:=()
def tw5388270651274468614:=()
def tw5165714698913196310:=()
def tw16154437938423831892:=()
def tw2012552507636376972:=()
def tw8217347941290605350:=()
def tw10782855908349956533:=()
def tw5824035923865683002:=()
def tw4681484698658122187:=()
def tw321940342678044107:=()
def tw12858638908414263437:=()
def tw10644557742799285897:=()
def tw14181237714717730084:=()
def tw11015658459540262682:=()
def tw11277303313888548520:=()
def tw10076101562281504396:=()
def tw7762577307669671436:=()
def tw3347342647684558830:=()
def tw14316755866940068890:=()
def tw12842566626580248575:=()
def tw11355049217134423450:=()
def tw14854027848998434789:=()
def tw18283978219019255328:=()
def tw1608428222740296244:=()
def tw15711013107435595633:=()
def tw11862786311918347228:=()
def tw5920704403002901965:=()
def tw9865208974611478169:=()
def tw4723263710029910983:=()
def tw8781164170109009771:=()
def tw3953412219945703675:=()
def tw3825643488483051164:=()
def tw5830912911175246613:=()
def tw17774005843106537465:=()
def tw460231583800676682:=()
def tw12525442401473213764:=()
def tw8784436149817113960:=()
def tw4464843597664446027:=()
def tw15153160763972538908:=()
def tw930280328788840921:=()
def tw6526869177244742873:=()
def tw13510167070842749287:=()
def tw1482912068150949824:=()
def tw12511869842067469666:=()
def tw4177181867688966794:=()
def tw15278146867644450626:=()
def tw3886391885505874618:=()
def tw15357741884650227193:=()
def tw13468763782035059903:=()
def tw14551718606134941978:=()
def tw16357055779931414845:=()
def tw17417113758657322438:=()
def tw13658103718198060756:=()
def tw3073050751229198791:=()
def tw12018072902559499933:=()
def tw1987233057258373865:=()
def tw16245643685094347144:=()
def tw9163109119327917922:=()
def tw17194079399846832017:=()
def tw6948518212894657891:=()
def tw7350582298931649683:=()
def tw14081944852776546269:=()
def tw10137354217849861165:=()
def tw6758254896274450442:=()
def tw16836776108747521678:=()
def tw13868057076522649866:=()
def tw2876082667344110073:=()
def tw13033583443713583024:=()
def tw6993516133687351118:=()
def tw13246154242768111153:=()
def tw3221505512248174271:=()
def tw2035025559309330027:=()
def tw11520370469219081577:=()
def tw790125717030691494:=()
def tw1748188978854552452:=()
def tw15731914203004221719:=()
def tw15406189933207228490:=()
def tw12411385994157595414:=()
def tw8702839463494993564:=()
def tw13835318936344485295:=()
def tw4618591034610611985:=()
def tw11703545527755550061:=()
def tw1240348931188788801:=()
def tw8764674602896747245:=()
def tw14631438676513763999:=()
def tw4842591158230782587:=()
def tw8135779022770093961:=()
def tw6294479709539337364:=()
def tw15312348359657681041:=()
def tw12357849115713044331:=()
def tw13000752853977394781:=()
def tw1075587621405908690:=()
end PySem.W.Fast
open PySem PySem.W PyProof.Rows
set_option Elab.async false
set_option maxRecDepth 100000 in
set_option maxHeartbeats 0 in
theorem PySem.Challenge.cw_culverts_s01_answers_holds : PySem.Challenge.rw_culverts_s01_answers.Holds := by
  w_on; k_headS; (case hw => exact ⟨[.list [.int 7]], by decide +kernel, by decide +kernel⟩)
  k_fillS
  refine Cv.walk_specT (r := PySem.Challenge.rw_culverts_s01_answers) (k := 12) (CX := L2.CX0) (ps := ["calls"]) (sp := Cv.spAnswers 50) (tabs := fun _ => [(54, 50)]) (by decide +kernel) rfl rfl ⟨rfl, by decide, by decide⟩ (fun w h Y => PySem.W.kIn_of Y) ?T ?KT ?F ?S (fun _ _ _ _ z => z)
  case T =>
    intro w mean mg mb h T X
    exact List.forall_mem_cons.mpr ⟨PySem.W.tab_of (x := PySem.Str.ofString "by_ends") (c := 54) (P := 50) T X rfl (by kernel_rfl), fun _ h => nomatch h⟩
  case KT =>
    intro pm
    exact List.forall_mem_cons.mpr ⟨by kernel_rfl, fun _ h => nomatch h⟩
  case F =>
    intro w mg fa h Y KX G hmg
    refine' Cv.all_mk (cB := 54) (Pt := 50) KX G hmg (Cv.clsIn KX G ?gS ?pgS ?hdS ?poS ?saS ?mkS ?inS ?ifS ?kcS) ?nS0 ?nS1 ?nS2 (Cv.methIn ?aStInit ?iStInit ?lStInit ?cStInit ?kStInit) (Cv.methIn ?aCovers ?iCovers ?lCovers ?cCovers ?kCovers) (Cv.clsIn KX G ?gG ?pgG ?hdG ?poG ?saG ?mkG ?inG ?ifG ?kcG) ?nG0 ?nG1 ?nG2 (Cv.methIn ?aGInit ?iGInit ?lGInit ?cGInit ?kGInit) (Cv.methIn ?aTwin ?iTwin ?lTwin ?cTwin ?kTwin) (Cv.methIn ?aRockCount ?iRockCount ?lRockCount ?cRockCount ?kRockCount) (Cv.methIn ?aBegun ?iBegun ?lBegun ?cBegun ?kBegun) (Cv.methIn ?aHasStation ?iHasStation ?lHasStation ?cHasStation ?kHasStation) (Cv.methIn ?aHasStretch ?iHasStretch ?lHasStretch ?cHasStretch ?kHasStretch) (Cv.methIn ?aIsSite ?iIsSite ?lIsSite ?cIsSite ?kIsSite) (Cv.methIn ?aSites ?iSites ?lSites ?cSites ?kSites) (Cv.methIn ?aSitesOf ?iSitesOf ?lSitesOf ?cSitesOf ?kSitesOf) (Cv.methIn ?aGBegin ?iGBegin ?lGBegin ?cGBegin ?kGBegin) (Cv.methIn ?aGLow ?iGLow ?lGLow ?cGLow ?kGLow) (Cv.methIn ?aGDrop ?iGDrop ?lGDrop ?cGDrop ?kGDrop) (Cv.methIn ?aGWater ?iGWater ?lGWater ?cGWater ?kGWater) (Cv.methIn ?aGRock ?iGRock ?lGRock ?cGRock ?kGRock) (Cv.methIn ?aGPrice ?iGPrice ?lGPrice ?cGPrice ?kGPrice) (Cv.clsIn KX G ?gC ?pgC ?hdC ?poC ?saC ?mkC ?inC ?ifC ?kcC) ?nC0 ?nC1 ?nC2 ?nC3 (Cv.methIn ?aCInit ?iCInit ?lCInit ?cCInit ?kCInit) (Cv.topIn KX G ?aRises ?lRises ?cRises ?kRises) (Cv.topIn KX G ?aCulverts ?lCulverts ?cCulverts ?kCulverts) (Cv.topIn KX G ?aHasOne ?lHasOne ?cHasOne ?kHasOne) (Cv.topIn KX G ?aTheyDo ?lTheyDo ?cTheyDo ?kTheyDo) (Cv.topIn KX G ?aSomeDo ?lSomeDo ?cSomeDo ?kSomeDo) (Cv.topIn KX G ?aByEnds ?lByEnds ?cByEnds ?kByEnds) (Cv.topIn KX G ?aSkipped ?lSkipped ?cSkipped ?kSkipped) (Cv.topIn KX G ?aBest ?lBest ?cBest ?kBest) (Cv.topIn KX G ?aLeast ?lLeast ?cLeast ?kLeast) (Cv.topIn KX G ?aFewestRow ?lFewestRow ?cFewestRow ?kFewestRow) (Cv.topIn KX G ?aAreApart ?lAreApart ?cAreApart ?kAreApart) (Cv.topIn KX G ?aApartN ?lApartN ?cApartN ?kApartN) (Cv.topIn KX G ?aPay ?lPay ?cPay ?kPay) (Cv.topIn KX G ?aMissed ?lMissed ?cMissed ?kMissed) (Cv.topIn KX G ?aIsRoom ?lIsRoom ?cIsRoom ?kIsRoom) (Cv.topIn KX G ?aSpans ?lSpans ?cSpans ?kSpans) (Cv.topIn KX G ?aTooMuch ?lTooMuch ?cTooMuch ?kTooMuch) (Cv.topIn KX G ?aAllGoes ?lAllGoes ?cAllGoes ?kAllGoes) (Cv.topIn KX G ?aShares ?lShares ?cShares ?kShares) (Cv.topIn KX G ?aLeastRoom ?lLeastRoom ?cLeastRoom ?kLeastRoom) (Cv.topIn KX G ?aFewCarry ?lFewCarry ?cFewCarry ?kFewCarry) (Cv.topIn KX G ?aCounted ?lCounted ?cCounted ?kCounted) (Cv.topIn KX G ?aCanTake ?lCanTake ?cCanTake ?kCanTake) (Cv.topIn KX G ?aHBegin ?lHBegin ?cHBegin ?kHBegin) (Cv.topIn KX G ?aHLow ?lHLow ?cHLow ?kHLow) (Cv.topIn KX G ?aHDrop ?lHDrop ?cHDrop ?kHDrop) (Cv.topIn KX G ?aHWater ?lHWater ?cHWater ?kHWater) (Cv.topIn KX G ?aHRock ?lHRock ?cHRock ?kHRock) (Cv.topIn KX G ?aHNorock ?lHNorock ?cHNorock ?kHNorock) (Cv.topIn KX G ?aHPrice ?lHPrice ?cHPrice ?kHPrice) (Cv.topIn KX G ?aHFewest ?lHFewest ?cHFewest ?kHFewest) (Cv.topIn KX G ?aHApart ?lHApart ?cHApart ?kHApart) (Cv.topIn KX G ?aHCheapest ?lHCheapest ?cHCheapest ?kHCheapest) (Cv.topIn KX G ?aHPays ?lHPays ?cHPays ?kHPays) (Cv.topIn KX G ?aHHits ?lHHits ?cHHits ?kHHits) (Cv.topIn KX G ?aHMissed ?lHMissed ?cHMissed ?kHMissed) (Cv.topIn KX G ?aHCarries ?lHCarries ?cHCarries ?kHCarries) (Cv.topIn KX G ?aHWhy ?lHWhy ?cHWhy ?kHWhy) (Cv.topIn KX G ?aHShare ?lHShare ?cHShare ?kHShare) (Cv.topIn KX G ?aHLeastroom ?lHLeastroom ?cHLeastroom ?kHLeastroom) (Cv.topIn KX G ?aHFewestfor ?lHFewestfor ?cHFewestfor ?kHFewestfor) (Cv.topIn KX G ?aHWithout ?lHWithout ?cHWithout ?kHWithout) (Cv.topIn KX G ?aHIfrock ?lHIfrock ?cHIfrock ?kHIfrock) (Cv.topIn KX G ?aHAt ?lHAt ?cHAt ?kHAt) (Cv.topIn KX G ?aHLook ?lHLook ?cHLook ?kHLook) (Cv.topIn KX G ?aHByend ?lHByend ?cHByend ?kHByend) (Cv.topIn KX G ?aHState ?lHState ?cHState ?kHState) (Cv.topIn KX G ?aRead ?lRead ?cRead ?kRead) (Cv.topIn KX G ?aAnswer ?lAnswer ?cAnswer ?kAnswer) (Cv.topIn KX G ?aAnswers ?lAnswers ?cAnswers ?kAnswers) (Cv.numIn KX G ?unoneSuch) (Cv.numIn KX G ?unotBegun) (Cv.numIn KX G ?ualreadySo) (Cv.numIn KX G ?uoutOfRange) (Cv.numIn KX G ?utooMany) (Cv.numIn KX G ?ucannotBe) (Cv.numIn KX G ?ufewestStations) (Cv.numIn KX G ?umostStations) (Cv.numIn KX G ?umostStretches) (Cv.numIn KX G ?umostWater) (Cv.numIn KX G ?umostPrice) (Cv.numIn KX G ?ubegin_) (Cv.numIn KX G ?umostRoom) (PySem.W.mg_none_of KX G ?b_len) (PySem.W.mg_none_of KX G ?b_range) (PySem.W.mg_none_of KX G ?b_all) (PySem.W.mg_none_of KX G ?b_any) (PySem.W.mg_none_of KX G ?b_min) (PySem.W.mg_none_of KX G ?b_sum) (PySem.W.mg_none_of KX G ?b_list) (PySem.W.mg_none_of KX G ?b_sorted) (PySem.W.mg_none_of KX G ?b_reversed) (PySem.W.mg_none_of KX G ?b_enumerate) (PySem.W.mg_of KX G ?tC) (Cv.tupIn ?tT (.cons rfl (.cons rfl (.cons rfl (.cons rfl (.cons rfl (.cons rfl (.cons rfl (.cons rfl (.cons rfl (.cons rfl (.cons rfl (.cons rfl (.cons rfl (.cons rfl (.cons rfl (.cons rfl (.cons rfl (.cons rfl (.cons rfl (.cons rfl (.cons rfl (.cons rfl (.cons rfl (.cons rfl .nil))))))))))))))))))))))))) (Cv.tupIn ?tHBegin (.cons rfl (.cons Cv.relInt (.cons rfl .nil)))) (Cv.tupIn ?tHLow (.cons rfl (.cons Cv.relInt (.cons rfl .nil)))) (Cv.tupIn ?tHDrop (.cons rfl (.cons Cv.relInt (.cons rfl .nil)))) (Cv.tupIn ?tHWater (.cons rfl (.cons Cv.relInt (.cons rfl .nil)))) (Cv.tupIn ?tHRock (.cons rfl (.cons Cv.relInt (.cons rfl .nil)))) (Cv.tupIn ?tHNorock (.cons rfl (.cons Cv.relInt (.cons rfl .nil)))) (Cv.tupIn ?tHPrice (.cons rfl (.cons Cv.relInt (.cons rfl .nil)))) (Cv.tupIn ?tHFewest (.cons rfl (.cons Cv.relInt (.cons rfl .nil)))) (Cv.tupIn ?tHApart (.cons rfl (.cons Cv.relInt (.cons rfl .nil)))) (Cv.tupIn ?tHCheapest (.cons rfl (.cons Cv.relInt (.cons rfl .nil)))) (Cv.tupIn ?tHPays (.cons rfl (.cons Cv.relInt (.cons rfl .nil)))) (Cv.tupIn ?tHHits (.cons rfl (.cons Cv.relInt (.cons rfl .nil)))) (Cv.tupIn ?tHMissed (.cons rfl (.cons Cv.relInt (.cons rfl .nil)))) (Cv.tupIn ?tHCarries (.cons rfl (.cons Cv.relInt (.cons rfl .nil)))) (Cv.tupIn ?tHWhy (.cons rfl (.cons Cv.relInt (.cons rfl .nil)))) (Cv.tupIn ?tHShare (.cons rfl (.cons Cv.relInt (.cons rfl .nil)))) (Cv.tupIn ?tHLeastroom (.cons rfl (.cons Cv.relInt (.cons rfl .nil)))) (Cv.tupIn ?tHFewestfor (.cons rfl (.cons Cv.relInt (.cons rfl .nil)))) (Cv.tupIn ?tHWithout (.cons rfl (.cons Cv.relInt (.cons rfl .nil)))) (Cv.tupIn ?tHIfrock (.cons rfl (.cons Cv.relInt (.cons rfl .nil)))) (Cv.tupIn ?tHAt (.cons rfl (.cons Cv.relInt (.cons rfl .nil)))) (Cv.tupIn ?tHLook (.cons rfl (.cons Cv.relInt (.cons rfl .nil)))) (Cv.tupIn ?tHByend (.cons rfl (.cons Cv.relInt (.cons rfl .nil)))) (Cv.tupIn ?tHState (.cons rfl (.cons Cv.relInt (.cons rfl .nil)))) ?tab
    (case gS => k_is)
    (case pgS => k_is)
    (case hdS => k_is)
    (case poS => k_is)
    (case saS => k_is)
    (case mkS => k_is)
    (case inS => k_is)
    (case ifS => k_is)
    (case kcS => k_is)
    (case nS0 => k_is)
    (case nS1 => k_is)
    (case nS2 => k_is)
    (case aStInit => k_is)
    (case iStInit => k_is)
    (case lStInit => k_is)
    (case cStInit => k_is)
    (case kStInit => k_is)
    (case aCovers => k_is)
    (case iCovers => k_is)
    (case lCovers => k_is)
    (case cCovers => k_is)
    (case kCovers => k_is)
    (case gG => k_is)
    (case pgG => k_is)
    (case hdG => k_is)
    (case poG => k_is)
    (case saG => k_is)
    (case mkG => k_is)
    (case inG => k_is)
    (case ifG => k_is)
    (case kcG => k_is)
    (case nG0 => k_is)
    (case nG1 => k_is)
    (case nG2 => k_is)
    (case aGInit => k_is)
    (case iGInit => k_is)
    (case lGInit => k_is)
    (case cGInit => k_is)
    (case kGInit => k_is)
    (case aTwin => k_is)
    (case iTwin => k_is)
    (case lTwin => k_is)
    (case cTwin => k_is)
    (case kTwin => k_is)
    (case aRockCount => k_is)
    (case iRockCount => k_is)
    (case lRockCount => k_is)
    (case cRockCount => k_is)
    (case kRockCount => k_is)
    (case aBegun => k_is)
    (case iBegun => k_is)
    (case lBegun => k_is)
    (case cBegun => k_is)
    (case kBegun => k_is)
    (case aHasStation => k_is)
    (case iHasStation => k_is)
    (case lHasStation => k_is)
    (case cHasStation => k_is)
    (case kHasStation => k_is)
    (case aHasStretch => k_is)
    (case iHasStretch => k_is)
    (case lHasStretch => k_is)
    (case cHasStretch => k_is)
    (case kHasStretch => k_is)
    (case aIsSite => k_is)
    (case iIsSite => k_is)
    (case lIsSite => k_is)
    (case cIsSite => k_is)
    (case kIsSite => k_is)
    (case aSites => k_is)
    (case iSites => k_is)
    (case lSites => k_is)
    (case cSites => k_is)
    (case kSites => k_is)
    (case aSitesOf => k_is)
    (case iSitesOf => k_is)
    (case lSitesOf => k_is)
    (case cSitesOf => k_is)
    (case kSitesOf => k_is)
    (case aGBegin => k_is)
    (case iGBegin => k_is)
    (case lGBegin => k_is)
    (case cGBegin => k_is)
    (case kGBegin => k_is)
    (case aGLow => k_is)
    (case iGLow => k_is)
    (case lGLow => k_is)
    (case cGLow => k_is)
    (case kGLow => k_is)
    (case aGDrop => k_is)
    (case iGDrop => k_is)
    (case lGDrop => k_is)
    (case cGDrop => k_is)
    (case kGDrop => k_is)
    (case aGWater => k_is)
    (case iGWater => k_is)
    (case lGWater => k_is)
    (case cGWater => k_is)
    (case kGWater => k_is)
    (case aGRock => k_is)
    (case iGRock => k_is)
    (case lGRock => k_is)
    (case cGRock => k_is)
    (case kGRock => k_is)
    (case aGPrice => k_is)
    (case iGPrice => k_is)
    (case lGPrice => k_is)
    (case cGPrice => k_is)
    (case kGPrice => k_is)
    (case gC => k_is)
    (case pgC => k_is)
    (case hdC => k_is)
    (case poC => k_is)
    (case saC => k_is)
    (case mkC => k_is)
    (case inC => k_is)
    (case ifC => k_is)
    (case kcC => k_is)
    (case nC0 => k_is)
    (case nC1 => k_is)
    (case nC2 => k_is)
    (case nC3 => k_is)
    (case aCInit => k_is)
    (case iCInit => k_is)
    (case lCInit => k_is)
    (case cCInit => k_is)
    (case kCInit => k_is)
    (case aRises => k_is)
    (case lRises => k_is)
    (case cRises => k_is)
    (case kRises => k_is)
    (case aCulverts => k_is)
    (case lCulverts => k_is)
    (case cCulverts => k_is)
    (case kCulverts => k_is)
    (case aHasOne => k_is)
    (case lHasOne => k_is)
    (case cHasOne => k_is)
    (case kHasOne => k_is)
    (case aTheyDo => k_is)
    (case lTheyDo => k_is)
    (case cTheyDo => k_is)
    (case kTheyDo => k_is)
    (case aSomeDo => k_is)
    (case lSomeDo => k_is)
    (case cSomeDo => k_is)
    (case kSomeDo => k_is)
    (case aByEnds => k_is)
    (case lByEnds => k_is)
    (case cByEnds => k_is)
    (case kByEnds => k_is)
    (case aSkipped => k_is)
    (case lSkipped => k_is)
    (case cSkipped => k_is)
    (case kSkipped => k_is)
    (case aBest => k_is)
    (case lBest => k_is)
    (case cBest => k_is)
    (case kBest => k_is)
    (case aLeast => k_is)
    (case lLeast => k_is)
    (case cLeast => k_is)
    (case kLeast => k_is)
    (case aFewestRow => k_is)
    (case lFewestRow => k_is)
    (case cFewestRow => k_is)
    (case kFewestRow => k_is)
    (case aAreApart => k_is)
    (case lAreApart => k_is)
    (case cAreApart => k_is)
    (case kAreApart => k_is)
    (case aApartN => k_is)
    (case lApartN => k_is)
    (case cApartN => k_is)
    (case kApartN => k_is)
    (case aPay => k_is)
    (case lPay => k_is)
    (case cPay => k_is)
    (case kPay => k_is)
    (case aMissed => k_is)
    (case lMissed => k_is)
    (case cMissed => k_is)
    (case kMissed => k_is)
    (case aIsRoom => k_is)
    (case lIsRoom => k_is)
    (case cIsRoom => k_is)
    (case kIsRoom => k_is)
    (case aSpans => k_is)
    (case lSpans => k_is)
    (case cSpans => k_is)
    (case kSpans => k_is)
    (case aTooMuch => k_is)
    (case lTooMuch => k_is)
    (case cTooMuch => k_is)
    (case kTooMuch => k_is)
    (case aAllGoes => k_is)
    (case lAllGoes => k_is)
    (case cAllGoes => k_is)
    (case kAllGoes => k_is)
    (case aShares => k_is)
    (case lShares => k_is)
    (case cShares => k_is)
    (case kShares => k_is)
    (case aLeastRoom => k_is)
    (case lLeastRoom => k_is)
    (case cLeastRoom => k_is)
    (case kLeastRoom => k_is)
    (case aFewCarry => k_is)
    (case lFewCarry => k_is)
    (case cFewCarry => k_is)
    (case kFewCarry => k_is)
    (case aCounted => k_is)
    (case lCounted => k_is)
    (case cCounted => k_is)
    (case kCounted => k_is)
    (case aCanTake => k_is)
    (case lCanTake => k_is)
    (case cCanTake => k_is)
    (case kCanTake => k_is)
    (case aHBegin => k_is)
    (case lHBegin => k_is)
    (case cHBegin => k_is)
    (case kHBegin => k_is)
    (case aHLow => k_is)
    (case lHLow => k_is)
    (case cHLow => k_is)
    (case kHLow => k_is)
    (case aHDrop => k_is)
    (case lHDrop => k_is)
    (case cHDrop => k_is)
    (case kHDrop => k_is)
    (case aHWater => k_is)
    (case lHWater => k_is)
    (case cHWater => k_is)
    (case kHWater => k_is)
    (case aHRock => k_is)
    (case lHRock => k_is)
    (case cHRock => k_is)
    (case kHRock => k_is)
    (case aHNorock => k_is)
    (case lHNorock => k_is)
    (case cHNorock => k_is)
    (case kHNorock => k_is)
    (case aHPrice => k_is)
    (case lHPrice => k_is)
    (case cHPrice => k_is)
    (case kHPrice => k_is)
    (case aHFewest => k_is)
    (case lHFewest => k_is)
    (case cHFewest => k_is)
    (case kHFewest => k_is)
    (case aHApart => k_is)
    (case lHApart => k_is)
    (case cHApart => k_is)
    (case kHApart => k_is)
    (case aHCheapest => k_is)
    (case lHCheapest => k_is)
    (case cHCheapest => k_is)
    (case kHCheapest => k_is)
    (case aHPays => k_is)
    (case lHPays => k_is)
    (case cHPays => k_is)
    (case kHPays => k_is)
    (case aHHits => k_is)
    (case lHHits => k_is)
    (case cHHits => k_is)
    (case kHHits => k_is)
    (case aHMissed => k_is)
    (case lHMissed => k_is)
    (case cHMissed => k_is)
    (case kHMissed => k_is)
    (case aHCarries => k_is)
    (case lHCarries => k_is)
    (case cHCarries => k_is)
    (case kHCarries => k_is)
    (case aHWhy => k_is)
    (case lHWhy => k_is)
    (case cHWhy => k_is)
    (case kHWhy => k_is)
    (case aHShare => k_is)
    (case lHShare => k_is)
    (case cHShare => k_is)
    (case kHShare => k_is)
    (case aHLeastroom => k_is)
    (case lHLeastroom => k_is)
    (case cHLeastroom => k_is)
    (case kHLeastroom => k_is)
    (case aHFewestfor => k_is)
    (case lHFewestfor => k_is)
    (case cHFewestfor => k_is)
    (case kHFewestfor => k_is)
    (case aHWithout => k_is)
    (case lHWithout => k_is)
    (case cHWithout => k_is)
    (case kHWithout => k_is)
    (case aHIfrock => k_is)
    (case lHIfrock => k_is)
    (case cHIfrock => k_is)
    (case kHIfrock => k_is)
    (case aHAt => k_is)
    (case lHAt => k_is)
    (case cHAt => k_is)
    (case kHAt => k_is)
    (case aHLook => k_is)
    (case lHLook => k_is)
    (case cHLook => k_is)
    (case kHLook => k_is)
    (case aHByend => k_is)
    (case lHByend => k_is)
    (case cHByend => k_is)
    (case kHByend => k_is)
    (case aHState => k_is)
    (case lHState => k_is)
    (case cHState => k_is)
    (case kHState => k_is)
    (case aRead => k_is)
    (case lRead => k_is)
    (case cRead => k_is)
    (case kRead => k_is)
    (case aAnswer => k_is)
    (case lAnswer => k_is)
    (case cAnswer => k_is)
    (case kAnswer => k_is)
    (case aAnswers => k_is)
    (case lAnswers => k_is)
    (case cAnswers => k_is)
    (case kAnswers => k_is)
    (case unoneSuch => k_is)
    (case unotBegun => k_is)
    (case ualreadySo => k_is)
    (case uoutOfRange => k_is)
    (case utooMany => k_is)
    (case ucannotBe => k_is)
    (case ufewestStations => k_is)
    (case umostStations => k_is)
    (case umostStretches => k_is)
    (case umostWater => k_is)
    (case umostPrice => k_is)
    (case ubegin_ => k_is)
    (case umostRoom => k_is)
    (case b_len => k_is)
    (case b_range => k_is)
    (case b_all => k_is)
    (case b_any => k_is)
    (case b_min => k_is)
    (case b_sum => k_is)
    (case b_list => k_is)
    (case b_sorted => k_is)
    (case b_reversed => k_is)
    (case b_enumerate => k_is)
    (case tC => k_is)
    (case tT => k_is)
    (case tHBegin => k_is)
    (case tHLow => k_is)
    (case tHDrop => k_is)
    (case tHWater => k_is)
    (case tHRock => k_is)
    (case tHNorock => k_is)
    (case tHPrice => k_is)
    (case tHFewest => k_is)
    (case tHApart => k_is)
    (case tHCheapest => k_is)
    (case tHPays => k_is)
    (case tHHits => k_is)
    (case tHMissed => k_is)
    (case tHCarries => k_is)
    (case tHWhy => k_is)
    (case tHShare => k_is)
    (case tHLeastroom => k_is)
    (case tHFewestfor => k_is)
    (case tHWithout => k_is)
    (case tHIfrock => k_is)
    (case tHAt => k_is)
    (case tHLook => k_is)
    (case tHByend => k_is)
    (case tHState => k_is)
    (case tab => kernel_rfl)
  case S =>
    intro pm H xs a hE hwi hask hx
    cases hx with
    | cons h1 h2 =>
      cases h2
      cases h1 with
      | lst hs ha =>
        exact Cv.entry hE hs ha hwi hask
