import PyProof.Rows.All
import Wide.All
import OpenK.AllK
import Wide.FinOn
import PyProof.EqAt
import PyProof.EqKinds
import PyProof.TupleCall
import KE.BitLaws
import Open.SpecLaws
import KE.OsHead
import KE.OsGo
import KE.KDictList
import PySem.Challenge.RW_firewatch_s01_answers
-- CHANGE: your row's module here, as the last of these rows
set_option Elab.async false
set_option linter.all false
set_option maxRecDepth 100000
namespace L2
open PySem PySem.Spec PyProof.Rows
abbrev Key := Sum Int Str
def keyIs : Key → Value → Bool
  | .inl k, v => Value.isInt k v
  | .inr x, v => Value.isStrOf x v
def keyH (w : World) : Key → Int
  | .inl k => hashInt k
  | .inr x => hashStr w x
theorem keyIs_shape : ∀ {k : Key} {v : Value}, keyIs k v = true → (∃ i t, k = Sum.inl i ∧ v = Value.int i t) ∨ (∃ x t, k = Sum.inr x ∧ v = Value.str x t)
  | .inl i, v, h => by
    obtain ⟨t, e⟩ := Value.isInt_shape (k := i) (v := v) h
    exact .inl ⟨i, t, rfl, e⟩
  | .inr x, v, h => by
    obtain ⟨t, e⟩ := Value.isStrOf_shape (x := x) (v := v) h
    exact .inr ⟨x, t, rfl, e⟩
theorem keyIs_int (i : Int) (t : Tok) : keyIs (.inl i) (.int i t) = true := by simp [keyIs, Value.isInt]
theorem keyIs_str (x : Str) (t : Tok) : keyIs (.inr x) (.str x t) = true := by simp [keyIs, Value.isStrOf]
theorem key_ll (a b : Int) : decide ((Sum.inl a : Key) = Sum.inl b) = (a == b) := by
  by_cases e : a = b
  · subst e; simp
  · have h : ¬ (Sum.inl a : Key) = Sum.inl b := fun q => e (Sum.inl.inj q)
    rw [decide_eq_false h]
    exact (beq_eq_false_iff_ne.mpr e).symm
theorem key_rr (a b : Str) : decide ((Sum.inr a : Key) = Sum.inr b) = decide (a = b) := by
  by_cases e : a = b
  · subst e; simp
  · have h : ¬ (Sum.inr a : Key) = Sum.inr b := fun q => e (Sum.inr.inj q)
    rw [decide_eq_false h, decide_eq_false e]
theorem key_lr (a : Int) (b : Str) : decide ((Sum.inl a : Key) = Sum.inr b) = false := decide_eq_false (fun q => nomatch q)
theorem key_rl (a : Str) (b : Int) : decide ((Sum.inr a : Key) = Sum.inl b) = false := decide_eq_false (fun q => nomatch q)
def mixKind (prog : Program) (w : World) : PySem.KeyKind prog w Key where
  is := keyIs
  hash := keyH w
  inj := fun v a b ha hb => by
    rcases keyIs_shape ha with ⟨i, t, rfl, rfl⟩ | ⟨x, t, rfl, rfl⟩
    · rcases keyIs_shape hb with ⟨j, u, rfl, e⟩ | ⟨y, u, rfl, e⟩
      · injection e with e1 _; rw [e1]
      · exact nomatch e
    · rcases keyIs_shape hb with ⟨j, u, rfl, e⟩ | ⟨y, u, rfl, e⟩
      · exact nomatch e
      · injection e with e1 _; rw [e1]
  byValue := fun k v h => by
    rcases keyIs_shape h with ⟨i, t, rfl, rfl⟩ | ⟨x, t, rfl, rfl⟩ <;> rfl
  pyHash := fun hv h => by
    rcases keyIs_shape hv with ⟨i, t, rfl, rfl⟩ | ⟨x, t, rfl, rfl⟩
    · exact wpAny_pyHash_int h
    · exact wpAny_pyHash_str h
  eqBool := fun hu hv h => by
    rcases keyIs_shape hu with ⟨i, t, rfl, rfl⟩ | ⟨x, t, rfl, rfl⟩
    · rcases keyIs_shape hv with ⟨j, u, rfl, rfl⟩ | ⟨y, u, rfl, rfl⟩
      · rw [key_ll] at h; exact wpAny_eqBool_int h
      · rw [key_lr] at h; exact SeqAt.EqAt.int_str i t y u _ _ _ _ h
    · rcases keyIs_shape hv with ⟨j, u, rfl, rfl⟩ | ⟨y, u, rfl, rfl⟩
      · rw [key_rl] at h; exact SeqAt.EqAt.str_int x t j u _ _ _ _ h
      · rw [key_rr] at h; exact wpAny_eqBool_str h
  «strs» := fun k x t v h => by
    rcases keyIs_shape h with ⟨i, u, rfl, e⟩ | ⟨y, u, rfl, e⟩
    · exact nomatch e
    · injection e with e1 _
      subst e1
      cases v <;> rfl
theorem mixKind_int (prog : Program) (w : World) (i : Int) (t : Tok) : (mixKind prog w).is (.inl i) (.int i t) = true := keyIs_int i t
theorem mixKind_str (prog : Program) (w : World) (x : Str) (t : Tok) : (mixKind prog w).is (.inr x) (.str x t) = true := keyIs_str x t
end L2
namespace L2
open PySem PySem.Spec PyProof.Rows
inductive V where
  | non | bl (b : Bool) | int (i : Int) | str (x : Str) | byt (b : Array UInt8) | flt (b : UInt64) | ref (a : Addr) | ty (n : String)
  deriving DecidableEq
def RelV : V → Value → Prop
  | .non, u => u = Value.none
  | .bl b, u => u = Value.bool b
  | .int i, u => ∃ t, u = Value.int i t
  | .str x, u => ∃ t, u = Value.str x t
  | .byt b, u => ∃ t, u = Value.bytes b t
  | .flt b, u => ∃ t, u = Value.float b t
  | .ref a, u => u = Value.ref a
  | .ty n, u => u = Value.type n
abbrev Vals : List V → List Value → Prop := Paired RelV
theorem Vals.length {xs : List V} {us : List Value} (r : Vals xs us) : xs.length = us.length := Paired.length r
theorem Vals.get : ∀ {xs : List V} {us : List Value} {i : Nat} {x : V}, Vals xs us → xs[i]? = some x → ∃ u, us[i]? = some u ∧ RelV x u
  | _, _, _, _, .nil, e => by simp at e
  | _, _, 0, _, .cons r _, e => by simp at e; subst e; exact ⟨_, rfl, r⟩
  | _, _, i + 1, x, .cons _ t, e => by
    obtain ⟨u, h1, h2⟩ := Vals.get (i := i) (x := x) t (by simpa using e)
    exact ⟨u, by simpa using h1, h2⟩
theorem Vals.append : ∀ {xs ys : List V} {us ws : List Value}, Vals xs us → Vals ys ws → Vals (xs ++ ys) (us ++ ws)
  | _, _, _, _, .nil, s => s
  | _, _, _, _, .cons r t, s => .cons r (Vals.append t s)
theorem Vals.take : ∀ {xs : List V} {us : List Value} (n : Nat), Vals xs us → Vals (xs.take n) (us.take n)
  | _, _, 0, _ => .nil
  | _, _, _ + 1, .nil => .nil
  | _, _, n + 1, .cons r t => .cons r (Vals.take n t)
theorem Vals.drop : ∀ {xs : List V} {us : List Value} (n : Nat), Vals xs us → Vals (xs.drop n) (us.drop n)
  | _, _, 0, r => r
  | _, _, _ + 1, .nil => .nil
  | _, _, n + 1, .cons _ t => Vals.drop n t
def RelO : Option V → Option Value → Prop
  | some v, some u => RelV v u
  | none, none => True
  | _, _ => False
def KV {κ : Type} : List (κ × V) → List (κ × Value) → Prop := Paired fun (p : κ × V) (q : κ × Value) => p.1 = q.1 ∧ RelV p.2 q.2
def kV : Key → V
  | .inl i => .int i
  | .inr x => .str x
inductive HO where
  /-- a list -/
  | lst (xs : List V)
  /-- a tuple (never changes) -/
  | tup (xs : List V)
  /-- a dict whose keys are ints and texts; one whose keys are tuples of ints and texts (the empty one is both) -/
  | dK (kvs : List (Key × V)) | dT (kvs : List (List Key × V))
  /-- a set of ints: its members, its size -/
  | set (S : Int → Bool) (n : Nat)
  /-- an instance of the class at C, its dict at dx, its attributes -/
  | ins (C dx : Addr) (fs : List (Str × V))
  /-- the dict of the instance at x -/
  | own (x : Addr)
  /-- the dict of an exception -/
  | xd (fs : List (Str × V))
  /-- a bound method, f of x -/
  | met (f x : Addr)
  /-- a range object lo, lo + 1, .. below hi -/
  | rng (lo hi : Int)
  /-- a thing that is known to the object (the script; a dict while a loop walks it): read, never written while it is so -/
  | frz (o : Obj) (u : HO)
  /-- a code object's table -/
  | tbl (ps : Array Value)
  /-- any other thing, by what is true of its one object (a def of one's own: SetO a S n := HO.ext fun h => ..) -/
  | ext (φ : Heap → Prop)
abbrev Hp := Addr → Option HO
def upd (H : Hp) (a : Addr) (o : HO) : Hp := fun b => if b = a then some o else H b
theorem upd_same {H : Hp} {a : Addr} {o : HO} : upd H a o a = some o := by unfold upd; rw [if_pos rfl]
theorem upd_ne {H : Hp} {a b : Addr} {o : HO} (h : b ≠ a) : upd H a o b = H b := by unfold upd; rw [if_neg h]
theorem upd_upd {H : Hp} {a : Addr} {o u : HO} : upd (upd H a o) a u = upd H a u := by
  funext b; unfold upd; split <;> rfl
theorem ne_of {H : Hp} {a b : Addr} {o u : HO} (h : H a = some o) (h' : H b = some u) (d : o ≠ u) : a ≠ b := by
  intro e; subst e; rw [h] at h'; exact d (Option.some.inj h')
theorem ne_of_none {H : Hp} {a b : Addr} {o : HO} (h : H a = some o) (h' : H b = none) : a ≠ b := by
  intro e; subst e; rw [h] at h'; cases h'
section
variable (P : Program) (w : World)
def ObjOk (H : Hp) (h : Heap) (a : Addr) : HO → Prop
  | .lst xs => xs.length ≤ sizeLine ∧ ∃ (its : List Value) (n : Nat), Vals xs its ∧ h.get? a = some { cls := .type "list", data := .seq its.toArray n }
  | .tup xs => xs.length ≤ sizeLine ∧ ∃ its : List Value, Vals xs its ∧ IsTup h a its.toArray
  | .dK kvs => kvs.length ≤ sizeLine ∧ (a == sysModules) = false ∧ ∃ vs, KV kvs vs ∧ h.DictOf (mixKind P w) a vs
  | .dT kvs => kvs.length ≤ sizeLine ∧ (a == sysModules) = false ∧ ∃ xs : List (List Key × Addr × Value),
      Paired (fun (p : List Key × V) (q : List Key × Addr × Value) => p.1 = q.1 ∧ H q.2.1 = some (.tup (p.1.map kV)) ∧ RelV p.2 q.2.2) kvs xs ∧
      ∃ o es ep, h.get? a = some o ∧ o.ExactDict ∧ o.data = .dict es ep ∧ es.toList = xs.map (entryOfKey (tupleKind (mixKind P w))) ∧ (xs.map (·.1)).Nodup
  | .set S n => h.SetOf (intKind P w) a S n
  | .ins C dx fs => H dx = some (.own a) ∧ fs.length ≤ 1000 ∧ dx ≠ a ∧ h.get? a = some (PySem.W.instObj C dx) ∧
      ∃ mA, h.Ns1 dx mA ∧ (∀ f, RelO (fs.lookup f) (mA f)) ∧ PySem.Within mA (fs.map (·.1))
  | .own _ => ∃ o, h.get? a = some o
  | .xd fs => ∃ mA, h.Ns1 a mA ∧ ∀ f, RelO (fs.lookup f) (mA f)
  | .rng lo hi => ∃ t u v, h.get? a = some { cls := .type "range", data := .fields #[.int lo t, .int hi u, .int 1 v] }
  | .frz o u => h.get? a = some o ∧ ObjOk H h a u
  | .tbl ps => h.get? a = some { cls := .none, data := .fields ps }
  | .met f x => h.get? a = some (PySem.W.methodObj (.ref f) (.ref x))
  | .ext φ => φ h ∧ (∃ o, h.get? a = some o) ∧ ∀ h1 h2 : Heap, φ h1 → (∀ o, h1.get? a = some o → h2.get? a = some o) → φ h2
def HOk (H : Hp) (h : Heap) : Prop := ∀ a o, H a = some o → ObjOk P w H h a o
end
section
variable {P : Program} {w : World} {H H' : Hp} {h h' : Heap} {a : Addr} {o : HO}
theorem ObjOk.lt (x : ObjOk P w H h a o) : a < h.objs.size := by
  cases o with
  | lst xs => obtain ⟨_, _, _, _, e⟩ := x; exact Heap.lt_size e
  | tup xs => obtain ⟨_, _, _, p⟩ := x; exact p.lt
  | dK kvs => obtain ⟨_, _, _, _, o, _, _, e, _⟩ := x; exact Heap.lt_size e
  | dT kvs => obtain ⟨_, _, _, _, o, _, _, e, _⟩ := x; exact Heap.lt_size e
  | set S n => obtain ⟨o, _, _, _, e, _⟩ := x; exact Heap.lt_size e
  | ins C dx fs => obtain ⟨_, _, _, e, _⟩ := x; exact Heap.lt_size e
  | own y => obtain ⟨_, e⟩ := x; exact Heap.lt_size e
  | xd fs => obtain ⟨_, ⟨_, _, _, e, _⟩, _⟩ := x; exact Heap.lt_size e
  | rng lo hi => obtain ⟨_, _, _, e⟩ := x; exact Heap.lt_size e
  | frz ob u => obtain ⟨e, _⟩ := x; exact Heap.lt_size e
  | tbl ps => exact Heap.lt_size (show h.get? a = some _ from x)
  | met f y => exact Heap.lt_size (show h.get? a = some _ from x)
  | ext φ => obtain ⟨_, ⟨_, e⟩, _⟩ := x; exact Heap.lt_size e
theorem Paired.mapP {α β : Type} {F G : α → β → Prop} : ∀ {l₁ : List α} {l₂ : List β}, Paired F l₁ l₂ → (∀ a b, F a b → G a b) → Paired G l₁ l₂
  | _, _, .nil, _ => .nil
  | _, _, .cons r t, f => .cons (f _ _ r) (Paired.mapP t f)
theorem ObjOk.stay (x : ObjOk P w H h a o) (k : ∀ b u, (b = a ∨ H b = some (.own a)) → h.get? b = some u → h'.get? b = some u)
    (ho : ∀ b, H b = some (.own a) → H' b = some (.own a)) (ht : ∀ b xs, H b = some (.tup xs) → H' b = some (.tup xs)) : ObjOk P w H' h' a o := by
  induction o with
  | lst xs => obtain ⟨z, its, n, r, e⟩ := x; exact ⟨z, its, n, r, k _ _ (.inl rfl) e⟩
  | tup xs => obtain ⟨z, its, r, ob, e, c⟩ := x; exact ⟨z, its, r, ob, k _ _ (.inl rfl) e, c⟩
  | dK kvs => obtain ⟨z, y, vs, r, ob, es, ep, e, c⟩ := x; exact ⟨z, y, vs, r, ob, es, ep, k _ _ (.inl rfl) e, c⟩
  | dT kvs =>
    obtain ⟨z, y, xs, r, ob, es, ep, e, c⟩ := x
    exact ⟨z, y, xs, Paired.mapP r fun p q z => ⟨z.1, ht _ _ z.2.1, z.2.2⟩, ob, es, ep, k _ _ (.inl rfl) e, c⟩
  | set S n => obtain ⟨ob, es, ep, t, e, c⟩ := x; exact ⟨ob, es, ep, t, k _ _ (.inl rfl) e, c⟩
  | ins C dx fs =>
    obtain ⟨d, z, ne, e, mA, ⟨od, es, ep, e2, c⟩, r⟩ := x
    exact ⟨ho _ d, z, ne, k _ _ (.inl rfl) e, mA, ⟨od, es, ep, k _ _ (.inr d) e2, c⟩, r⟩
  | own y => obtain ⟨ob, e⟩ := x; exact ⟨ob, k _ _ (.inl rfl) e⟩
  | xd fs => obtain ⟨mA, ⟨od, es, ep, e, c⟩, r⟩ := x; exact ⟨mA, ⟨od, es, ep, k _ _ (.inl rfl) e, c⟩, r⟩
  | rng lo hi => obtain ⟨t, u, v, e⟩ := x; exact ⟨t, u, v, k _ _ (.inl rfl) e⟩
  | frz ob u ih => obtain ⟨e, q⟩ := x; exact ⟨k _ _ (.inl rfl) e, ih q⟩
  | tbl ps =>
    have e : h.get? a = some { cls := .none, data := .fields ps } := x
    show h'.get? a = some { cls := .none, data := .fields ps }
    exact k a _ (.inl rfl) e
  | met f y =>
    have e : h.get? a = some (PySem.W.methodObj (.ref f) (.ref y)) := x
    show h'.get? a = some (PySem.W.methodObj (.ref f) (.ref y))
    exact k a _ (.inl rfl) e
  | ext φ => obtain ⟨p, ⟨o, e⟩, st⟩ := x; exact ⟨st _ _ p fun o q => k _ _ (.inl rfl) q, ⟨o, k _ _ (.inl rfl) e⟩, st⟩
theorem HOk.lt (x : HOk P w H h) (e : H a = some o) : a < h.objs.size := (x a o e).lt
theorem HOk.fresh (x : HOk P w H h) (e : h.objs.size ≤ a) : H a = none := by
  cases q : H a with
  | none => rfl
  | some u => exact absurd (Nat.lt_of_lt_of_le (x.lt q) e) (Nat.lt_irrefl _)
theorem HOk.kept (x : HOk P w H h) (k : ∀ b u, h.get? b = some u → h'.get? b = some u) : HOk P w H h' := fun a o e =>
  (x a o e).stay (fun b u _ q => k b u q) (fun _ q => q) fun _ _ q => q
theorem HOk.laid (x : HOk P w H h) (k : ∀ b u, h.get? b = some u → h'.get? b = some u) (hp : h.objs.size ≤ a) (new : ObjOk P w (upd H a o) h' a o) : HOk P w (upd H a o) h' := fun b u e => by
  have hn := x.fresh hp
  by_cases hb : b = a
  · subst hb; rw [upd_same] at e; cases e; exact new
  · rw [upd_ne hb] at e
    exact (x b u e).stay (fun c v _ q => k c v q) (fun c q => by rw [upd_ne (ne_of_none q hn)]; exact q) fun c xs q => by rw [upd_ne (ne_of_none q hn)]; exact q
end
def Rd (H : Hp) (a : Addr) (u : HO) : Prop := H a = some u ∨ ∃ o, H a = some (.frz o u)
theorem Rd.ok {P : Program} {w : World} {H : Hp} {h : Heap} {a : Addr} {u : HO} (r : Rd H a u) (x : HOk P w H h) : ObjOk P w H h a u := by
  rcases r with r | ⟨o, r⟩
  · exact x a u r
  · obtain ⟨_, q⟩ := x a _ r
    exact q
def Mut : Option HO → Prop
  | some (.lst _) => True
  | some (.dK _) => True
  | some (.dT _) => True
  | some (.set _ _) => True
  | some (.ins _ _ _) => True
  | some (.ext _) => True
  | _ => False
section
variable {P : Program} {w : World} {H : Hp} {h h' : Heap} {x e : Addr} {o' : HO}
theorem HOk.write (ok : HOk P w H h) (mu : Mut (H x)) (he : e = x ∨ H e = some (.own x)) (k : ∀ b u, b ≠ e → h.get? b = some u → h'.get? b = some u) (heo : ∃ u, h'.get? e = some u)
    (new : ObjOk P w (upd H x o') h' x o') : HOk P w (upd H x o') h' := fun b u q => by
  have nown : ∀ c y, H c = some (.own y) → c ≠ x := fun c y r z => by subst z; rw [r] at mu; exact mu
  have ntup : ∀ c xs, H c = some (.tup xs) → c ≠ x := fun c xs r z => by subst z; rw [r] at mu; exact mu
  by_cases hb : b = x
  · subst hb; rw [upd_same] at q; cases q; exact new
  · rw [upd_ne hb] at q
    by_cases hbe : b = e
    · have q' : H b = some (.own x) := by
        rcases he with z | z
        · exact absurd (hbe.trans z) hb
        · rw [hbe]; exact z
      rw [q] at q'; cases q'
      obtain ⟨v, hv⟩ := heo
      exact ⟨v, by rw [hbe]; exact hv⟩
    · refine (ok b u q).stay (fun c v hc r => k c v ?_ r) (fun c r => by rw [upd_ne (nown c b r)]; exact r) fun c xs r => by rw [upd_ne (ntup c xs r)]; exact r
      rcases hc with rfl | hc
      · exact hbe
      · rintro rfl
        rcases he with z | z
        · exact nown c b hc z
        · rw [hc] at z; cases z; exact hb rfl
end
structure Un (fs ex : List Addr) (H H' : Hp) (h h' : Heap) : Prop where
  keep : ∀ b o, h.get? b = some o → H b = none → b ∉ fs → b ∉ ex → h'.get? b = some o
  slot : ∀ b o, h.get? b = some o → H b = none → b ∈ fs → b ∉ ex → ∃ sl, h'.get? b = some { o with slots := sl }
  free : ∀ b o, h.get? b = some o → H b = none → b ∉ ex → H' b = none
  there : ∀ b o, h.get? b = some o → b ∉ ex → ∃ o', h'.get? b = some o'
  tups : ∀ b xs, H b = some (.tup xs) → H' b = some (.tup xs)
  frzs : ∀ b o u, H b = some (.frz o u) → H' b = some (.frz o u)
  tbls : ∀ b ps, H b = some (.tbl ps) → ∃ more, H' b = some (.tbl (ps ++ more))
section
variable {fs fs' ex ex' : List Addr} {H H1 H2 : Hp} {h h1 h2 h' : Heap} {a x e : Addr} {o : HO}
theorem Un.any (u : Un fs ex H H1 h h1) {b : Addr} {ob : Obj} (q : h.get? b = some ob) (n : H b = none) (hx : b ∉ ex) : ∃ sl, h1.get? b = some { ob with slots := sl } := by
  by_cases hb : b ∈ fs
  · exact u.slot b ob q n hb hx
  · exact ⟨ob.slots, u.keep b ob q n hb hx⟩
theorem Un.kept (k : ∀ b u, h.get? b = some u → h'.get? b = some u) : Un fs ex H H h h' :=
  ⟨fun b ob q _ _ _ => k b ob q, fun b ob q _ _ _ => ⟨ob.slots, k b ob q⟩, fun _ _ _ n _ => n, fun b ob q _ => ⟨ob, k b ob q⟩, fun _ _ q => q, fun _ _ _ q => q, fun _ ps q => ⟨#[], by rw [q]; simp⟩⟩
theorem Un.refl : Un fs ex H H h h := Un.kept fun _ _ q => q
theorem Un.laid (k : ∀ b u, h.get? b = some u → h'.get? b = some u) (hp : h.objs.size ≤ a) (hn : H a = none) : Un fs ex H (upd H a o) h h' where
  keep := fun b u q _ _ _ => k b u q
  slot := fun b u q _ _ _ => ⟨u.slots, k b u q⟩
  free := fun b u q n _ => by rw [upd_ne (Nat.ne_of_lt (Nat.lt_of_lt_of_le (Heap.lt_size q) hp))]; exact n
  there := fun b u q _ => ⟨u, k b u q⟩
  tups := fun b xs q => by rw [upd_ne (ne_of_none q hn)]; exact q
  frzs := fun b u xs q => by rw [upd_ne (ne_of_none q hn)]; exact q
  tbls := fun b ps q => ⟨#[], by rw [upd_ne (ne_of_none q hn), q]; simp⟩
theorem Un.write (mu : Mut (H x)) (he : e = x ∨ H e = some (.own x)) (k : ∀ b u, b ≠ e → h.get? b = some u → h'.get? b = some u) (heo : ∃ u, h'.get? e = some u) : Un fs ex H (upd H x o) h h' := by
  have hx : ∀ b, H b = none → b ≠ x := fun b n z => by subst z; rw [n] at mu; exact mu
  have hb : ∀ b, H b = none → b ≠ e := fun b n z => by
    subst z
    rcases he with r | r
    · exact hx b n r
    · rw [n] at r; cases r
  have hm : ∀ b u, H b = some u → ¬ Mut (some u) → b ≠ x := fun b u q nm z => by subst z; rw [q] at mu; exact nm mu
  refine ⟨fun b u q n _ _ => k b u (hb b n) q, fun b u q n _ _ => ⟨u.slots, k b u (hb b n) q⟩, fun b u q n _ => by rw [upd_ne (hx b n)]; exact n, fun b u q _ => ?_,
    fun b xs q => by rw [upd_ne (hm b _ q fun z => z)]; exact q, fun b u xs q => by rw [upd_ne (hm b _ q fun z => z)]; exact q, fun b ps q => ⟨#[], by rw [upd_ne (hm b _ q fun z => z), q]; simp⟩⟩
  by_cases hbe : b = e
  · subst hbe; exact heo
  · exact ⟨u, k b u hbe q⟩
end
def trk (h : Heap) (H : Hp) : List Addr := (List.range h.objs.size).filter fun a => (H a).isSome
def hidT (h : Heap) (H : Hp) : Heap := PySem.W.hideAll h (trk h H)
theorem hidT_size (h : Heap) (H : Hp) : (hidT h H).objs.size = h.objs.size := PySem.W.hideAll_size _ _
theorem hidT_get {h : Heap} {H : Hp} {b : Addr} {o : Obj} (e : h.get? b = some o) (n : H b = none) : (hidT h H).get? b = some o :=
  PySem.W.hideAll_get _ e fun hm => by
    have q : (H b).isSome = true := (List.mem_filter.mp hm).2
    rw [n] at q; simp at q
theorem of_hidT {h : Heap} {H : Hp} {b : Addr} {o : Obj} (e : (hidT h H).get? b = some o) : h.get? b = some o ∧ H b = none := by
  have e' : h.get? b = some o := PySem.W.of_hideAll (trk h H) e
  refine ⟨e', ?_⟩
  cases q : H b with
  | none => rfl
  | some x =>
    have hm : b ∈ trk h H := List.mem_filter.mpr ⟨List.mem_range.mpr (Heap.lt_size e'), by simp [q]⟩
    have z : (hidT h H).get? b = none := PySem.W.hideAll_none (trk h H) hm
    rw [z] at e; cases e
end L2
namespace L2
open PySem PySem.Spec PyProof.Rows
structure Mod (K : PySem.W.Frag) (mg : Str → Option Value) (base : Heap) : Prop where
  kin : K.In base
  glob : base.Ns mainGlobals mg
  blt : ∃ mb, base.Ns builtinsNs mb ∧ ∀ x : Str, x ≠ "__name__" → mb x = bootBuiltins x
  nolimit : base.NoLimit
structure Cx where
  prog : Program
  w : World
  K : PySem.W.Frag
  mg : Str → Option Value
  base : Heap
  A : Around
  N : List Str
  s_0 : Shared
  H_0 : Hp
  env : Env
  outer : List Env
  stack : List Env
  ex : List Addr
  fn : Str → Bool
  calm : Bool
  pn : List (Addr × Obj)
  xe : Value → Shared → Prop
def frs (l : List Env) : List Addr := l.filterMap (·.frame)
abbrev Cx.fs (X : Cx) : List Addr := frs X.outer
def Vis (sc : Scope) (x : Str) : Prop := sc.names.lookup x = some .local ∨ sc.names.lookup x = some .cell ∨ sc.names.lookup x = some .free
def Loc (sc : Scope) (x : Str) : Prop := sc.names.lookup x = some .local ∨ sc.names.lookup x = some .cell
def Look (env : Env) (h : Heap) (m : Str → Option Value) (x : Str) (u : Value) : Prop :=
  (env.kindOf x = some .local ∧ m x = some u) ∨ ((env.kindOf x = some .cell ∨ env.kindOf x = some .free) ∧ ∃ c, env.cells.lookup x = some c ∧ h.IsCell c (some u))
structure Cx.Ok (X : Cx) : Prop where
  mod : Mod X.K X.mg X.base
  kind : X.env.scope.kind = .function
  glob : X.env.globals = mainGlobals
  blt : X.env.builtins = builtinsNs
  above : X.s_0.heap.objs.size ≤ X.env.locals
  inj : ∀ x y c, X.env.cells.lookup x = some c → X.env.cells.lookup y = some c → x = y
  has : ∀ x, (X.env.kindOf x = some .cell ∨ X.env.kindOf x = some .free) → ∃ c, X.env.cells.lookup x = some c
  cab : ∀ x c, X.fn x = true → X.env.cells.lookup x = some c → X.s_0.heap.objs.size ≤ c
  hd : X.calm = true → X.A.handled = none
  frames : X.A.frames = some X.stack
  stk : X.stack = X.outer ∨ (X.stack = X.env :: X.outer ∧ X.env.frame = some X.env.locals)
  exf : ∀ b ∈ X.ex, b ≠ X.env.locals ∧ ∀ x c, X.env.cells.lookup x = some c → c ≠ b
  bs : ∀ b o, X.base.get? b = some o → X.s_0.heap.get? b = some o ∧ X.H_0 b = none
  bsz : X.base.objs.size ≤ X.s_0.heap.objs.size
  noex : ∀ b o, X.base.get? b = some o → b ∉ X.ex
  exfs : ∀ b ∈ X.ex, b ∉ X.fs
  funs : X.s_0.heap.FunFrames X.base X.outer
  frf : ∀ b ∈ X.fs, X.H_0 b = none
structure Inv (X : Cx) (pins : List (Addr × Obj)) (σ : List (Option V)) (H : Hp) (s : Shared) : Prop where
  ok : X.Ok
  os : s.os = X.s_0.os
  bare : AllBare s.gens
  base : Un X.fs X.ex X.H_0 H X.s_0.heap s.heap
  loc : ∃ m, s.heap.Ns X.env.locals m ∧ ∀ (i : Nat) (x : Str) (v : V), X.N[i]? = some x → σ[i]? = some (some v) → Vis X.env.scope x → ∃ u, RelV v u ∧ Look X.env s.heap m x u
  cell : ∀ x c, X.env.cells.lookup x = some c → ∃ v, s.heap.IsCell c v
  free : H X.env.locals = none
  freeC : ∀ x c, X.env.cells.lookup x = some c → H c = none
  pin : ∀ p ∈ X.pn ++ pins, s.heap.get? p.1 = some p.2 ∧ H p.1 = none ∧ p.1 ≠ X.env.locals ∧ p.1 ∉ X.fs ∧ ∀ v, p.2.data ≠ .cell v
  hok : HOk X.prog X.w H s.heap
  len : σ.length = X.N.length
section
variable {X : Cx} {pins : List (Addr × Obj)} {σ : List (Option V)} {H H' : Hp} {s : Shared} {h' : Heap}
theorem Cx.Ok.nofr (ok : X.Ok) {b : Addr} {o : Obj} (e : X.base.get? b = some o) : b ∉ X.fs := fun hb => by
  have := (ok.funs.mem hb).1
  rw [e] at this; cases this
theorem Inv.bs (I : Inv X pins σ H s) : ∀ b o, X.base.get? b = some o → s.heap.get? b = some o ∧ H b = none := fun b o e =>
  ⟨I.base.keep b o (I.ok.bs b o e).1 (I.ok.bs b o e).2 (I.ok.nofr e) (I.ok.noex b o e), I.base.free b o (I.ok.bs b o e).1 (I.ok.bs b o e).2 (I.ok.noex b o e)⟩
theorem Inv.bk (I : Inv X pins σ H s) : ∀ b o, X.base.get? b = some o → s.heap.get? b = some o := fun b o e => (I.bs b o e).1
theorem Inv.mod (I : Inv X pins σ H s) : Mod X.K X.mg X.base := I.ok.mod
theorem Inv.kIn (I : Inv X pins σ H s) : X.K.In s.heap := I.ok.mod.kin.keeps I.bk
theorem Inv.lt (I : Inv X pins σ H s) : X.env.locals < s.heap.objs.size := let ⟨_, hn, _⟩ := I.loc; hn.lt
theorem Inv.sz (I : Inv X pins σ H s) : X.s_0.heap.objs.size ≤ s.heap.objs.size := Nat.le_trans I.ok.above (Nat.le_of_lt I.lt)
theorem Inv.nofs (I : Inv X pins σ H s) {a : Addr} (h : s.heap.objs.size ≤ a) : a ∉ X.fs := fun hb => by
  obtain ⟨_, o, ho, _⟩ := I.ok.funs.mem hb
  exact absurd (Nat.lt_of_lt_of_le (Heap.lt_size ho) (Nat.le_trans I.sz h)) (Nat.lt_irrefl _)
theorem Inv.cne (I : Inv X pins σ H s) : ∀ x c, X.env.cells.lookup x = some c → c ≠ X.env.locals := fun x c e z => by
  obtain ⟨v, o, ho, hd⟩ := I.cell x c e
  obtain ⟨m, ⟨o', es, ep, ho', hd', _⟩, _⟩ := I.loc
  rw [z, ho'] at ho; cases ho; rw [hd'] at hd; cases hd
theorem Inv.funs (I : Inv X pins σ H s) : s.heap.FunFrames X.base X.outer := by
  have all : ∀ (l : List Env), (∀ b ∈ frs l, b ∈ X.fs) → X.s_0.heap.FunFrames X.base l → s.heap.FunFrames X.base l := by
    intro l
    induction l with
    | nil => intro _ _; trivial
    | cons env r ih =>
      intro hs hl
      obtain ⟨hk, ⟨L, o, hf, hn, ho, hd⟩, hr⟩ := hl
      have hL : L ∈ X.fs := hs L (by unfold frs; rw [List.filterMap_cons, hf]; exact List.mem_cons_self)
      obtain ⟨sl, e⟩ := I.base.slot L o ho (I.ok.frf L hL) hL fun z => I.ok.exfs L z hL
      exact ⟨hk, ⟨L, _, hf, hn, e, hd⟩, ih (fun b hb => hs b (by unfold frs; rw [List.filterMap_cons, hf]; exact List.mem_cons_of_mem _ hb)) hr⟩
  exact all X.outer (fun _ hb => hb) I.ok.funs
theorem Inv.stack (I : Inv X pins σ H s) : s.heap.FunFrames X.base X.stack := by
  rcases I.ok.stk with e | ⟨e, hf⟩
  · rw [e]; exact I.funs
  · rw [e]
    obtain ⟨m, hn, _⟩ := I.loc
    refine .cons (by rw [I.ok.kind]; decide) hf hn ?_ I.funs
    exact Heap.get?_none_of_le (Nat.le_trans I.ok.bsz I.ok.above)
theorem Inv.stkSub (I : Inv X pins σ H s) : ∀ b ∈ frs X.stack, b ∈ X.env.locals :: X.fs := fun b hb => by
  rcases I.ok.stk with e | ⟨e, hf⟩
  · rw [e] at hb; exact List.mem_cons_of_mem _ hb
  · rw [e] at hb
    unfold frs at hb
    rw [List.filterMap_cons, hf] at hb
    exact hb
theorem Inv.stkFree (I : Inv X pins σ H s) : ∀ b ∈ frs X.stack, H b = none := fun b hb => by
  rcases List.mem_cons.mp (I.stkSub b hb) with e | hb
  · rw [e]; exact I.free
  · obtain ⟨_, o, ho, _⟩ := I.ok.funs.mem hb
    exact I.base.free b o ho (I.ok.frf b hb) fun z => I.ok.exfs b z hb
theorem Inv.step {g' : Array GenState} {t' : Nat} {d' : Drawn} {ch : List Addr} (I : Inv X pins σ H s)
    (hch : ∀ b ∈ ch, (b ∈ X.ex ∨ X.s_0.heap.objs.size ≤ b) ∧ b ≠ X.env.locals ∧ (∀ x c, X.env.cells.lookup x = some c → c ≠ b) ∧ ∀ p ∈ X.pn ++ pins, p.1 ≠ b)
    (keep : ∀ b o, b ≠ X.env.locals → b ∉ X.fs → b ∉ ch → s.heap.get? b = some o → H b = none → h'.get? b = some o)
    (slot : ∀ b o, b ≠ X.env.locals → b ∈ X.fs → b ∉ ch → s.heap.get? b = some o → H b = none → ∃ sl, h'.get? b = some { o with slots := sl }) (free : ∀ b o, b ∉ ch → s.heap.get? b = some o → H b = none → H' b = none)
    (there : ∀ b o, b ∉ ch → s.heap.get? b = some o → ∃ o', h'.get? b = some o')
    (tups : ∀ b xs, H b = some (.tup xs) → H' b = some (.tup xs)) (frzs : ∀ b o u, H b = some (.frz o u) → H' b = some (.frz o u)) (tbls : ∀ b ps, H b = some (.tbl ps) → ∃ more, H' b = some (.tbl (ps ++ more)))
    (ns : ∀ m, s.heap.Ns X.env.locals m → h'.Ns X.env.locals m) (hok : HOk X.prog X.w H' h') (hg : AllBare g') :
    Inv X pins σ H' { s with heap := h', gens := g', drawn := d', toks := t' } := by
  have neL : ∀ b o, X.s_0.heap.get? b = some o → b ≠ X.env.locals := fun b o e => Nat.ne_of_lt (Nat.lt_of_lt_of_le (Heap.lt_size e) I.ok.above)
  have neC : ∀ b o, X.s_0.heap.get? b = some o → b ∉ X.ex → b ∉ ch := fun b o e hx hb => by
    rcases (hch b hb).1 with z | z
    · exact hx z
    · exact absurd (Nat.lt_of_lt_of_le (Heap.lt_size e) z) (Nat.lt_irrefl _)
  have cellK : ∀ x c, X.env.cells.lookup x = some c → ∀ v, s.heap.IsCell c v → h'.IsCell c v := fun x c e v ⟨o, ho, hd⟩ => by
    have nch : c ∉ ch := fun z => (hch c z).2.2.1 x c e rfl
    by_cases hc : c ∈ X.fs
    · obtain ⟨sl, q⟩ := slot c o (I.cne x c e) hc nch ho (I.freeC x c e)
      exact ⟨_, q, hd⟩
    · exact ⟨o, keep c o (I.cne x c e) hc nch ho (I.freeC x c e), hd⟩
  refine ⟨I.ok, I.os, hg, ⟨fun b o e n hb hx => ?_, fun b o e n hb hx => ?_, fun b o e n hx => ?_, fun b o e hx => ?_, fun b xs e => tups b xs (I.base.tups b xs e), fun b o xs e => frzs b o xs (I.base.frzs b o xs e), fun b ps e => ?_⟩, ?_, fun x c e => ?_, ?_, fun x c e => ?_, fun p hp => ?_, hok, I.len⟩
  · exact keep b o (neL b o e) hb (neC b o e hx) (I.base.keep b o e n hb hx) (I.base.free b o e n hx)
  · obtain ⟨sl, e1⟩ := I.base.slot b o e n hb hx
    obtain ⟨sl', e2⟩ := slot b _ (neL b o e) hb (neC b o e hx) e1 (I.base.free b o e n hx)
    exact ⟨sl', e2⟩
  · obtain ⟨o', e1⟩ := I.base.there b o e hx
    exact free b o' (neC b o e hx) e1 (I.base.free b o e n hx)
  · obtain ⟨o', e1⟩ := I.base.there b o e hx
    exact there b o' (neC b o e hx) e1
  · obtain ⟨m1, e1⟩ := I.base.tbls b ps e
    obtain ⟨m2, e2⟩ := tbls b _ e1
    exact ⟨m1 ++ m2, by rw [e2, Array.append_assoc]⟩
  · obtain ⟨m, hn, hl⟩ := I.loc
    refine ⟨m, ns m hn, fun i x v e1 e2 e3 => ?_⟩
    obtain ⟨u, r, l⟩ := hl i x v e1 e2 e3
    refine ⟨u, r, ?_⟩
    rcases l with l | ⟨k, c, e, z⟩
    · exact .inl l
    · exact .inr ⟨k, c, e, cellK x c e _ z⟩
  · obtain ⟨v, z⟩ := I.cell x c e
    exact ⟨v, cellK x c e v z⟩
  · obtain ⟨m, ⟨o, _, _, ho, _⟩, _⟩ := I.loc
    exact free _ o (fun z => (hch _ z).2.1 rfl) ho I.free
  · obtain ⟨v, o, ho, hd⟩ := I.cell x c e
    exact free c o (fun z => (hch c z).2.2.1 x c e rfl) ho (I.freeC x c e)
  · obtain ⟨e, n, ne, nf, d⟩ := I.pin p hp
    have nch : p.1 ∉ ch := fun z => (hch p.1 z).2.2.2 p hp rfl
    exact ⟨keep p.1 p.2 ne nf nch e n, free p.1 p.2 nch e n, ne, nf, d⟩
theorem Inv.un {t' : Nat} (I : Inv X pins σ H s) (u : Un X.fs [] H H' s.heap h') (hok : HOk X.prog X.w H' h') : Inv X pins σ H' { s with heap := h', toks := t' } := by
  obtain ⟨m, ⟨o, es, ep, ho, r⟩, _⟩ := id I.loc
  obtain ⟨sl, hL⟩ := u.any ho I.free (by simp)
  exact I.step (g' := s.gens) (d' := s.drawn) (ch := []) (fun _ z => nomatch z) (fun b o _ hb _ e n => u.keep b o e n hb (by simp)) (fun b o _ hb _ e n => u.slot b o e n hb (by simp)) (fun b o _ e n => u.free b o e n (by simp)) (fun b o _ e => u.there b o e (by simp)) u.tups u.frzs u.tbls (fun m' hm => by
    obtain ⟨o', es', ep', ho', r'⟩ := hm
    rw [ho] at ho'; cases ho'
    exact ⟨_, es', ep', hL, r'⟩) hok I.bare
theorem Inv.call {g' : Array GenState} {t' : Nat} {d' : Drawn} {ch : List Addr} (I : Inv X pins σ H s) (u : Un (frs X.stack) ch H H' s.heap h') (hok : HOk X.prog X.w H' h') (hg : AllBare g')
    (hch : ∀ b ∈ ch, (b ∈ X.ex ∨ X.s_0.heap.objs.size ≤ b) ∧ b ≠ X.env.locals ∧ (∀ x c, X.env.cells.lookup x = some c → c ≠ b) ∧ ∀ p ∈ X.pn ++ pins, p.1 ≠ b) :
    Inv X pins σ H' { s with heap := h', gens := g', drawn := d', toks := t' } := by
  obtain ⟨m, ⟨o, es, ep, ho, r⟩, _⟩ := id I.loc
  obtain ⟨sl, hL⟩ := u.any ho I.free fun z => (hch _ z).2.1 rfl
  exact I.step (ch := ch) hch (fun b o hL hb hc e n => u.keep b o e n (fun z => (List.mem_cons.mp (I.stkSub b z)).elim hL hb) hc) (fun b o _ _ hc e n => u.any e n hc) (fun b o hc e n => u.free b o e n hc) (fun b o hc e => u.there b o e hc) u.tups u.frzs u.tbls (fun m' hm => by
    obtain ⟨o', es', ep', ho', r'⟩ := hm
    rw [ho] at ho'; cases ho'
    exact ⟨_, es', ep', hL, r'⟩) hok hg
theorem Inv.turned {t' : Nat} {it : Addr} (I : Inv X pins σ H s) (k : ∀ b o, b ≠ it → s.heap.get? b = some o → h'.get? b = some o) (hn : H it = none) (hL : it ≠ X.env.locals)
    (h1 : it ∈ X.ex ∨ X.s_0.heap.objs.size ≤ it) (h2 : ∀ x c, X.env.cells.lookup x = some c → c ≠ it) (h3 : ∀ p ∈ X.pn ++ pins, p.1 ≠ it) : Inv X pins σ H { s with heap := h', toks := t' } := by
  have nit : ∀ b u, H b = some u → b ≠ it := fun b u e z => by rw [z, hn] at e; cases e
  refine I.step (g' := s.gens) (d' := s.drawn) (ch := [it]) (fun b hb => ?_) (fun b o _ _ hc e _ => k b o (fun z => hc (by simp [z])) e) (fun b o _ _ hc e _ => ⟨o.slots, k b o (fun z => hc (by simp [z])) e⟩) (fun _ _ _ _ n => n)
    (fun b o hc e => ⟨o, k b o (fun z => hc (by simp [z])) e⟩) (fun _ _ e => e) (fun _ _ _ e => e) (fun b ps e => ⟨#[], by rw [e]; simp⟩) (fun m hm => ?_) (fun b u e => ?_) I.bare
  · have e : b = it := by simpa using hb
    subst e
    exact ⟨h1, hL, h2, h3⟩
  · obtain ⟨o, es, ep, ho, r⟩ := hm
    exact ⟨o, es, ep, k _ o (Ne.symm hL) ho, r⟩
  · refine (I.hok b u e).stay (fun c v hc q => k c v ?_ q) (fun _ q => q) fun _ _ q => q
    rcases hc with z | z
    · rw [z]; exact nit b u e
    · exact nit c _ z
theorem Inv.tok (I : Inv X pins σ H s) (t : Nat) : Inv X pins σ H { s with toks := t } := I.un (h' := s.heap) (t' := t) Un.refl I.hok
theorem Inv.kept {t' : Nat} (I : Inv X pins σ H s) (k : ∀ b u, s.heap.get? b = some u → h'.get? b = some u) : Inv X pins σ H { s with heap := h', toks := t' } := I.un (Un.kept k) (I.hok.kept k)
theorem Inv.laid {a : Addr} {o : HO} {t' : Nat} (I : Inv X pins σ H s) (k : ∀ b u, s.heap.get? b = some u → h'.get? b = some u) (hp : s.heap.objs.size ≤ a) (new : ObjOk X.prog X.w (upd H a o) h' a o) :
    Inv X pins σ (upd H a o) { s with heap := h', toks := t' } := I.un (Un.laid k hp (I.hok.fresh hp)) (I.hok.laid k hp new)
theorem Inv.write {x e : Addr} {o : HO} {t' : Nat} (I : Inv X pins σ H s) (mu : Mut (H x)) (he : e = x ∨ H e = some (.own x)) (k : ∀ b u, b ≠ e → s.heap.get? b = some u → h'.get? b = some u) (heo : ∃ u, h'.get? e = some u)
    (new : ObjOk X.prog X.w (upd H x o) h' x o) : Inv X pins σ (upd H x o) { s with heap := h', toks := t' } := I.un (Un.write mu he k heo) (I.hok.write mu he k heo new)
theorem Inv.weak {σ' : List (Option V)} (I : Inv X pins σ H s) (hl : σ'.length = σ.length) (w : ∀ (i : Nat) v, σ'[i]? = some (some v) → σ[i]? = some (some v)) : Inv X pins σ' H s :=
  ⟨I.ok, I.os, I.bare, I.base, let ⟨m, hn, hl'⟩ := I.loc; ⟨m, hn, fun i x v e1 e2 e3 => hl' i x v e1 (w i v e2) e3⟩, I.cell, I.free, I.freeC, I.pin, I.hok, hl.trans I.len⟩
theorem Inv.pins_of {pins' : List (Addr × Obj)} (I : Inv X pins σ H s) (h : ∀ p ∈ pins', s.heap.get? p.1 = some p.2 ∧ H p.1 = none ∧ p.1 ≠ X.env.locals ∧ p.1 ∉ X.fs ∧ ∀ v, p.2.data ≠ .cell v) : Inv X pins' σ H s :=
  ⟨I.ok, I.os, I.bare, I.base, I.loc, I.cell, I.free, I.freeC, fun p hp => (List.mem_append.mp hp).elim (fun z => I.pin p (List.mem_append_left _ z)) (h p), I.hok, I.len⟩
theorem nodup_ix {N : List Str} (hN : N.Nodup) {i j : Nat} {x : Str} (a : N[i]? = some x) (b : N[j]? = some x) : i = j := by
  obtain ⟨h1, e1⟩ := List.getElem?_eq_some_iff.mp a
  obtain ⟨h2, e2⟩ := List.getElem?_eq_some_iff.mp b
  exact (List.getElem_inj hN).mp (e1.trans e2.symm)
theorem store_ok2 {M : Model} {A : Around} {E : Value → Shared → Prop} {i : Nat} {x : Str} {v : V} {u : Value} {Q : Unit → Shared → Prop} (I : Inv X pins σ H s) (hN : X.N.Nodup) (hi : X.N[i]? = some x) (hx : Loc X.env.scope x) (r : RelV v u)
    (h : ∀ s', Inv X pins (σ.set i (some v)) H s' → (∃ a, Heap.SameBut a s.heap s'.heap ∧ (a = X.env.locals ∨ X.env.cells.lookup x = some a)) → Q () s') (hf : X.fn x = true ∨ X.env.scope.names.lookup x = some .local := by first | exact .inl rfl | exact .inr rfl | assumption) : wpAny M A (storeName X.env x u) Q E s := by
  obtain ⟨m, hn, hl⟩ := id I.loc
  have hcls : (X.env.scope.kind == .class || (X.env.scope.kind == .module && X.env.locals != X.env.globals)) = false := by rw [I.ok.kind]; rfl
  have hiσ : i < σ.length := by rw [I.len]; exact (List.getElem?_eq_some_iff.mp hi).1
  have cne := I.cne
  have tracked : ∀ {a : Addr} {h' : Heap}, (∃ o, s.heap.get? a = some o ∧ H a = none) → Heap.SameBut a s.heap h' → HOk X.prog X.w H h' := fun {a h'} ha hs b ob e => by
    obtain ⟨_, _, hfree⟩ := ha
    refine (I.hok b ob e).stay (fun c w' hc q => (hs.2 c ?_).trans q) (fun _ q => q) fun _ _ q => q
    rintro rfl
    rcases hc with rfl | hc
    · rw [hfree] at e; cases e
    · rw [hfree] at hc; cases hc
  rcases hx with hk | hk
  · refine wpAny_storeName_local hk hn (fun h' hn' hs => ?_) hcls
    obtain ⟨oL, _, _, hoL, _⟩ := id hn
    refine h _ ⟨I.ok, I.os, I.bare, ⟨fun b o e n hb hx => ?_, fun b o e n hb hx => ?_, I.base.free, fun b o e hx => ?_, I.base.tups, I.base.frzs, I.base.tbls⟩, ⟨_, hn', fun j y v' e1 e2 e3 => ?_⟩, fun y c e => ?_, I.free, I.freeC, fun p hp => ?_, tracked ⟨oL, hoL, I.free⟩ hs, by simpa using I.len⟩ ⟨_, hs, .inl rfl⟩
    · exact (hs.2 b (Nat.ne_of_lt (Nat.lt_of_lt_of_le (Heap.lt_size e) I.ok.above))).trans (I.base.keep b o e n hb hx)
    · obtain ⟨sl, e1⟩ := I.base.slot b o e n hb hx
      exact ⟨sl, (hs.2 b (Nat.ne_of_lt (Nat.lt_of_lt_of_le (Heap.lt_size e) I.ok.above))).trans e1⟩
    · obtain ⟨o', e1⟩ := I.base.there b o e hx
      exact ⟨o', (hs.2 b (Nat.ne_of_lt (Nat.lt_of_lt_of_le (Heap.lt_size e) I.ok.above))).trans e1⟩
    · by_cases hj : j = i
      · subst hj
        rw [hi] at e1; cases e1
        rw [List.getElem?_set_self hiσ] at e2
        cases e2
        exact ⟨u, r, .inl ⟨hk, by simp⟩⟩
      · rw [List.getElem?_set_ne (Ne.symm hj)] at e2
        obtain ⟨u', r', q⟩ := hl j y v' e1 e2 e3
        refine ⟨u', r', ?_⟩
        rcases q with ⟨k, e⟩ | ⟨k, c, e, z⟩
        · refine .inl ⟨k, ?_⟩
          have : y ≠ x := fun e => hj (nodup_ix hN e1 (e ▸ hi))
          simp [this, e]
        · exact .inr ⟨k, c, e, z.sameBut hs (cne y c e)⟩
    · obtain ⟨w', z⟩ := I.cell y c e
      exact ⟨w', z.sameBut hs (cne y c e)⟩
    · obtain ⟨e, n, ne, nf, d⟩ := I.pin p hp
      exact ⟨(hs.2 p.1 ne).trans e, n, ne, nf, d⟩
  · have hfn : X.fn x = true := by
      rcases hf with z | z
      · exact z
      · rw [z] at hk; cases hk
    obtain ⟨c, hc⟩ := I.ok.has x (.inl hk)
    obtain ⟨w', z⟩ := I.cell x c hc
    refine wpAny_storeName_cell I.ok.kind hk hc z (fun h' hc' hs => ?_)
    obtain ⟨oc, hoc, hocd⟩ := id z
    refine h { s with heap := h' } ⟨I.ok, I.os, I.bare, ⟨fun b o e n hb hx => ?_, fun b o e n hb hx => ?_, I.base.free, fun b o e hx => ?_, I.base.tups, I.base.frzs, I.base.tbls⟩, ⟨m, hn.sameBut hs (Ne.symm (cne x c hc)), fun j y v' e1 e2 e3 => ?_⟩, fun y c' e => ?_, I.free, I.freeC, fun p hp => ?_, tracked ⟨oc, hoc, I.freeC x c hc⟩ hs, by simpa using I.len⟩ ⟨c, hs, .inr hc⟩
    · exact (hs.2 b (Nat.ne_of_lt (Nat.lt_of_lt_of_le (Heap.lt_size e) (I.ok.cab x c hfn hc)))).trans (I.base.keep b o e n hb hx)
    · obtain ⟨sl, e1⟩ := I.base.slot b o e n hb hx
      exact ⟨sl, (hs.2 b (Nat.ne_of_lt (Nat.lt_of_lt_of_le (Heap.lt_size e) (I.ok.cab x c hfn hc)))).trans e1⟩
    · obtain ⟨o', e1⟩ := I.base.there b o e hx
      exact ⟨o', (hs.2 b (Nat.ne_of_lt (Nat.lt_of_lt_of_le (Heap.lt_size e) (I.ok.cab x c hfn hc)))).trans e1⟩
    · by_cases hj : j = i
      · subst hj
        rw [hi] at e1; cases e1
        rw [List.getElem?_set_self hiσ] at e2
        cases e2
        exact ⟨u, r, .inr ⟨.inl hk, c, hc, hc'⟩⟩
      · rw [List.getElem?_set_ne (Ne.symm hj)] at e2
        obtain ⟨u', r', q⟩ := hl j y v' e1 e2 e3
        refine ⟨u', r', ?_⟩
        rcases q with q | ⟨k, c', e, z'⟩
        · exact .inl q
        · refine .inr ⟨k, c', e, z'.sameBut hs ?_⟩
          rintro rfl
          exact hj (nodup_ix hN e1 (I.ok.inj _ _ _ e hc ▸ hi))
    · by_cases hcc : c' = c
      · subst hcc; exact ⟨_, hc'⟩
      · obtain ⟨w2, z2⟩ := I.cell y c' e
        exact ⟨w2, z2.sameBut hs hcc⟩
    · obtain ⟨e, n, ne, nf, d⟩ := I.pin p hp
      refine ⟨(hs.2 p.1 ?_).trans e, n, ne, nf, d⟩
      intro q
      rw [q, hoc] at e
      have q' : oc = p.2 := Option.some.inj e
      exact d w' (by rw [← q']; exact hocd)
theorem store_ok {M : Model} {A : Around} {E : Value → Shared → Prop} {i : Nat} {x : Str} {v : V} {u : Value} {Q : Unit → Shared → Prop} (I : Inv X pins σ H s) (hN : X.N.Nodup) (hi : X.N[i]? = some x) (hx : Loc X.env.scope x) (r : RelV v u)
    (h : ∀ s', Inv X pins (σ.set i (some v)) H s' → Q () s') (hf : X.fn x = true ∨ X.env.scope.names.lookup x = some .local := by first | exact .inl rfl | exact .inr rfl | assumption) : wpAny M A (storeName X.env x u) Q E s :=
  store_ok2 I hN hi hx r (fun s' I' _ => h s' I') hf
theorem Inv.call' {s' : Shared} {ch : List Addr} (I : Inv X pins σ H s) (ho : s'.os = s.os) (u : Un (frs X.stack) ch H H' s.heap s'.heap) (hok : HOk X.prog X.w H' s'.heap) (hg : AllBare s'.gens)
    (hch : ∀ b ∈ ch, (b ∈ X.ex ∨ X.s_0.heap.objs.size ≤ b) ∧ b ≠ X.env.locals ∧ (∀ x c, X.env.cells.lookup x = some c → c ≠ b) ∧ ∀ p ∈ X.pn ++ pins, p.1 ≠ b) : Inv X pins σ H' s' := by
  obtain ⟨h', g', d', t', o'⟩ := s'
  have e : o' = s.os := ho
  subst e
  exact I.call (g' := g') (t' := t') (d' := d') u hok hg hch
end
abbrev XK := Value → Option Addr → Hp → Prop
abbrev St := List (Option V)
abbrev VK := V → Hp → Prop
abbrev TE := St → Hp → VK → Prop
abbrev TT := St → Hp → (Bool → Hp → Prop) → Prop
abbrev TA := St → Hp → (List V → Hp → Prop) → Prop
structure Ends where
  nx : St → Hp → Prop
  rt : VK
  bk : St → Hp → Prop := fun _ _ => False
  ct : St → Hp → Prop := fun _ _ => False
abbrev TS := Ends → St → Hp → Prop
def EP (X : Cx) (pins : List (Addr × Obj)) (σ : St) (Q : VK) (u : Value) (s' : Shared) : Prop := ∃ v H', Inv X pins σ H' s' ∧ RelV v u ∧ Q v H'
def TP (X : Cx) (pins : List (Addr × Obj)) (σ : St) (Q : Bool → Hp → Prop) (b : Bool) (s' : Shared) : Prop := ∃ H', Inv X pins σ H' s' ∧ Q b H'
def AP (X : Cx) (pins : List (Addr × Obj)) (σ : St) (Q : List V → Hp → Prop) (us : List Value) (s' : Shared) : Prop := ∃ vs H', Inv X pins σ H' s' ∧ Vals vs us ∧ Q vs H'
def SP (X : Cx) (pins : List (Addr × Obj)) (D : Ends) (f : Flow) (s' : Shared) : Prop :=
  match f with
  | .next => ∃ σ' H', Inv X pins σ' H' s' ∧ D.nx σ' H'
  | .brk => ∃ σ' H', Inv X pins σ' H' s' ∧ D.bk σ' H'
  | .cont => ∃ σ' H', Inv X pins σ' H' s' ∧ D.ct σ' H'
  | .ret u => ∃ v σ' H', Inv X pins σ' H' s' ∧ RelV v u ∧ D.rt v H'
def PE (X : Cx) (e : Expr) (t : TE) : Prop :=
  ∀ (pins : List (Addr × Obj)) (s : Shared) (σ : St) (H : Hp) (Q : VK), Inv X pins σ H s → t σ H Q → wpAny (model X.prog X.w) X.A (eval e X.env) (EP X pins σ Q) X.xe s
def PT (X : Cx) (e : Expr) (t : TT) : Prop :=
  ∀ (pins : List (Addr × Obj)) (s : Shared) (σ : St) (H : Hp) (Q : Bool → Hp → Prop), Inv X pins σ H s → t σ H Q → wpAny (model X.prog X.w) X.A (isTrue e X.env (eval e X.env)) (TP X pins σ Q) X.xe s
def PW (X : Cx) (e : Expr) (t : TT) : Prop :=
  ∀ (whole : Sem Value) (pins : List (Addr × Obj)) (s : Shared) (σ : St) (H : Hp) (Q : Bool → Hp → Prop), Inv X pins σ H s → t σ H Q → wpAny (model X.prog X.w) X.A (isTrue e X.env whole) (TP X pins σ Q) X.xe s
theorem PW.pt {X : Cx} {e : Expr} {t : TT} (h : PW X e t) : PT X e t := h _
def PA (X : Cx) (es : List Expr) (t : TA) : Prop :=
  ∀ (pos : Pos) (pins : List (Addr × Obj)) (s : Shared) (σ : St) (H : Hp) (Q : List V → Hp → Prop), Inv X pins σ H s → t σ H Q → wpAny (model X.prog X.w) X.A (spliced (backTo pos (starEach es X.env))) (AP X pins σ Q) X.xe s
def PS (X : Cx) (st : Stmt) (t : TS) : Prop :=
  ∀ (pins : List (Addr × Obj)) (s : Shared) (σ : St) (H : Hp) (D : Ends), Inv X pins σ H s → t D σ H → wpAny (model X.prog X.w) X.A (exec st X.env) (SP X pins D) X.xe s
def PSs (X : Cx) (st : List Stmt) (t : TS) : Prop :=
  ∀ (pins : List (Addr × Obj)) (s : Shared) (σ : St) (H : Hp) (D : Ends), Inv X pins σ H s → t D σ H → wpAny (model X.prog X.w) X.A (execs st X.env) (SP X pins D) X.xe s
theorem thn {α : Type} {t : Sem α} {Q Q' : α → Shared → Prop} {M : Model} {A : Around} {E : Value → Shared → Prop} {s : Shared} (h : wpAny M A t Q E s) (hQ : ∀ a s, Q a s → Q' a s) : wpAny M A t Q' E s := wpAny_mono h hQ fun _ _ x => x
end L2
namespace L2
open PySem PySem.Spec PyProof.Rows
section
variable {X : Cx}
def tVar (i : Nat) : TE := fun σ H Q => ∃ v, σ[i]? = some (some v) ∧ Q v H
def tC (v : V) : TE := fun _ H Q => Q v H
theorem pe_var {i : Nat} {x : Str} {pos : Pos} (hN : X.N[i]? = some x) (hv : Vis X.env.scope x) (hd : (x == ("__debug__" : Str)) = false := by decide) (hcd : (x == ("__classdict__" : Str)) = false := by decide) : PE X (.Name x pos) (tVar i) := by
  intro pins s σ H Q I h
  obtain ⟨v, e, h⟩ := h
  obtain ⟨m, hn, hl⟩ := I.loc
  obtain ⟨u, r, l⟩ := hl i x v hN e hv
  have fin : EP X pins σ Q u s := ⟨v, H, I, r, h⟩
  rcases l with ⟨hk, hm⟩ | ⟨hk, c, hc, hcell⟩
  · exact wpAny_Name (wpAny_loadName_local I.ok.kind hk hn hm fin) hd
  · rcases hk with hk | hk
    · exact wpAny_Name (wpAny_loadName_cell I.ok.kind hk hc hcell fin) hd
    · exact wpAny_Name (wpAny_loadName_free I.ok.kind hk hc hcell fin hcd) hd
theorem pe_int {i j pos} : PE X (.Constant (.int i) j pos) (tC (.int i)) := fun _ _ _ H _ I h => wpAny_Constant_int ⟨.int i, H, I.tok _, ⟨_, rfl⟩, h⟩
theorem pe_bl {b j pos} : PE X (.Constant (.bool b) j pos) (tC (.bl b)) := fun _ _ _ H _ I h => Constant_bool ⟨.bl b, H, I, rfl, h⟩
def Gl (X : Cx) (x : Str) : Prop := X.env.kindOf x = some .globalImplicit
theorem ld_glob {E : Value → Shared → Prop} {pins : List (Addr × Obj)} {s : Shared} {σ : St} {H : Hp} {x : Str} {u : Value} {pos : Pos} {Q : Value → Shared → Prop} (I : Inv X pins σ H s) (hg : Gl X x) (hm : X.mg x = some u) (h : Q u s)
    (hd : (x == ("__debug__" : Str)) = false := by decide) : wpAny (model X.prog X.w) X.A (eval (.Name x pos) X.env) Q E s :=
  Calls.Name_function_global I.ok.kind hg (Calls.loadGlobal_global (by rw [I.ok.glob]; exact I.mod.glob.keeps I.bk) hm h) hd
theorem ld_blt {E : Value → Shared → Prop} {pins : List (Addr × Obj)} {s : Shared} {σ : St} {H : Hp} {x : Str} {u : Value} {pos : Pos} {Q : Value → Shared → Prop} (I : Inv X pins σ H s) (hg : Gl X x) (hm : X.mg x = none) (hv : bootBuiltins x = some u) (h : Q u s)
    (hn : x ≠ "__name__" := by decide) (hd : (x == ("__debug__" : Str)) = false := by decide) : wpAny (model X.prog X.w) X.A (eval (.Name x pos) X.env) Q E s := by
  obtain ⟨mb, h1, h2⟩ := I.mod.blt
  exact Calls.Name_function_global I.ok.kind hg (Calls.loadGlobal_builtin (by rw [I.ok.glob]; exact I.mod.glob.keeps I.bk) hm (by rw [I.ok.blt]; exact h1.keeps I.bk) ((h2 x hn).trans hv) h) hd
theorem pe_glob {x : Str} {v : V} {u : Value} {pos : Pos} (hg : Gl X x) (hm : X.mg x = some u) (r : RelV v u) (hd : (x == ("__debug__" : Str)) = false := by decide) : PE X (.Name x pos) (tC v) :=
  fun _ _ _ H _ I h => ld_glob I hg hm ⟨v, H, I, r, h⟩ hd
variable {a b : Expr} {ta tb : TE} {pos : Pos}
def PC (X : Cx) (op : CmpOp) (a b : Expr) (t : TE) : Prop :=
  ∀ (pins : List (Addr × Obj)) (s : Shared) (σ : St) (H : Hp) (Q : VK), Inv X pins σ H s → t σ H Q →
    wpAny (model X.prog X.w) X.A (eval a X.env) (fun v s₁ => wpAny (model X.prog X.w) X.A (eval b X.env) (fun u s₂ => wpAny (model X.prog X.w) X.A (compareOp op v u) (EP X pins σ Q) X.xe s₂) X.xe s₁) X.xe s
def tB (t : TE) : TT := fun σ H Q => t σ H fun x H1 => ∃ c, x = .bl c ∧ Q c H1
theorem pt_cmp {op : CmpOp} {t : TE} (h : PC X op a b t) (h1 : behindInMarks op b = false := by first | exact nobehind _ (by decide) (by decide) | rfl) : PT X (.Compare a [op] [b] pos) (tB t) := by
  intro pins s σ H Q I hw
  refine wpAny_isTrue_Compare1 (thn (h pins s σ H _ I hw) fun v s1 h1 => thn h1 fun u s2 h2 => thn h2 fun c s3 ⟨x, H1, I1, r1, q1⟩ => ?_) h1
  obtain ⟨d, rfl, q⟩ := q1
  cases r1
  exact wpAny_truthy_bool ⟨H1, I1, q⟩
theorem pt_val {e : Expr} {t : TE} (h : PE X e t) (he : ∀ whole, isTrue e X.env whole = (do let v ← whole; standAt e.pos; holding [v] (truthy v)) := by intro _; rfl) : PT X e (tB t) := by
  intro pins s σ H Q I hw
  refine isTrue_plain (thn (h pins s σ H _ I hw) fun v s1 ⟨x, H1, I1, r1, q1⟩ => ?_) (he _)
  obtain ⟨d, rfl, q⟩ := q1
  cases r1
  exact wpAny_truthy_bool ⟨H1, I1, q⟩
variable {tA tB' : TT} {rest : List Expr}
def tAnd (t u : TT) : TT := fun σ H Q => t σ H fun c H1 => if c = true then u σ H1 Q else Q false H1
def tOr (t u : TT) : TT := fun σ H Q => t σ H fun c H1 => if c = true then Q true H1 else u σ H1 Q
def tNot (t : TT) : TT := fun σ H Q => t σ H fun c H1 => Q (!c) H1
theorem pw_and1 (ha : PT X a tA) : PW X (.BoolOp .And [a] pos) tA := by
  intro wh pins s σ H Q I h
  refine isTrue_and (thn (ha pins s σ H Q I h) fun c s1 e => ?_)
  cases c with
  | true => exact isTrue_and_nil e
  | false => exact e
theorem pw_or1 (ha : PT X a tA) : PW X (.BoolOp .Or [a] pos) tA := by
  intro wh pins s σ H Q I h
  refine isTrue_or (thn (ha pins s σ H Q I h) fun c s1 e => ?_)
  cases c with
  | false => exact isTrue_or_nil e
  | true => exact e
theorem pw_and (ha : PT X a tA) (hb : PW X (.BoolOp .And (b :: rest) pos) tB') : PW X (.BoolOp .And (a :: b :: rest) pos) (tAnd tA tB') := by
  intro wh pins s σ H Q I h
  refine isTrue_and (thn (ha pins s σ H _ I h) fun c s1 ⟨H1, I1, q1⟩ => ?_)
  cases c with
  | true => exact hb wh pins s1 σ H1 Q I1 q1
  | false => exact ⟨H1, I1, q1⟩
theorem pw_or (ha : PT X a tA) (hb : PW X (.BoolOp .Or (b :: rest) pos) tB') : PW X (.BoolOp .Or (a :: b :: rest) pos) (tOr tA tB') := by
  intro wh pins s σ H Q I h
  refine isTrue_or (thn (ha pins s σ H _ I h) fun c s1 ⟨H1, I1, q1⟩ => ?_)
  cases c with
  | true => exact ⟨H1, I1, q1⟩
  | false => exact hb wh pins s1 σ H1 Q I1 q1
theorem pt_not (ha : PT X a tA) : PT X (.UnaryOp .Not a pos) (tNot tA) := by
  intro pins s σ H Q I h
  exact isTrue_not (ha pins s σ H (fun c H1 => Q (!c) H1) I h)
def tAndV (ta tb : TE) : TE := fun σ H Q => ta σ H fun x H1 => ∃ c, x = .bl c ∧ if c = true then tb σ H1 Q else Q (.bl false) H1
theorem pe_one {op} {t : TE} (h : PE X a t) : PE X (.BoolOp op [a] pos) t := fun pins s σ H Q I hw => BoolOp_one (h pins s σ H Q I hw)
theorem pe_and (ha : PE X a ta) (hb : PE X (.BoolOp .And (b :: rest) pos) tb) : PE X (.BoolOp .And (a :: b :: rest) pos) (tAndV ta tb) := by
  intro pins s σ H Q I h
  refine BoolOp_and (thn (ha pins s σ H _ I h) fun v s1 ⟨x, H1, I1, r1, q1⟩ => ?_)
  obtain ⟨c, rfl, q1⟩ := q1
  cases r1
  refine wpAny_truthy_bool ?_
  cases c with
  | true => exact hb pins s1 σ H1 Q I1 q1
  | false => exact ⟨.bl false, H1, I1, rfl, q1⟩
end
end L2
namespace L2
open PySem PySem.Spec PyProof.Rows
def SqL (K : PySem.W.Frag) (H : Hp) (a : Addr) (xs : List V) : Prop :=
  Rd H a (.lst xs) ∨
    ∃ (o : Obj) (its : Array Value) (n : Nat), K.lookup a = some o ∧ o.cls = .type "list" ∧ o.dict = none ∧ o.data = .seq its n ∧ its.size ≤ sizeLine ∧ Vals xs its.toList
def SqT (K : PySem.W.Frag) (H : Hp) (a : Addr) (xs : List V) : Prop :=
  Rd H a (.tup xs) ∨
    ∃ (o : Obj) (its : Array Value) (n : Nat), K.lookup a = some o ∧ o.cls = .type "tuple" ∧ o.data = .seq its n ∧ its.size ≤ sizeLine ∧ Vals xs its.toList
def absV : Value → Option V
  | .none => some .non
  | .bool b => some (.bl b)
  | .int i _ => some (.int i)
  | .str x _ => some (.str x)
  | .bytes b _ => some (.byt b)
  | .float b _ => some (.flt b)
  | .ref a => some (.ref a)
  | .type n => some (.ty n)
  | _ => none
theorem RelV.abs {x : V} {u : Value} (r : RelV x u) : absV u = some x := by
  cases x with
  | non => cases r; rfl
  | bl _ => cases r; rfl
  | int _ => obtain ⟨t, rfl⟩ := r; rfl
  | str _ => obtain ⟨t, rfl⟩ := r; rfl
  | byt _ => obtain ⟨t, rfl⟩ := r; rfl
  | flt _ => obtain ⟨t, rfl⟩ := r; rfl
  | ref _ => cases r; rfl
  | ty _ => cases r; rfl
theorem RelV.inj {x y : V} {u : Value} (r : RelV x u) (q : RelV y u) : x = y := Option.some.inj (r.abs.symm.trans q.abs)
theorem Vals.inj : ∀ {xs ys : List V} {us : List Value}, Vals xs us → Vals ys us → xs = ys
  | _, _, _, .nil, .nil => rfl
  | _, _, _, .cons r t, .cons r' t' => by rw [r.inj r', Vals.inj t t']
section
variable {X : Cx} {pins : List (Addr × Obj)} {σ : St} {H : Hp} {s : Shared} {a : Addr} {xs ys : List V}
theorem SqL.of {K : PySem.W.Frag} (h : H a = some (.lst xs)) : SqL K H a xs := .inl (.inl h)
theorem SqT.of {K : PySem.W.Frag} (h : H a = some (.tup xs)) : SqT K H a xs := .inl (.inl h)
theorem Inv.list (I : Inv X pins σ H s) (h : SqL X.K H a xs) : ∃ its : List Value, Vals xs its ∧ PlainL s.heap a its.toArray ∧ xs.length ≤ sizeLine := by
  rcases h with h | ⟨o, its, n, hk, hc, hd, hs, hz, r⟩
  · obtain ⟨z, its, n, r, e⟩ := h.ok I.hok
    exact ⟨its, r, ⟨_, n, e, rfl, rfl, rfl⟩, z⟩
  · refine ⟨its.toList, r, ⟨o, n, I.kIn a o hk, hc, hd, by simpa using hs⟩, ?_⟩
    have e := r.length
    simp only [Array.length_toList] at e
    omega
theorem Inv.tuple (I : Inv X pins σ H s) (h : SqT X.K H a xs) : ∃ its : List Value, Vals xs its ∧ IsTup s.heap a its.toArray ∧ xs.length ≤ sizeLine := by
  rcases h with h | ⟨o, its, n, hk, hc, hs, hz, r⟩
  · obtain ⟨z, its, r, p⟩ := h.ok I.hok
    exact ⟨its, r, p, z⟩
  · refine ⟨its.toList, r, ⟨o, I.kIn a o hk, hc, n, by simpa using hs⟩, ?_⟩
    have e := r.length
    simp only [Array.length_toList] at e
    omega
theorem Inv.list_inj (I : Inv X pins σ H s) (h : SqL X.K H a xs) (h' : SqL X.K H a ys) : xs = ys := by
  obtain ⟨its, r, ⟨o, n, e, _, _, d⟩, _⟩ := I.list h
  obtain ⟨its', r', ⟨o', n', e', _, _, d'⟩, _⟩ := I.list h'
  rw [e] at e'; cases e'
  rw [d] at d'
  injection d' with d1 _
  have : its = its' := by simpa using congrArg Array.toList d1
  subst this
  exact r.inj r'
end
abbrev Cx.wish (X : Cx) (E : Value → Shared → Prop) : Cx := { X with xe := E }
abbrev Cx.nox (X : Cx) : Cx := X.wish fun _ _ => False
theorem Cx.Ok.wish {X : Cx} (ok : X.Ok) (E : Value → Shared → Prop) : (X.wish E).Ok :=
  ⟨ok.mod, ok.kind, ok.glob, ok.blt, ok.above, ok.inj, ok.has, ok.cab, ok.hd, ok.frames, ok.stk, ok.exf, ok.bs, ok.bsz, ok.noex, ok.exfs, ok.funs, ok.frf⟩
theorem Cx.Ok.unwish {X : Cx} {E : Value → Shared → Prop} (ok : (X.wish E).Ok) : X.Ok :=
  ⟨ok.mod, ok.kind, ok.glob, ok.blt, ok.above, ok.inj, ok.has, ok.cab, ok.hd, ok.frames, ok.stk, ok.exf, ok.bs, ok.bsz, ok.noex, ok.exfs, ok.funs, ok.frf⟩
section
variable {X : Cx} {pins : List (Addr × Obj)} {σ : St} {H : Hp} {s : Shared} {E : Value → Shared → Prop}
theorem Inv.wish (I : Inv X pins σ H s) (E : Value → Shared → Prop) : Inv (X.wish E) pins σ H s := ⟨I.ok.wish E, I.os, I.bare, I.base, I.loc, I.cell, I.free, I.freeC, I.pin, I.hok, I.len⟩
theorem Inv.unwish (I : Inv (X.wish E) pins σ H s) : Inv X pins σ H s := ⟨I.ok.unwish, I.os, I.bare, I.base, I.loc, I.cell, I.free, I.freeC, I.pin, I.hok, I.len⟩
theorem SP.unwish {D : Ends} {f : Flow} {s' : Shared} (h : SP (X.wish E) pins D f s') : SP X pins D f s' := by
  cases f with
  | next => obtain ⟨σ', H', I, q⟩ := h; exact ⟨σ', H', I.unwish, q⟩
  | brk => obtain ⟨σ', H', I, q⟩ := h; exact ⟨σ', H', I.unwish, q⟩
  | cont => obtain ⟨σ', H', I, q⟩ := h; exact ⟨σ', H', I.unwish, q⟩
  | ret u => obtain ⟨v, σ', H', I, r, q⟩ := h; exact ⟨v, σ', H', I.unwish, r, q⟩
theorem PSs.nox {st : List Stmt} {t : TS} (h : PSs X.nox st t) : PSs X st t := fun pins s σ H D I hw =>
  wpAny_mono (h pins s σ H D (I.wish _) hw) (fun _ _ q => q.unwish) fun _ _ z => False.elim z
end
section
variable {X : Cx} {st : Stmt} {rest : List Stmt} {t u : TS} {e : Expr} {te : TE} {pos : Pos}
def tNext : TS := fun D σ H => D.nx σ H
def tSeq (t u : TS) : TS := fun D σ H => t { D with nx := u D } σ H
theorem pss_nil : PSs X [] tNext := fun _ _ σ H _ I h => wpAny_execs_nil ⟨σ, H, I, h⟩
theorem pss_cons (h1 : PS X st t) (h2 : PSs X rest u) : PSs X (st :: rest) (tSeq t u) := by
  intro pins s σ H D I h
  refine wpAny_execs_cons (thn (h1 pins s σ H { D with nx := u D } I h) fun f s1 q => ?_)
  cases f with
  | next =>
    obtain ⟨σ', H', I', q⟩ := q
    exact h2 pins s1 σ' H' D I' q
  | ret v => exact q
  | brk => exact q
  | cont => exact q
theorem pss_one (h1 : PS X st t) : PSs X [st] t := by
  intro pins s σ H D I h
  refine wpAny_execs_cons (thn (h1 pins s σ H D I h) fun f s1 q => ?_)
  cases f with
  | next => exact wpAny_execs_nil q
  | ret v => exact q
  | brk => exact q
  | cont => exact q
theorem Inv.quiet {pins : List (Addr × Obj)} {σ : St} {H : Hp} {s : Shared} (I : Inv X pins σ H s) : interactive X.env = false := by simp [interactive, I.ok.kind]
def tDrop (te : TE) : TS := fun D σ H => te σ H fun _ H1 => D.nx σ H1
theorem ps_expr (he : PE X e te) (hs : swapsWith e none pos.line X.env = pure false := by rfl) : PS X (.Expr e pos) (tDrop te) := by
  intro pins s σ H D I h
  exact wpAny_Expr_any (thn (he pins s σ H _ I h) fun v s1 ⟨x, H1, I1, r1, q1⟩ => ⟨σ, H1, I1, q1⟩) I.quiet hs
def tRet (te : TE) : TS := fun D σ H => te σ H D.rt
theorem ps_ret (he : PE X e te) : PS X (.Return (some e) pos) (tRet te) := by
  intro pins s σ H D I h
  exact wpAny_Return_some (thn (he pins s σ H _ I h) fun v s1 ⟨x, H1, I1, r1, q1⟩ => ⟨x, σ, H1, I1, r1, q1⟩)
def tIfS (c : TT) (t u : TS) : TS := fun D σ H => c σ H fun b H1 => if b = true then t D σ H1 else u D σ H1
theorem ps_if {c : Expr} {a b : List Stmt} {tc : TT} (hc : PT X c tc) (ha : PSs X a t) (hb : PSs X b u) : PS X (.If c a b pos) (tIfS tc t u) := by
  intro pins s σ H D I h
  refine wpAny_If (thn (hc pins s σ H _ I h) fun d s1 ⟨H1, I1, q1⟩ => ?_)
  cases d with
  | true => exact ha pins s1 σ H1 D I1 q1
  | false => exact hb pins s1 σ H1 D I1 q1
def tNever : TS := fun _ _ _ => False
theorem ps_never : PS X st tNever := fun _ _ _ _ _ _ h => h.elim
end
abbrev TG := V → St → Hp → (St → Hp → Prop) → Prop
def PG (X : Cx) (target : Expr) (t : TG) : Prop :=
  ∀ (pins : List (Addr × Obj)) (s : Shared) (σ : St) (H : Hp) (v : V) (u : Value) (Q : St → Hp → Prop), Inv X pins σ H s → RelV v u → t v σ H Q →
    wpAny (model X.prog X.w) X.A (assign target X.env u) (fun _ s' => ∃ σ' H', Inv X pins σ' H' s' ∧ Q σ' H') X.xe s
section
variable {X : Cx} {pos : Pos}
def gName (i : Nat) : TG := fun v σ H Q => Q (σ.set i (some v)) H
theorem pg_name {i : Nat} {x : Str} (hN : X.N.Nodup) (hi : X.N[i]? = some x) (hx : Loc X.env.scope x) (hf : X.fn x = true ∨ X.env.scope.names.lookup x = some .local := by first | exact .inl rfl | exact .inr rfl | assumption) : PG X (.Name x pos) (gName i) := by
  intro pins s σ H v u Q I r h
  exact wpAny_assign_Name (store_ok I hN hi hx r (fun s' I' => ⟨_, H, I', h⟩) hf)
def tAsg (te : TE) (g : TG) : TS := fun D σ H => te σ H fun x H1 => g x σ H1 D.nx
theorem ps_set {i : Nat} {x : Str} {e : Expr} {te : TE} {pos' : Pos} (hN : X.N.Nodup) (hi : X.N[i]? = some x) (hx : Loc X.env.scope x) (he : PE X e te) (hs : swapsWith e (some (.Name x pos')) pos.line X.env = pure false := by rfl) (hf : X.fn x = true ∨ X.env.scope.names.lookup x = some .local := by first | exact .inl rfl | exact .inr rfl | assumption) :
    PS X (.Assign [.Name x pos'] e pos) (tAsg te (gName i)) := by
  intro pins s σ H D I h
  refine wpAny_Assign_Name (thn (he pins s σ H _ I h) fun v s1 ⟨y, H1, I1, r1, q1⟩ => ?_) hs
  exact store_ok I1 hN hi hx r1 (fun s2 I2 => ⟨_, H1, I2, q1⟩) hf
end
section
variable {X : Cx} {pos : Pos}
def tWhile (c : TT) (tb : TS) : TS := fun D σ H => ∃ W : Nat → St → Hp → Prop, (∃ m, W m σ H) ∧ ∀ m σ H, W m σ H →
  c σ H fun b H1 => if b = true then ∃ N : St → Hp → Prop, (∀ σ' H', N σ' H' → ∃ m', m' < m ∧ W m' σ' H') ∧ tb { D with nx := N, ct := N, bk := D.nx } σ H1 else D.nx σ H1
theorem ps_while {c : Expr} {body : List Stmt} {tc : TT} {tb : TS} (hp : PassesOwn (model X.prog X.w) X.A X.env X.xe) (hc : PT X c tc) (hb : PSs X body tb) : PS X (.While c body [] pos) (tWhile tc tb) := by
  intro pins s σ H D I h
  obtain ⟨W, ⟨m0, w0⟩, turn⟩ := h
  refine wpAny_While (codeAny_whileLoop (fun n s' => ∃ σ' H', Inv X pins σ' H' s' ∧ W n σ' H') ?_ m0 ⟨σ, H, I, w0⟩)
  rintro n s1 ⟨σ1, H1, I1, w1⟩
  refine wpAny_passesOwn hp (thn (hc pins s1 σ1 H1 _ I1 (turn n σ1 H1 w1)) fun b s2 ⟨H2, I2, q2⟩ => ?_)
  cases b with
  | true =>
    obtain ⟨N, hN, q2⟩ := q2
    rw [if_pos rfl]
    refine wpAny_passesOwn hp (thn (hb pins s2 σ1 H2 _ I2 q2) fun f s3 q3 => ?_)
    cases f with
    | next =>
      obtain ⟨σ3, H3, I3, n3⟩ := q3
      obtain ⟨m', hm, w3⟩ := hN σ3 H3 n3
      exact ⟨m', hm, σ3, H3, I3, w3⟩
    | cont =>
      obtain ⟨σ3, H3, I3, n3⟩ := q3
      obtain ⟨m', hm, w3⟩ := hN σ3 H3 n3
      exact ⟨m', hm, σ3, H3, I3, w3⟩
    | brk => exact q3
    | ret v => exact q3
  | false =>
    rw [if_neg Bool.false_ne_true]
    exact wpAny_execs_nil ⟨σ1, H2, I2, q2⟩
end
structure It where
  go : Nat → Hp → Prop
  yld : Nat → Hp → V → Hp → Prop
  stop : Nat → Hp → Prop
def FpOk (X : Cx) (pins : List (Addr × Obj)) (H : Hp) (b : Addr) : Prop :=
  H b = none ∧ b ≠ X.env.locals ∧ b ∉ X.fs ∧ (b ∈ X.ex ∨ X.s_0.heap.objs.size ≤ b) ∧ (∀ x c, X.env.cells.lookup x = some c → c ≠ b) ∧ ∀ p ∈ X.pn ++ pins, p.1 ≠ b
theorem Inv.fpOk {X : Cx} {pins : List (Addr × Obj)} {σ : St} {H H' : Hp} {s : Shared} {b : Addr} (I : Inv X pins σ H s) (hb : s.heap.objs.size ≤ b) (hn : H' b = none) : FpOk X pins H' b := by
  refine ⟨hn, Nat.ne_of_gt (Nat.lt_of_lt_of_le I.lt hb), I.nofs hb, .inr (Nat.le_trans I.sz hb), fun x c e z => ?_, fun p hp z => ?_⟩
  · obtain ⟨v, q⟩ := I.cell x c e
    exact absurd (Nat.lt_of_lt_of_le q.lt (by rw [z]; exact hb)) (Nat.lt_irrefl _)
  · exact absurd (Nat.lt_of_lt_of_le (Heap.lt_size (I.pin p hp).1) (by rw [z]; exact hb)) (Nat.lt_irrefl _)
structure Turn (P : Program) (w : World) (K : PySem.W.Frag) (tg : Expr) (J : It) (fp : List Addr) (it : Addr) (tn : Nat → Heap → Prop) : Prop where
  mem : it ∈ fp
  obj : ∀ i h, tn i h → ∀ b ∈ fp, ∃ o, h.get? b = some o ∧ ∀ v, o.data ≠ .cell v
  keep : ∀ i h h', tn i h → (∀ b ∈ fp, ∀ o, h.get? b = some o → h'.get? b = some o) → tn i h'
  item : ∀ (X : Cx), X.prog = P → X.w = w → X.K = K → X.calm = true → ∀ (i : Nat) (pins : List (Addr × Obj)) (s : Shared) (σ : St) (H : Hp) (E : Value → Shared → Prop), Inv X pins σ H s → (∀ b ∈ fp, FpOk X pins H b) → tn i s.heap → J.go i H →
    wpAny (model P w) X.A (pyNext (.ref it)) (fun r s1 => ∃ u, r = some u ∧
      wpAny (model P w) X.A (letOwnedTupleGo tg (.ref it) u) (fun _ s2 => ∃ x H', Inv X pins σ H' s2 ∧ RelV x u ∧ J.yld i H x H' ∧ tn (i + 1) s2.heap ∧ ∀ b ∈ fp, H' b = none) E s1) E s
  done : ∀ (X : Cx), X.prog = P → X.w = w → X.K = K → X.calm = true → ∀ (i : Nat) (pins : List (Addr × Obj)) (s : Shared) (σ : St) (H : Hp) (E : Value → Shared → Prop), Inv X pins σ H s → (∀ b ∈ fp, FpOk X pins H b) → tn i s.heap → J.stop i H →
    wpAny (model P w) X.A (pyNext (.ref it)) (fun r s1 => r = none ∧ Inv X pins σ H s1) E s
  self : ∀ (A : Around) (i : Nat) (s : Shared) (Q : Value → Shared → Prop) (E : Value → Shared → Prop), tn i s.heap → Q (.ref it) s → wpAny (model P w) A (pyIter (.ref it)) Q E s
abbrev TI := St → Hp → (It → Hp → Prop) → Prop
def PIE (X : Cx) (pins : List (Addr × Obj)) (σ : St) (tg : Expr) (R : It → Hp → Prop) (itv : Value) (s2 : Shared) : Prop :=
  ∃ (it : Addr) (fp : List Addr) (tn : Nat → Heap → Prop) (J : It) (H' : Hp), itv = .ref it ∧ Inv X pins σ H' s2 ∧ Turn X.prog X.w X.K tg J fp it tn ∧ tn 0 s2.heap ∧ (∀ b ∈ fp, FpOk X pins H' b) ∧ R J H'
def PI (X : Cx) (tg iter : Expr) (wi : TI) : Prop :=
  ∀ (pins : List (Addr × Obj)) (s : Shared) (σ : St) (H : Hp) (R : It → Hp → Prop), Inv X pins σ H s → wi σ H R →
    wpAny (model X.prog X.w) X.A (eval iter X.env) (fun v s1 => wpAny (model X.prog X.w) X.A (pyIter v) (PIE X pins σ tg R) X.xe s1) X.xe s
theorem go_of {M : Model} {A : Around} {E : Value → Shared → Prop} {s : Shared} {tg : Expr} {it : Addr} {u : Value} {o : Obj} {n : String} {vs : Array Value} {Q : Unit → Shared → Prop} (ho : s.heap.get? it = some o) (hc : o.cls = .type n) (hd : o.data = .fields vs)
    (hn : ["enumerate", "zip", "dict_itemiterator", "dict_reverseitemiterator", "odict_iterator", "itertools.zip_longest", "itertools.pairwise"].contains n = false) (hQ : Q () s) : wpAny M A (letOwnedTupleGo tg (.ref it) u) Q E s := by
  unfold letOwnedTupleGo
  cases tg <;> first
    | exact wpAny_pure hQ
    | (cases u <;> first
        | exact wpAny_pure hQ
        | (refine wpAny_bind (wpAny_load ho ?_)
           rw [hc, hd]
           show wpAny M A (if (["enumerate", "zip", "dict_itemiterator", "dict_reverseitemiterator", "odict_iterator", "itertools.zip_longest", "itertools.pairwise"].contains n && vs[0]? == some (rawInt _)) = true then _ else _) Q E s
           rw [if_neg (by intro h; rw [hn, Bool.false_and] at h; cases h)]
           exact wpAny_pure hQ))
def Itl (K : PySem.W.Frag) (a : Addr) : It :=
  ⟨fun i H => ∃ xs x, SqL K H a xs ∧ xs[i]? = some x, fun i H x H' => H' = H ∧ ∀ xs, SqL K H a xs → xs[i]? = some x, fun i H => ∃ xs, SqL K H a xs ∧ xs.length ≤ i⟩
def Itr (lo : Int) (n : Nat) : It := ⟨fun i _ => i < n, fun i H x H' => H' = H ∧ x = .int (lo + i), fun i _ => n ≤ i⟩
theorem turn_list {P : Program} {w : World} {K : PySem.W.Frag} {tg : Expr} (a it : Addr) : Turn P w K tg (Itl K a) [it] it (fun i h => h.IsListIter it a i) where
  mem := by simp
  obj := fun i h st b hb => by
    have e : b = it := by simpa using hb
    subst e
    obtain ⟨o, e, c, d⟩ := st
    exact ⟨o, e, fun v z => by rw [d] at z; cases z⟩
  keep := fun i h h' st k => st.at fun o e => k it (by simp) o e
  item := by
    intro X hP hw hK hc i pins s σ H E I hf st hg
    subst hP hw hK
    obtain ⟨xs, x, hq, hx⟩ := hg
    obtain ⟨its, rv, p, hz⟩ := I.list hq
    obtain ⟨u, hu, ru⟩ := rv.get hx
    obtain ⟨f0, f1, f2, f3, f4, f5⟩ := hf it (by simp)
    refine wpAny_pyNext_list_item st p.isList (x := u) (by simpa using hu) fun h' st' sb => ?_
    have I1 : Inv X pins σ H { s with heap := h' } := I.turned (t' := s.toks) (fun b o hb e => (sb.2 b hb).trans e) f0 f1 f3 f4 f5
    obtain ⟨o, e, c, d⟩ := id st'
    exact ⟨u, rfl, go_of (s := { s with heap := h' }) e c d (by decide) ⟨x, H, I1, ru, ⟨rfl, fun ys hy => by rw [I.list_inj hy hq]; exact hx⟩, st', fun b hb => (hf b hb).1⟩⟩
  done := by
    intro X hP hw hK hc i pins s σ H E I hf st hg
    subst hP hw hK
    obtain ⟨xs, hq, hx⟩ := hg
    obtain ⟨its, rv, p, hz⟩ := I.list hq
    obtain ⟨f0, f1, f2, f3, f4, f5⟩ := hf it (by simp)
    have hl := rv.length
    exact wpAny_pyNext_list_end (I.ok.hd hc) st p.isList (by simp; omega) fun h' eb => ⟨rfl, I.turned (t' := s.toks) (fun b o hb e => eb b o hb e) f0 f1 f3 f4 f5⟩
  self := fun _ _ _ _ _ st h => wpAny_pyIter_listiter st h
theorem turn_range {P : Program} {w : World} {K : PySem.W.Frag} {tg : Expr} (it : Addr) (lo : Int) (n : Nat) : Turn P w K tg (Itr lo n) [it] it (fun i h => IsRangeIter h it (lo + (i : Nat) * 1) ((n : Int) - (i : Nat)) 1) where
  mem := by simp
  obj := fun i h st b hb => by
    have e : b = it := by simpa using hb
    subst e
    exact ⟨_, st, fun v z => by
      have z' : Data.fields _ = Data.cell v := z
      cases z'⟩
  keep := fun i h h' st k => k it (by simp) _ st
  item := by
    intro X hP hw hK hc i pins s σ H E I hf st hg
    subst hP hw hK
    obtain ⟨f0, f1, f2, f3, f4, f5⟩ := hf it (by simp)
    have W := Walks.range (prog := X.prog) (w := X.w) (I.ok.hd hc) it lo 1 n
    refine W.item i s _ _ hg st fun v h' tk hv st' kk => ?_
    obtain ⟨t, rfl⟩ := hv
    have I1 : Inv X pins σ H { s with heap := h', toks := tk } := I.turned (fun b o hb e => kk b o (by simpa using hb) e) f0 f1 f3 f4 f5
    refine ⟨_, rfl, go_of (s := { s with heap := h', toks := tk }) (n := "range_iterator") st' rfl rfl (by decide) ⟨.int (lo + i), H, I1, ⟨t, ?_⟩, ⟨rfl, rfl⟩, st', fun b hb => (hf b hb).1⟩⟩
    rw [Int.mul_one]
  done := by
    intro X hP hw hK hc i pins s σ H E I hf st hg
    subst hP hw hK
    obtain ⟨f0, f1, f2, f3, f4, f5⟩ := hf it (by simp)
    exact wpAny_pyNext_range_end (I.ok.hd hc) st (by have : n ≤ i := hg; omega) fun h' eb => ⟨rfl, I.turned (t' := s.toks) (fun b o hb e => eb b o hb e) f0 f1 f3 f4 f5⟩
  self := fun _ _ _ _ _ st h => wpAny_pyIter_rangeiter st h
end L2
namespace L2
open PySem PySem.Spec PyProof.Rows
section
variable {X : Cx} {tg : Expr}
def iList (K : PySem.W.Frag) (tl : TE) : TI := fun σ H R => tl σ H fun x H1 => ∃ a, x = .ref a ∧ (∃ xs, SqL K H1 a xs) ∧ R (Itl K a) H1
theorem pi_list {l : Expr} {tl : TE} (hl : PE X l tl) : PI X tg l (iList X.K tl) := by
  intro pins s σ H R I h
  refine thn (hl pins s σ H _ I h) fun v s1 ⟨x, H1, I1, r1, q1⟩ => ?_
  obtain ⟨a, e, ⟨xs, hq⟩, q⟩ := q1
  subst e
  cases r1
  obtain ⟨its, rv, p, hz⟩ := I1.list hq
  refine wpAny_pyIter_list p.isList ?_
  refine ⟨s1.heap.objs.size, [s1.heap.objs.size], _, _, H1, rfl, I1.kept (t' := s1.toks) fun b o e => Heap.get?_push_of_some _ e, turn_list a _, ⟨_, Heap.get?_push_size _ rfl, rfl, rfl⟩, fun b hb => ?_, q⟩
  have e : b = s1.heap.objs.size := by simpa using hb
  subst e
  exact I1.fpOk (Nat.le_refl _) (I1.hok.fresh (Nat.le_refl _))
theorem range_it {pins : List (Addr × Obj)} {σ : St} {H : Hp} {s : Shared} {R : It → Hp → Prop} {E : Value → Shared → Prop} {lo hi : Int} {t u v : Tok} {tk : Nat} (I : Inv X pins σ H s) (h1 : -(2 ^ 62) ≤ lo) (h2 : lo < 2 ^ 62) (h3 : -(2 ^ 62) ≤ hi) (h4 : hi < 2 ^ 62)
    (q : R (Itr lo (hi - lo).toNat) H) : wpAny (model X.prog X.w) X.A (pyIter (.ref s.heap.objs.size)) (PIE X pins σ tg R) E { s with heap := s.heap.push { cls := .type "range", data := .fields #[.int lo t, .int hi u, .int 1 v] }, toks := tk } := by
  refine wpAny_pyIter_range (IsRange.new ..) (small_one h1 h2 h3 h4) ?_
  have I1 : Inv X pins σ H { s with heap := s.heap.push { cls := .type "range", data := .fields #[.int lo t, .int hi u, .int 1 v] }, toks := tk } := I.kept fun b o e => Heap.get?_push_of_some _ e
  refine ⟨(s.heap.push { cls := .type "range", data := .fields #[.int lo t, .int hi u, .int 1 v] }).objs.size, [(s.heap.push { cls := .type "range", data := .fields #[.int lo t, .int hi u, .int 1 v] }).objs.size], _, _, H, rfl,
    I1.kept (t' := tk) fun b o e => Heap.get?_push_of_some _ e, turn_range _ lo (hi - lo).toNat, ?_, fun b hb => ?_, q⟩
  · have e1 : lo + ((0 : Nat) : Int) * 1 = lo := by simp
    have e2 : (((hi - lo).toNat : Nat) : Int) - ((0 : Nat) : Int) = Builtin.Range.rangeSize lo hi 1 := by rw [rangeSize_one]; split <;> omega
    show IsRangeIter _ _ (lo + ((0 : Nat) : Int) * 1) ((((hi - lo).toNat : Nat) : Int) - ((0 : Nat) : Int)) 1
    rw [e1, e2]
    exact Heap.get?_push_size _ rfl
  · have e : b = (s.heap.push { cls := .type "range", data := .fields #[.int lo t, .int hi u, .int 1 v] }).objs.size := by simpa using hb
    subst e
    exact I1.fpOk (Nat.le_refl _) (I1.hok.fresh (Nat.le_refl _))
def iRng1 (ta : TA) : TI := fun σ H R => ta σ H fun vs H1 => ∃ j : Int, vs = [.int j] ∧ -(2 ^ 62) ≤ j ∧ j < 2 ^ 62 ∧ R (Itr 0 j.toNat) H1
def iRng2 (ta : TA) : TI := fun σ H R => ta σ H fun vs H1 => ∃ i j : Int, vs = [.int i, .int j] ∧ (-(2 ^ 62) ≤ i ∧ i < 2 ^ 62 ∧ -(2 ^ 62) ≤ j ∧ j < 2 ^ 62) ∧ R (Itr i (j - i).toNat) H1
theorem pi_range1 {a : Expr} {ta : TA} {p pos : Pos} (hg : Gl X "range") (hm : X.mg "range" = none) (ha : PA X [a] ta) (hs : starEach [a] X.env = [(false, eval a X.env)] := by rfl) : PI X tg (.Call (.Name "range" p) [a] [] pos) (iRng1 ta) := by
  intro pins s σ H R I h
  refine Call_ (ld_blt I hg hm boot_range (PyProof.Rows.callWith_type1 (thn (ha pos pins s σ H _ I h) fun us s1 ⟨vs, H1, I1, r1, q1⟩ => ?_) hs rfl))
  obtain ⟨j, e, q1, q2, q⟩ := q1
  subst e
  cases r1 with
  | cons r rr =>
    cases rr
    obtain ⟨t, rfl⟩ := r
    exact call_range_1 (range_it I1 (by omega) (by omega) q1 q2 (by simpa using q))
theorem pi_range2 {a b : Expr} {ta : TA} {p pos : Pos} (hg : Gl X "range") (hm : X.mg "range" = none) (ha : PA X [a, b] ta) (hs : starEach [a, b] X.env = [(false, eval a X.env), (false, eval b X.env)] := by rfl) (hs2 : starEach [b] X.env = [(false, eval b X.env)] := by rfl) :
    PI X tg (.Call (.Name "range" p) [a, b] [] pos) (iRng2 ta) := by
  intro pins s σ H R I h
  refine Call_ (ld_blt I hg hm boot_range (PyProof.Rows.callWith_type1 (thn (ha pos pins s σ H _ I h) fun us s1 ⟨vs, H1, I1, r1, q1⟩ => ?_) (by rw [hs, hs2]) (by rw [hs2]; rfl)))
  obtain ⟨i, j, e, ⟨q1, q2, q3, q4⟩, q⟩ := q1
  subst e
  cases r1 with
  | cons r rr =>
    cases rr with
    | cons r' rr =>
      cases rr
      obtain ⟨t, rfl⟩ := r
      obtain ⟨t', rfl⟩ := r'
      exact call_range_2 (range_it I1 q1 q2 q3 q4 q)
def tFor (wi : TI) (g : TG) (tb : TS) : TS := fun D σ H => wi σ H fun J H1 => ∃ W : Nat → Nat → St → Hp → Prop, (∃ m, W 0 m σ H1) ∧ ∀ i m σ H, W i m σ H →
  (J.stop i H ∧ D.nx σ H) ∨ (J.go i H ∧ ∃ N : St → Hp → Prop, (∀ σ' H', N σ' H' → ∃ m', m' < m ∧ W (i + 1) m' σ' H') ∧ ∀ x H', J.yld i H x H' → g x σ H' fun σ2 H2 => tb { D with nx := N, ct := N, bk := D.nx } σ2 H2)
def pinsAt (fp : List Addr) (h : Heap) : List (Addr × Obj) := fp.filterMap fun b => (h.get? b).map fun o => (b, o)
theorem mem_pinsAt {fp : List Addr} {h : Heap} {b : Addr} {o : Obj} (hb : b ∈ fp) (e : h.get? b = some o) : (b, o) ∈ pinsAt fp h := List.mem_filterMap.mpr ⟨b, hb, by rw [e]; rfl⟩
theorem of_pinsAt {fp : List Addr} {h : Heap} {p : Addr × Obj} (hp : p ∈ pinsAt fp h) : p.1 ∈ fp ∧ h.get? p.1 = some p.2 := by
  obtain ⟨b, hb, e⟩ := List.mem_filterMap.mp hp
  cases q : h.get? b with
  | none => rw [q] at e; cases e
  | some o =>
    rw [q] at e
    have e' : (b, o) = p := Option.some.inj e
    subst e'
    exact ⟨hb, q⟩
theorem Inv.pinned {pins : List (Addr × Obj)} {σ : St} {H : Hp} {s : Shared} {fp : List Addr} (I : Inv X pins σ H s) (hf : ∀ b ∈ fp, FpOk X pins H b) (ho : ∀ b ∈ fp, ∃ o, s.heap.get? b = some o ∧ ∀ v, o.data ≠ .cell v) : Inv X (pins ++ pinsAt fp s.heap) σ H s :=
  I.pins_of fun p hp => (List.mem_append.mp hp).elim (fun z => I.pin p (List.mem_append_right _ z)) fun z => by
    obtain ⟨hb, e⟩ := of_pinsAt z
    obtain ⟨f0, f1, f2, _⟩ := hf p.1 hb
    obtain ⟨o, e', d⟩ := ho p.1 hb
    rw [e] at e'; cases e'
    exact ⟨e, f0, f1, f2, d⟩
theorem Inv.unpinned {pins pl : List (Addr × Obj)} {σ : St} {H : Hp} {s : Shared} (I : Inv X (pins ++ pl) σ H s) : Inv X pins σ H s := I.pins_of fun p hp => I.pin p (List.mem_append_right _ (List.mem_append_left _ hp))
theorem ps_for {iter : Expr} {body : List Stmt} {wi : TI} {g : TG} {tb : TS} {pos : Pos} (hp : PassesOwn (model X.prog X.w) X.A X.env X.xe) (hc : X.calm = true) (hi : PI X tg iter wi) (hg : PG X tg g) (hb : PSs X body tb)
    (hs : ∀ x, foldedSetIterable iter X.env x = pure x := by intro _; rfl) : PS X (.For tg iter body [] pos) (tFor wi g tb) := by
  intro pins s σ H D I h
  refine wpAny_For (thn (hi pins s σ H _ I h) fun v s1 h1 => thn h1 fun itv s2 h2 => ?_) hs
  obtain ⟨it, fp, tn, J, H2, e, I2, T, st2, f2, W, ⟨m0, w0⟩, turn⟩ := h2
  subst e
  -- what stays true of the iterator's objects through the loop
  have stat : ∀ {H' : Hp}, (∀ b ∈ fp, H' b = none) → ∀ b ∈ fp, FpOk X pins H' b := fun hn b hb => ⟨hn b hb, (f2 b hb).2⟩
  refine codeAny_forLoop_any (fun n s' => ∃ i σ' H', Inv X pins σ' H' s' ∧ tn i s'.heap ∧ (∀ b ∈ fp, H' b = none) ∧ W i n σ' H') ?_ m0 ⟨0, σ, H2, I2, st2, fun b hb => (f2 b hb).1, w0⟩
  rintro n s3 ⟨i, σ3, H3, I3, st3, fr3, w3⟩
  rcases turn i n σ3 H3 w3 with ⟨stop, qn⟩ | ⟨go, N, hN, step⟩
  · refine wpAny_passesOwn hp (thn (T.done X rfl rfl rfl hc i pins s3 σ3 H3 X.xe I3 (stat fr3) st3 stop) fun r s4 ⟨hr, I4⟩ => ?_)
    subst hr
    exact wpAny_execs_nil ⟨σ3, H3, I4, qn⟩
  · refine wpAny_passesOwn hp (thn (T.item X rfl rfl rfl hc i pins s3 σ3 H3 X.xe I3 (stat fr3) st3 go) fun r s4 ⟨u, hr, h4⟩ => ?_)
    subst hr
    refine wpAny_passesOwn hp (thn h4 fun _ s5 ⟨x, H5, I5, r5, y5, st5, fr5⟩ => ?_)
    have I5' := I5.pinned (stat fr5) (T.obj _ _ st5)
    refine wpAny_passesOwn hp (thn (hg _ s5 σ3 H5 x u _ I5' r5 (step x H5 y5)) fun _ s6 ⟨σ6, H6, I6, q6⟩ => ?_)
    refine wpAny_passesOwn hp (thn (hb _ s6 σ6 H6 _ I6 q6) fun f s7 q7 => ?_)
    have again : ∀ {σ7 : St} {H7 : Hp}, Inv X (pins ++ pinsAt fp s5.heap) σ7 H7 s7 → N σ7 H7 → ∃ m, m < n ∧ ∃ i σ' H', Inv X pins σ' H' s7 ∧ tn i s7.heap ∧ (∀ b ∈ fp, H' b = none) ∧ W i m σ' H' := fun {σ7 H7} I7 n7 => by
      obtain ⟨m', hm, w7⟩ := hN σ7 H7 n7
      refine ⟨m', hm, i + 1, σ7, H7, I7.unpinned, T.keep _ _ _ st5 fun b hb o e => (I7.pin (b, o) (List.mem_append_right _ (List.mem_append_right _ (mem_pinsAt hb e)))).1, fun b hb => ?_, w7⟩
      obtain ⟨o, e, d⟩ := T.obj _ _ st5 b hb
      exact (I7.pin (b, o) (List.mem_append_right _ (List.mem_append_right _ (mem_pinsAt hb e)))).2.1
    cases f with
    | next => obtain ⟨σ7, H7, I7, n7⟩ := q7; exact again I7 n7
    | cont => obtain ⟨σ7, H7, I7, n7⟩ := q7; exact again I7 n7
    | brk => obtain ⟨σ7, H7, I7, q7⟩ := q7; exact ⟨σ7, H7, I7.unpinned, q7⟩
    | ret v => obtain ⟨x7, σ7, H7, I7, r7, q7⟩ := q7; exact ⟨x7, σ7, H7, I7.unpinned, r7, q7⟩
end
theorem for_list {K : PySem.W.Frag} {a : Addr} {xs : List V} {g : TG} {tb : TS} {D : Ends} {σ : St} {H : Hp} (Pv : Nat → St → Hp → Prop) (h0 : Pv 0 σ H) (hl : ∀ i σ H, i ≤ xs.length → Pv i σ H → SqL K H a xs)
    (hs : ∀ i x σ H, xs[i]? = some x → Pv i σ H → g x σ H fun σ2 H2 => tb { D with nx := Pv (i + 1), ct := Pv (i + 1), bk := D.nx } σ2 H2) (hd : ∀ σ H, Pv xs.length σ H → D.nx σ H) :
    ∃ W : Nat → Nat → St → Hp → Prop, (∃ m, W 0 m σ H) ∧ ∀ i m σ H, W i m σ H →
      ((Itl K a).stop i H ∧ D.nx σ H) ∨ ((Itl K a).go i H ∧ ∃ N : St → Hp → Prop, (∀ σ' H', N σ' H' → ∃ m', m' < m ∧ W (i + 1) m' σ' H') ∧ ∀ x H', (Itl K a).yld i H x H' → g x σ H' fun σ2 H2 => tb { D with nx := N, ct := N, bk := D.nx } σ2 H2) := by
  refine ⟨fun i m σ H => m = xs.length - i ∧ i ≤ xs.length ∧ Pv i σ H, ⟨xs.length, by simp, Nat.zero_le _, h0⟩, ?_⟩
  rintro i m σ H ⟨rfl, hi, p⟩
  have q := hl i σ H hi p
  by_cases hlt : i < xs.length
  · refine .inr ⟨⟨xs, xs[i], q, by simp [hlt]⟩, Pv (i + 1), fun σ' H' p' => ⟨xs.length - (i + 1), by omega, rfl, hlt, p'⟩, fun x H' y => ?_⟩
    obtain ⟨e, y⟩ := y
    subst e
    exact hs i x σ _ (y xs q) p
  · have e : i = xs.length := by omega
    subst e
    exact .inl ⟨⟨xs, q, Nat.le_refl _⟩, hd σ H p⟩
theorem for_range {lo : Int} {n : Nat} {g : TG} {tb : TS} {D : Ends} {σ : St} {H : Hp} (Pv : Nat → St → Hp → Prop) (h0 : Pv 0 σ H)
    (hs : ∀ i σ H, i < n → Pv i σ H → g (.int (lo + i)) σ H fun σ2 H2 => tb { D with nx := Pv (i + 1), ct := Pv (i + 1), bk := D.nx } σ2 H2) (hd : ∀ σ H, Pv n σ H → D.nx σ H) :
    ∃ W : Nat → Nat → St → Hp → Prop, (∃ m, W 0 m σ H) ∧ ∀ i m σ H, W i m σ H →
      ((Itr lo n).stop i H ∧ D.nx σ H) ∨ ((Itr lo n).go i H ∧ ∃ N : St → Hp → Prop, (∀ σ' H', N σ' H' → ∃ m', m' < m ∧ W (i + 1) m' σ' H') ∧ ∀ x H', (Itr lo n).yld i H x H' → g x σ H' fun σ2 H2 => tb { D with nx := N, ct := N, bk := D.nx } σ2 H2) := by
  refine ⟨fun i m σ H => m = n - i ∧ i ≤ n ∧ Pv i σ H, ⟨n, by simp, Nat.zero_le _, h0⟩, ?_⟩
  rintro i m σ H ⟨rfl, hi, p⟩
  by_cases hlt : i < n
  · refine .inr ⟨hlt, Pv (i + 1), fun σ' H' p' => ⟨n - (i + 1), by omega, rfl, hlt, p'⟩, fun x H' y => ?_⟩
    obtain ⟨e, y⟩ := y
    subst e y
    exact hs i σ _ hlt p
  · have e : i = n := by omega
    subst e
    exact .inl ⟨Nat.le_refl _, hd σ H p⟩
end L2
namespace L2
open PySem PySem.Spec PyProof.Rows
abbrev R2 := V → V → Hp → VK → Prop
def OpR (X : Cx) (f : Value → Value → Sem Value) (r : R2) : Prop :=
  ∀ (pins : List (Addr × Obj)) (s : Shared) (σ : St) (H : Hp) (x y : V) (v u : Value) (Q : VK), Inv X pins σ H s → RelV x v → RelV y u → r x y H Q →
    wpAny (model X.prog X.w) X.A (f v u) (EP X pins σ Q) X.xe s
def CallR (X : Cx) (f : Value) (r : List V → Hp → VK → Prop) : Prop :=
  ∀ (pins : List (Addr × Obj)) (s : Shared) (σ : St) (H : Hp) (xs : List V) (us : List Value) (Q : VK), Inv X pins σ H s → Vals xs us → r xs H Q →
    wpAny (model X.prog X.w) X.A (call f us) (EP X pins σ Q) X.xe s
def tOp (r : R2) (ta tb : TE) : TE := fun σ H Q => ta σ H fun x H1 => tb σ H1 fun y H2 => r x y H2 Q
def rI (C : Int → Int → Prop) (g : Int → Int → V) : R2 := fun x y H Q => ∃ i j, x = .int i ∧ y = .int j ∧ C i j ∧ Q (g i j) H
def rI0 (g : Int → Int → V) : R2 := fun x y H Q => ∃ i j, x = .int i ∧ y = .int j ∧ Q (g i j) H
section
variable {X : Cx} {a b c : Expr} {ta tb tc : TE} {pos : Pos}
theorem binT (ha : PE X a ta) (hb : PE X b tb) {pins : List (Addr × Obj)} {s : Shared} {σ : St} {H : Hp} {R : V → V → Hp → Prop} (I : Inv X pins σ H s)
    (h : ta σ H fun x H1 => tb σ H1 fun y H2 => R x y H2) {Q : Value → Shared → Prop} {f : Value → Value → Sem Value}
    (hf : ∀ v u s2 x y H2, Inv X pins σ H2 s2 → RelV x v → RelV y u → R x y H2 → wpAny (model X.prog X.w) X.A (f v u) Q X.xe s2) :
    wpAny (model X.prog X.w) X.A (eval a X.env) (fun v s₁ => wpAny (model X.prog X.w) X.A (eval b X.env) (fun u s₂ => wpAny (model X.prog X.w) X.A (f v u) Q X.xe s₂) X.xe s₁) X.xe s := by
  refine thn (ha pins s σ H _ I h) fun v s1 ⟨x, H1, I1, r1, q1⟩ => ?_
  refine thn (hb pins s1 σ H1 _ I1 q1) fun u s2 ⟨y, H2, I2, r2, q2⟩ => ?_
  exact hf v u s2 x y H2 I2 r1 r2 q2
theorem pe_op {op : Operator} {r : R2} (ho : OpR X (binaryOp op) r) (ha : PE X a ta) (hb : PE X b tb) : PE X (.BinOp a op b pos) (tOp r ta tb) := by
  intro pins s σ H Q I h
  exact wpAny_BinOp (binT ha hb I h fun v u s2 x y H2 I2 rx ry q => ho pins s2 σ H2 x y v u Q I2 rx ry q)
theorem opI {f : Value → Value → Sem Value} {C : Int → Int → Prop} {g : Int → Int → Int}
    (rule : ∀ (i j : Int) (t u : Tok) (s : Shared) (Q : Value → Shared → Prop) (E : Value → Shared → Prop), C i j → Q (.int (g i j) s.toks) { s with toks := s.toks + 1 } → wpAny (model X.prog X.w) X.A (f (.int i t) (.int j u)) Q E s) :
    OpR X f (rI C fun i j => .int (g i j)) := by
  intro pins s σ H x y v u Q I rx ry h
  obtain ⟨i, j, rfl, rfl, hc, q⟩ := h
  obtain ⟨t, rfl⟩ := rx
  obtain ⟨t', rfl⟩ := ry
  exact rule i j t t' s _ _ hc ⟨.int (g i j), H, I.tok _, ⟨_, rfl⟩, q⟩
theorem opI0 {f : Value → Value → Sem Value} {g : Int → Int → Int}
    (rule : ∀ (i j : Int) (t u : Tok) (s : Shared) (Q : Value → Shared → Prop) (E : Value → Shared → Prop), Q (.int (g i j) s.toks) { s with toks := s.toks + 1 } → wpAny (model X.prog X.w) X.A (f (.int i t) (.int j u)) Q E s) :
    OpR X f (rI0 fun i j => .int (g i j)) := by
  intro pins s σ H x y v u Q I rx ry h
  obtain ⟨i, j, rfl, rfl, q⟩ := h
  obtain ⟨t, rfl⟩ := rx
  obtain ⟨t', rfl⟩ := ry
  exact rule i j t t' s _ _ ⟨.int (g i j), H, I.tok _, ⟨_, rfl⟩, q⟩
theorem opB0 {f : Value → Value → Sem Value} {g : Int → Int → Bool}
    (rule : ∀ (i j : Int) (t u : Tok) (s : Shared) (Q : Value → Shared → Prop) (E : Value → Shared → Prop), Q (.bool (g i j)) s → wpAny (model X.prog X.w) X.A (f (.int i t) (.int j u)) Q E s) :
    OpR X f (rI0 fun i j => .bl (g i j)) := by
  intro pins s σ H x y v u Q I rx ry h
  obtain ⟨i, j, rfl, rfl, q⟩ := h
  obtain ⟨t, rfl⟩ := rx
  obtain ⟨t', rfl⟩ := ry
  exact rule i j t t' s _ _ ⟨.bl (g i j), H, I, rfl, q⟩
def CDiv (i j : Int) : Prop := 0 < j ∧ j < 1073741824
def CMul (i j : Int) : Prop := (-(2 ^ 64) < i ∧ i < 2 ^ 64) ∨ (-(2 ^ 64) < j ∧ j < 2 ^ 64)
theorem CMul.ok {i j : Int} (h : CMul i j) : IntMulOk i j := by
  rcases h with ⟨h1, h2⟩ | ⟨h1, h2⟩
  · exact .of_left (intBits_le_64 h1 h2)
  · exact .of_right (intBits_le_64 h1 h2)
theorem op_add : OpR X (binaryOp .Add) (rI0 fun i j => .int (i + j)) := opI0 fun _ _ _ _ _ _ _ q => add_int q
theorem op_sub : OpR X (binaryOp .Sub) (rI0 fun i j => .int (i - j)) := opI0 fun _ _ _ _ _ _ _ q => sub_int q
theorem op_mul : OpR X (binaryOp .Mult) (rI CMul fun i j => .int (i * j)) := opI fun _ _ _ _ _ _ _ hc q => mul_int q hc.ok
theorem op_fdiv : OpR X (binaryOp .FloorDiv) (rI CDiv fun i j => .int (i / j)) := opI fun i j _ _ _ _ _ hc q => by
  have h1 : (0 : Int) < j := hc.1
  have h2 : j < 1073741824 := hc.2
  exact floordiv_int (by omega) (by rw [Int.fdiv_eq_ediv_of_nonneg i (by omega)]; exact q) (.inl (PyProof.noPylong_small (by omega)))
theorem op_mod : OpR X (binaryOp .Mod) (rI (fun _ j => 0 < j) fun i j => .int (i % j)) := opI fun i j _ _ _ _ _ hc q => by
  have h1 : (0 : Int) < j := hc
  exact mod_int' (by omega) (by rw [Int.fmod_eq_emod_of_nonneg i (by omega)]; exact q)
end
def scal : V → V → Bool
  | .non, .non => true | .non, .int _ => true | .int _, .non => true | .non, .bl _ => true | .bl _, .non => true | .non, .str _ => true | .str _, .non => true
  | .int _, .int _ => true | .bl _, .bl _ => true | .str _, .str _ => true | .byt _, .byt _ => true
  | .int _, .str _ => true | .str _, .int _ => true | .bl _, .str _ => true | .str _, .bl _ => true
  | _, _ => false
def rEq : R2 := fun x y H Q => scal x y = true ∧ Q (.bl (decide (x = y))) H
def rNe : R2 := fun x y H Q => scal x y = true ∧ Q (.bl (!decide (x = y))) H
theorem dec_int {i j : Int} : decide (V.int i = V.int j) = (i == j) := by
  rw [Bool.eq_iff_iff]
  simp
theorem dec_bl {i j : Bool} : decide (V.bl i = V.bl j) = (i == j) := by
  rw [Bool.eq_iff_iff]
  simp
theorem dec_str {i j : Str} : decide (V.str i = V.str j) = (i == j) := by
  rw [Bool.eq_iff_iff]
  simp
theorem dec_byt {i j : Array UInt8} : decide (V.byt i = V.byt j) = (i.toList == j.toList) := by
  rw [Bool.eq_iff_iff]
  cases i
  cases j
  simp
section
variable {X : Cx} {a b c : Expr} {ta tb tc : TE} {pos : Pos}
theorem fin_bl {pins : List (Addr × Obj)} {σ : St} {H : Hp} {s : Shared} {Q : VK} {k k' : Bool} (I : Inv X pins σ H s) (q : Q (.bl k) H) (e : k = k') : EP X pins σ Q (.bool k') s := by
  subst e
  exact ⟨.bl k, H, I, rfl, q⟩
theorem op_eq : OpR X (compareOp .Eq) rEq := by
  intro pins s σ H x y v u Q I rx ry h
  obtain ⟨hs, q⟩ := h
  cases x with
  | non =>
    cases rx
    cases y with
    | non => cases ry; exact PySem.EqNone.eq_none_none (fin_bl I q (by simp))
    | bl j => cases ry; exact PySem.EqNone.eq_none_bool (fin_bl I q (by simp))
    | int j => obtain ⟨t', rfl⟩ := ry; exact PySem.EqNone.eq_none_int (fin_bl I q (by simp))
    | str j => obtain ⟨t', rfl⟩ := ry; exact PySem.EqNone.eq_none_str (fin_bl I q (by simp))
    | _ => exact absurd (show false = true from hs) Bool.false_ne_true
  | bl i =>
    cases rx
    cases y with
    | non => cases ry; exact PySem.EqNone.eq_bool_none (fin_bl I q (by simp))
    | bl j => cases ry; exact eq_bool (fin_bl I q dec_bl)
    | str j => obtain ⟨t', rfl⟩ := ry; exact PySem.EqMixed.eq_bool_str (fin_bl I q (by simp))
    | _ => exact absurd (show false = true from hs) Bool.false_ne_true
  | int i =>
    obtain ⟨t, rfl⟩ := rx
    cases y with
    | non => cases ry; exact PySem.EqNone.eq_int_none (fin_bl I q (by simp))
    | int j => obtain ⟨t', rfl⟩ := ry; exact eq_int (fin_bl I q dec_int)
    | str j => obtain ⟨t', rfl⟩ := ry; exact PySem.EqMixed.eq_int_str (fin_bl I q (by simp))
    | _ => exact absurd (show false = true from hs) Bool.false_ne_true
  | str i =>
    obtain ⟨t, rfl⟩ := rx
    cases y with
    | non => cases ry; exact PySem.EqNone.eq_str_none (fin_bl I q (by simp))
    | bl j => cases ry; exact PySem.EqMixed.eq_str_bool (fin_bl I q (by simp))
    | int j => obtain ⟨t', rfl⟩ := ry; exact PySem.EqMixed.eq_str_int (fin_bl I q (by simp))
    | str j => obtain ⟨t', rfl⟩ := ry; exact eq_str (fin_bl I q dec_str)
    | _ => exact absurd (show false = true from hs) Bool.false_ne_true
  | byt i =>
    obtain ⟨t, rfl⟩ := rx
    cases y with
    | byt j => obtain ⟨t', rfl⟩ := ry; exact PySem.W.eq_bytes (fin_bl I q dec_byt)
    | _ => exact absurd (show false = true from hs) Bool.false_ne_true
  | _ => cases y <;> exact absurd (show false = true from hs) Bool.false_ne_true
theorem op_ne : OpR X (compareOp .NotEq) rNe := by
  intro pins s σ H x y v u Q I rx ry h
  obtain ⟨hs, q⟩ := h
  cases x with
  | non =>
    cases rx
    cases y with
    | non => cases ry; exact PySem.EqNone.ne_none_none (fin_bl I q (by simp))
    | bl j => cases ry; exact PySem.EqNone.ne_none_bool (fin_bl I q (by simp))
    | int j => obtain ⟨t', rfl⟩ := ry; exact PySem.EqNone.ne_none_int (fin_bl I q (by simp))
    | str j => obtain ⟨t', rfl⟩ := ry; exact PySem.EqNone.ne_none_str (fin_bl I q (by simp))
    | _ => exact absurd (show false = true from hs) Bool.false_ne_true
  | bl i =>
    cases rx
    cases y with
    | non => cases ry; exact PySem.EqNone.ne_bool_none (fin_bl I q (by simp))
    | bl j => cases ry; exact ne_bool (fin_bl I q (congrArg not dec_bl))
    | str j => obtain ⟨t', rfl⟩ := ry; exact PySem.EqMixed.ne_bool_str (fin_bl I q (by simp))
    | _ => exact absurd (show false = true from hs) Bool.false_ne_true
  | int i =>
    obtain ⟨t, rfl⟩ := rx
    cases y with
    | non => cases ry; exact PySem.EqNone.ne_int_none (fin_bl I q (by simp))
    | int j => obtain ⟨t', rfl⟩ := ry; exact ne_int (fin_bl I q (congrArg not dec_int))
    | str j => obtain ⟨t', rfl⟩ := ry; exact PySem.EqMixed.ne_int_str (fin_bl I q (by simp))
    | _ => exact absurd (show false = true from hs) Bool.false_ne_true
  | str i =>
    obtain ⟨t, rfl⟩ := rx
    cases y with
    | non => cases ry; exact PySem.EqNone.ne_str_none (fin_bl I q (by simp))
    | bl j => cases ry; exact PySem.EqMixed.ne_str_bool (fin_bl I q (by simp))
    | int j => obtain ⟨t', rfl⟩ := ry; exact PySem.EqMixed.ne_str_int (fin_bl I q (by simp))
    | str j => obtain ⟨t', rfl⟩ := ry; exact ne_str (fin_bl I q (congrArg not dec_str))
    | _ => exact absurd (show false = true from hs) Bool.false_ne_true
  | byt i =>
    obtain ⟨t, rfl⟩ := rx
    cases y with
    | byt j => obtain ⟨t', rfl⟩ := ry; exact PySem.W.ne_bytes (fin_bl I q (congrArg not dec_byt))
    | _ => exact absurd (show false = true from hs) Bool.false_ne_true
  | _ => cases y <;> exact absurd (show false = true from hs) Bool.false_ne_true
theorem op_lt : OpR X (compareOp .Lt) (rI0 fun i j => .bl (decide (i < j))) := opB0 fun _ _ _ _ _ _ _ q => lt_int q
theorem op_le : OpR X (compareOp .LtE) (rI0 fun i j => .bl (decide (i ≤ j))) := opB0 fun _ _ _ _ _ _ _ q => le_int q
theorem op_gt : OpR X (compareOp .Gt) (rI0 fun i j => .bl (decide (j < i))) := opB0 fun _ _ _ _ _ _ _ q => gt_int q
theorem op_ge : OpR X (compareOp .GtE) (rI0 fun i j => .bl (decide (j ≤ i))) := opB0 fun _ _ _ _ _ _ _ q => ge_int q
theorem nomark (b : Expr) {op : CmpOp} (h : op ≠ .In := by decide) (h2 : op ≠ .NotIn := by decide) : behindInMarks op b = false := by
  have e1 : (op == CmpOp.In) = false := by cases op <;> first | rfl | exact absurd rfl h
  have e2 : (op == CmpOp.NotIn) = false := by cases op <;> first | rfl | exact absurd rfl h2
  cases b <;> simp [behindInMarks, e1, e2]
theorem pe_cmpR {op : CmpOp} {r : R2} (ho : OpR X (compareOp op) r) (ha : PE X a ta) (hb : PE X b tb) (hm : behindInMarks op b = false) : PE X (.Compare a [op] [b] pos) (tOp r ta tb) := by
  intro pins s σ H Q I h
  exact wpAny_Compare1 (binT ha hb I h fun v u s2 x y H2 I2 rx ry q => ho pins s2 σ H2 x y v u Q I2 rx ry q) hm
def tTest (t : TE) : TT := fun σ H Q => t σ H fun x H' => ∃ k, x = .bl k ∧ Q k H'
theorem pt_cmpR {op : CmpOp} {r : R2} (ho : OpR X (compareOp op) r) (ha : PE X a ta) (hb : PE X b tb) (hm : behindInMarks op b = false) : PT X (.Compare a [op] [b] pos) (tTest (tOp r ta tb)) := by
  intro pins s σ H Q I h
  refine wpAny_isTrue_Compare1 (thn (ha pins s σ H _ I h) fun v s1 ⟨x, H1, I1, r1, q1⟩ => thn (hb pins s1 σ H1 _ I1 q1) fun u s2 ⟨y, H2, I2, r2, q2⟩ =>
    thn (ho pins s2 σ H2 x y v u _ I2 r1 r2 q2) fun c s3 ⟨z, H3, I3, r3, k, e, q3⟩ => ?_) hm
  subst e
  cases r3
  exact wpAny_truthy_bool ⟨H3, I3, q3⟩
theorem line63 : (sizeLine : Nat) < 2 ^ 63 := by rw [sizeLine_eq]; decide
theorem vals1 {x : V} {us : List Value} (r : Vals [x] us) : ∃ u, us = [u] ∧ RelV x u := by
  cases r with
  | cons r1 r2 => cases r2; exact ⟨_, rfl, r1⟩
end
end L2
namespace L2
open PySem PySem.Spec PyProof.Rows
structure ObjM (h : Heap) (x dx C : Addr) (mA : Str → Option Value) : Prop where
  obj : h.get? x = some (PySem.W.instObj C dx)
  ns : h.Ns1 dx mA
  ne : dx ≠ x
theorem lookIn_ns {h : Heap} {dx : Addr} {mA : Str → Option Value} (n : h.Ns1 dx mA) : ∃ od, h.get? dx = some od ∧ ∀ name, PySem.W.lookIn name od = some (mA name) := by
  obtain ⟨o, es, ep, ho, hd, hk, _, hm⟩ := n
  refine ⟨o, ho, fun name => ?_⟩
  have e := hm name
  unfold nsFind findBy at e
  rw [← Array.find?_toList] at e
  unfold PySem.W.lookIn
  rw [hd]
  dsimp only
  split
  · rename_i y q
    rw [q] at e
    exact congrArg some e
  · rename_i q
    rw [q] at e
    have a : es.toList.any (·.refKey) = false := by
      rw [List.any_eq_false]
      intro y hy
      obtain ⟨z, t, hkey⟩ := hk y (Array.mem_toList_iff.mp hy)
      simp [DictEntry.refKey, hkey]
    have a' : ¬ es.toList.any (·.refKey) = true := by rw [a]; exact Bool.false_ne_true
    rw [if_neg a']
    exact congrArg some e
theorem ObjM.look {h : Heap} {x dx C : Addr} {mA : Str → Option Value} (I : ObjM h x dx C mA) : ∃ od, PySem.W.InstAt h x (PySem.W.instObj C dx) C (some od) ∧ ∀ name, PySem.W.lookIn name od = some (mA name) :=
  let ⟨od, ho, hl⟩ := lookIn_ns I.ns
  ⟨od, ⟨I.obj, rfl, rfl, ho⟩, hl⟩
section
variable {prog : Program} {w : World} {A : Around} {E : Value → Shared → Prop} {s : Shared} {K : PySem.W.Frag} {x dx C f : Addr} {mA : Str → Option Value} {name : Str} {v : Value}
theorem get_map {expr : Bool} {Q : Value → Shared → Prop} (X : K.In s.heap) (I : ObjM s.heap x dx C mA) (hg : PySem.W.plainGet K C name = true) (hh : PySem.W.hasDictIn K C = true)
    (ha : PySem.W.findIn K (.ref C) name = some none) (hv : mA name = some v) (hv' : PySem.W.handedIn v = true) (h : Q v { s with toks := s.toks + 1 }) :
    wpAny (model prog w) A (getAttr (.ref x) name expr) Q E s := by
  obtain ⟨od, J, hl⟩ := I.look
  exact PySem.W.get_value X J (PySem.W.plainGet_of hg).1 (PySem.W.findObj_own hh ha rfl (by rw [hl, hv])) hv' h
theorem get_meth {pl : Sem Bool} {Q : Value × List Value → Shared → Prop} (X : K.In s.heap) (I : ObjM s.heap x dx C mA) (hg : PySem.W.plainGet K C name = true)
    (hf : PySem.W.findIn K (.ref C) name = some (some (.ref f))) (ht : PySem.W.isFn K (.ref f) = true) (hv : mA name = none) (h : Q (.ref f, [.ref x]) s) :
    wpAny (model prog w) A (getMethod (.ref x) name pl) Q E s := by
  obtain ⟨od, J, hl⟩ := I.look
  exact PySem.W.method_fn X J (PySem.W.plainGet_of hg).1 (PySem.W.plainGet_of hg).2 hf (beq_iff_eq.mp ht) (by show (PySem.W.lookIn name od).map (·.isSome) = some false; rw [hl, hv]; rfl) h
theorem set_map {ns : List Str} {Q : Unit → Shared → Prop} (X : K.In s.heap) (I : ObjM s.heap x dx C mA)
    (hs : PySem.W.findIn K (.ref C) "__setattr__" = some (some (.builtin "object.__setattr__"))) (hp : PySem.W.plainOver K C = true) (ht : PySem.W.takerIn K C name = some none) (hh : PySem.W.hasDictIn K C = true)
    (hw : PySem.Within mA ns) (hsz : ns.length ≤ sizeLine)
    (h : ∀ h', ObjM h' x dx C (fun y => if y = name then some v else mA y) → Heap.SameBut dx s.heap h' → Q () { s with heap := h', toks := s.toks + 2 }) :
    wpAny (model prog w) A (setAttr (.ref x) name v) Q E s := by
  obtain ⟨od, J, hl⟩ := I.look
  refine PySem.W.set_plain X J hs (PySem.W.osa_open (s := { s with toks := s.toks + 1 }) (r := none) X J hp ht fun b => ?_)
  obtain ⟨cd, hc, hd'⟩ := PySem.W.any_some hh
  have hx : s.heap.get? x = some ⟨.ref C, some dx, .plain, #[]⟩ := I.obj
  refine wpAny_bind (wpAny_pure (wpAny_bind (wpAny_bind (wpAny_loadPart hx (wpAny_bind (PySem.W.Looks.here (s := { s with toks := s.toks + 1 }) (PySem.W.looks_clsIn X hc) ?_))))))
  rw [hd']
  refine wpAny_pure (a := some dx) (wpAny_bind (wpAny_pure (wpAny_bind ?_)))
  refine wpAny_nsSet1 (s := { s with toks := s.toks + 1 }) I.ns fun h' hn2 hs2 => ?_
  obtain ⟨oD, esD, epD, hoD, hdD, hcD⟩ := hn2.count (PySem.Within.cons name v hw)
  refine wpAny_bind (wpAny_lookBehind hoD (by rw [hdD]; exact pastItsLine_dict (Nat.le_trans hcD (by rw [List.length_cons]; omega))) ?_)
  exact wpAny_pure (h _ ⟨(hs2.2 _ (Ne.symm I.ne)).trans I.obj, hn2, I.ne⟩ hs2)
theorem make_map {R : Result → Shared → Prop} {vs : List Value} {kw : List (Str × Value)} (X : K.In s.heap) (hm : PySem.W.makesIn K C = true)
    (hi : PySem.W.findIn K (.ref C) "__init__" = some (some (.ref f))) (hf : PySem.W.typeIn K (.ref f) = some (.type "function"))
    (h : codeAny (model prog w) (A.under (.builtin "type.__call__" ⟨.ref C :: vs, kw⟩)) (.call (.ref f) ⟨.ref (s.heap.objs.size + 1) :: vs, kw⟩) (PySem.W.InitBack (s.heap.objs.size + 1) R)
      { s with heap := (s.heap.push PySem.W.emptyDict).push (PySem.W.instObj C s.heap.objs.size) }) :
    codeAny (model prog w) A (.call (.ref C) ⟨vs, kw⟩) R s := by
  obtain ⟨hh, g, d, t, os⟩ := s
  exact PySem.W.make_core (PySem.W.makes_of X hm) (PySem.W.looks_findIn X hi) (fun self => PySem.W.bind_fn X self hf) (.inl rfl) h
end
def putF (f : Str) (v : V) : List (Str × V) → List (Str × V)
  | [] => [(f, v)]
  | (g, x) :: r => if g = f then (g, v) :: r else (g, x) :: putF f v r
theorem lookup_putF (f g : Str) (v : V) : ∀ fs : List (Str × V), (putF f v fs).lookup g = if g = f then some v else fs.lookup g
  | [] => by
    show List.lookup g [(f, v)] = _
    by_cases h : g = f
    · have hb : (g == f) = true := beq_iff_eq.mpr h
      simp only [List.lookup, hb, if_pos h]
    · have hb : (g == f) = false := beq_eq_false_iff_ne.mpr h
      simp only [List.lookup, hb, if_neg h]
  | (k, x) :: r => by
    have ih := lookup_putF f g v r
    rw [show putF f v ((k, x) :: r) = (if k = f then (k, v) :: r else (k, x) :: putF f v r) from rfl]
    by_cases hk : k = f
    · rw [if_pos hk]
      by_cases h : g = k
      · have hb : (g == k) = true := beq_iff_eq.mpr h
        simp only [List.lookup, hb, if_pos (h.trans hk)]
      · have hb : (g == k) = false := beq_eq_false_iff_ne.mpr h
        simp only [List.lookup, hb, if_neg (fun e : g = f => h (e.trans hk.symm))]
    · rw [if_neg hk]
      by_cases h : g = k
      · have hb : (g == k) = true := beq_iff_eq.mpr h
        simp only [List.lookup, hb, if_neg (fun e : g = f => hk (h.symm.trans e))]
      · have hb : (g == k) = false := beq_eq_false_iff_ne.mpr h
        simp only [List.lookup, hb]
        exact ih
theorem keys_putF (f : Str) (v : V) : ∀ fs : List (Str × V), f ∈ (putF f v fs).map (·.1) ∧ ∀ g, g ∈ fs.map (·.1) → g ∈ (putF f v fs).map (·.1)
  | [] => ⟨by simp [putF], fun g h => by simp at h⟩
  | (k, x) :: r => by
    obtain ⟨i1, i2⟩ := keys_putF f v r
    rw [show putF f v ((k, x) :: r) = (if k = f then (k, v) :: r else (k, x) :: putF f v r) from rfl]
    by_cases hk : k = f
    · rw [if_pos hk]
      subst hk
      exact ⟨by simp, fun g h => by simpa using h⟩
    · rw [if_neg hk]
      refine ⟨?_, fun g h => ?_⟩
      · rw [List.map_cons]
        exact List.mem_cons_of_mem _ i1
      · rw [List.map_cons] at h ⊢
        rcases List.mem_cons.mp h with e | e
        · exact List.mem_cons.mpr (.inl e)
        · exact List.mem_cons_of_mem _ (i2 g e)
theorem length_putF (f : Str) (v : V) : ∀ fs : List (Str × V), (putF f v fs).length ≤ fs.length + 1
  | [] => by simp [putF]
  | (k, x) :: r => by
    have ih := length_putF f v r
    rw [show putF f v ((k, x) :: r) = (if k = f then (k, v) :: r else (k, x) :: putF f v r) from rfl]
    by_cases hk : k = f
    · rw [if_pos hk, List.length_cons, List.length_cons]; omega
    · rw [if_neg hk, List.length_cons, List.length_cons]; omega
theorem RelO.some_of {v : V} {o : Option Value} (r : RelO (some v) o) : ∃ u, o = some u ∧ RelV v u := by
  cases o with
  | none => exact (show False from r).elim
  | some u => exact ⟨u, rfl, r⟩
theorem RelO.none_of {o : Option Value} (r : RelO none o) : o = none := by
  cases o with
  | none => rfl
  | some u => exact (show False from r).elim
theorem handed_of {v : V} {u : Value} (r : RelV v u) : PySem.W.handedIn u = true := by
  cases v with
  | non => cases (show u = Value.none from r); rfl
  | bl b => cases (show u = Value.bool b from r); rfl
  | int i => obtain ⟨t, e⟩ := (show ∃ t, u = Value.int i t from r); cases e; rfl
  | str x => obtain ⟨t, e⟩ := (show ∃ t, u = Value.str x t from r); cases e; rfl
  | byt b => obtain ⟨t, e⟩ := (show ∃ t, u = Value.bytes b t from r); cases e; rfl
  | flt b => obtain ⟨t, e⟩ := (show ∃ t, u = Value.float b t from r); cases e; rfl
  | ref a => cases (show u = Value.ref a from r); rfl
  | ty n => cases (show u = Value.type n from r); rfl
section
variable {P : Program} {w : World} {H H' : Hp} {h h' : Heap} {a C dx : Addr} {fs fs' : List (Str × V)}
theorem ins_get (hok : HOk P w H h) (e : H a = some (.ins C dx fs)) : ∃ mA, ObjM h a dx C mA ∧ (∀ f, RelO (fs.lookup f) (mA f)) ∧ PySem.Within mA (fs.map (·.1)) ∧ fs.length ≤ 1000 ∧ H dx = some (.own a) := by
  obtain ⟨d, z, ne, ob, mA, n, r, q⟩ := (show ObjOk P w H h a (.ins C dx fs) from hok a _ e)
  exact ⟨mA, ⟨ob, n, ne⟩, r, q, z, d⟩
end
structure Cls (K : PySem.W.Frag) (C : Addr) : Prop where
  pg : PySem.W.plainGet K C Str.empty = true
  hd : PySem.W.hasDictIn K C = true
  po : PySem.W.plainOver K C = true
  sa : PySem.W.findIn K (.ref C) "__setattr__" = some (some (.builtin "object.__setattr__"))
theorem Cls.get {K : PySem.W.Frag} {C : Addr} (c : Cls K C) (f : Str) : PySem.W.plainGet K C f = true := c.pg
def NoAttr (K : PySem.W.Frag) (C : Addr) (f : Str) : Prop := PySem.W.findIn K (.ref C) f = some none
theorem NoAttr.taker {K : PySem.W.Frag} {C : Addr} {f : Str} (n : NoAttr K C f) : PySem.W.takerIn K C f = some none := by
  unfold PySem.W.takerIn
  rw [show PySem.W.findIn K (.ref C) f = some none from n]
  rfl
structure Meth (K : PySem.W.Frag) (C : Addr) (m : Str) (f : Addr) : Prop where
  at_ : PySem.W.findIn K (.ref C) m = some (some (.ref f))
  fn : PySem.W.isFn K (.ref f) = true
  kp : PySem.W.keepIn K (.ref f) = true
section
variable {X : Cx} {pins : List (Addr × Obj)} {σ : St} {H : Hp} {s : Shared} {a C dx : Addr} {fs : List (Str × V)} {f : Str} {v : V} {A : Around} {E : Value → Shared → Prop}
theorem getattr_ok {b : Bool} {Q : Value → Shared → Prop} (I : Inv X pins σ H s) (e : H a = some (.ins C dx fs)) (c : Cls X.K C) (n : NoAttr X.K C f) (l : fs.lookup f = some v)
    (h : ∀ u s', Inv X pins σ H s' → RelV v u → Q u s') : wpAny (model X.prog X.w) A (getAttr (.ref a) f b) Q E s := by
  obtain ⟨mA, O, r, _, _, _⟩ := ins_get I.hok e
  obtain ⟨u, hu, ru⟩ := RelO.some_of (v := v) (o := mA f) (by rw [← l]; exact r f)
  exact get_map I.kIn O (c.get f) c.hd n hu (handed_of ru) (h u _ (I.tok _) ru)
theorem getmeth_ok {m : Str} {g : Addr} {pl : Sem Bool} {Q : Value × List Value → Shared → Prop} (I : Inv X pins σ H s) (e : H a = some (.ins C dx fs)) (c : Cls X.K C) (k : Meth X.K C m g) (l : fs.lookup m = none)
    (h : Q (.ref g, [.ref a]) s) : wpAny (model X.prog X.w) A (getMethod (.ref a) m pl) Q E s := by
  obtain ⟨mA, O, r, _, _, _⟩ := ins_get I.hok e
  have hn : mA m = none := RelO.none_of (by rw [← l]; exact r m)
  exact get_meth I.kIn O (c.get m) k.at_ k.fn hn h
theorem setattr_ok {y : V} {u : Value} {Q : Unit → Shared → Prop} (I : Inv X pins σ H s) (e : H a = some (.ins C dx fs)) (c : Cls X.K C) (n : NoAttr X.K C f) (hl : fs.length < 1000) (ry : RelV y u)
    (h : ∀ s', Inv X pins σ (upd H a (.ins C dx (putF f y fs))) s' → Q () s') : wpAny (model X.prog X.w) A (setAttr (.ref a) f u) Q E s := by
  obtain ⟨mA, O, r, wi, _, ho⟩ := ins_get I.hok e
  have hz : (fs.map (·.1)).length ≤ sizeLine := by rw [List.length_map, sizeLine_eq]; omega
  refine set_map I.kIn O c.sa c.po n.taker c.hd wi hz fun h' O' sb => h _ ?_
  have hd : ∃ o, h'.get? dx = some o := let ⟨o, _, _, e', _⟩ := O'.ns; ⟨o, e'⟩
  refine I.write (x := a) (e := dx) (by rw [e]; exact True.intro) (.inr ho) (fun b q hb z => (sb.2 b hb).trans z) hd ?_
  refine ⟨by rw [upd_ne O.ne]; exact ho, ?_, O.ne, O'.obj, _, O'.ns, fun g => ?_, fun g hg => ?_⟩
  · have := length_putF f y fs; omega
  · show RelO ((putF f y fs).lookup g) (if g = f then some u else mA g)
    rw [lookup_putF]
    by_cases q : g = f
    · rw [if_pos q, if_pos q]; exact ry
    · rw [if_neg q, if_neg q]; exact r g
  · by_cases q : g = f
    · rw [q]; exact (keys_putF f y fs).1
    · refine (keys_putF f y fs).2 g (wi g fun z => hg ?_)
      show (if g = f then some u else mA g) = none
      rw [if_neg q]; exact z
theorem Inv.made (I : Inv X pins σ H s) : Inv X pins σ (upd (upd H s.heap.objs.size (.own (s.heap.objs.size + 1))) (s.heap.objs.size + 1) (.ins C s.heap.objs.size []))
    { s with heap := (s.heap.push PySem.W.emptyDict).push (PySem.W.instObj C s.heap.objs.size) } := by
  have e1 : (s.heap.push PySem.W.emptyDict).get? s.heap.objs.size = some PySem.W.emptyDict := Heap.get?_push_size s.heap rfl
  have e2 : ((s.heap.push PySem.W.emptyDict).push (PySem.W.instObj C s.heap.objs.size)).get? (s.heap.objs.size + 1) = some (PySem.W.instObj C s.heap.objs.size) := by
    have := Heap.get?_push_size (s.heap.push PySem.W.emptyDict) (o := PySem.W.instObj C s.heap.objs.size) rfl
    rwa [Heap.size_push] at this
  have e3 : (s.heap.push PySem.W.emptyDict).Ns s.heap.objs.size (fun _ => none) := ⟨PySem.W.emptyDict, #[], _, e1, rfl, (fun e he => absurd he (by simp)), fun _ => rfl⟩
  have I1 := I.laid (a := s.heap.objs.size) (o := .own (s.heap.objs.size + 1)) (h' := s.heap.push PySem.W.emptyDict) (t' := s.toks) (fun b u q => Heap.get?_push_of_some _ q) (Nat.le_refl _) ⟨_, e1⟩
  refine I1.laid (a := s.heap.objs.size + 1) (o := .ins C s.heap.objs.size []) (t' := s.toks) (fun b u q => Heap.get?_push_of_some _ q) (Nat.le_of_eq (Heap.size_push _ _)) ?_
  have ne : s.heap.objs.size ≠ s.heap.objs.size + 1 := Nat.ne_of_lt (Nat.lt_succ_self _)
  refine ⟨by rw [upd_ne ne, upd_same], Nat.zero_le _, ne, e2, fun _ => none, (Heap.Ns1.of_empty e3).at fun o q => Heap.get?_push_of_some _ q, fun _ => True.intro, fun y hy => absurd rfl hy⟩
theorem attr_of {prog : Program} {w : World} {env : Env} {e : Expr} {f : Str} {pos : Pos} {s : Shared} {Q : Value → Shared → Prop} (hb : attributeBase e f env (eval e env) = eval e env)
    (h : wpAny (model prog w) A (eval e env) (fun o s₁ => wpAny (model prog w) A (getAttr o f true) Q E s₁) E s) : wpAny (model prog w) A (eval (.Attribute e f pos) env) Q E s :=
  Attribute_any_ h (by rw [arm_eval_Attribute, hb])
end
def tFld (K : PySem.W.Frag) (ta : TE) (f : Str) : TE := fun σ H Q => ta σ H fun x H1 => ∃ a C dx fs v, x = .ref a ∧ H1 a = some (.ins C dx fs) ∧ Cls K C ∧ NoAttr K C f ∧ fs.lookup f = some v ∧ Q v H1
def sFld (K : PySem.W.Frag) (ta tv : TE) (f : Str) : TS := fun D σ H => tv σ H fun y H1 => ta σ H1 fun x H2 => ∃ a C dx fs, x = .ref a ∧ H2 a = some (.ins C dx fs) ∧ Cls K C ∧ NoAttr K C f ∧ fs.length < 1000 ∧
  D.nx σ (upd H2 a (.ins C dx (putF f y fs)))
section
variable {X : Cx} {o e value : Expr} {f : Str} {pos pos' tpos : Pos} {ta tv : TE}
theorem pe_fld (he : PE X e ta) (hb : attributeBase e f X.env (eval e X.env) = eval e X.env) : PE X (.Attribute e f pos) (tFld X.K ta f) := by
  intro pins s σ H Q I h
  refine attr_of hb (thn (he pins s σ H _ I h) fun u s1 ⟨x, H1, I1, rx, a, C, dx, fs, v, ex, ea, c, n, l, q⟩ => ?_)
  subst ex
  obtain rfl : u = Value.ref a := rx
  exact getattr_ok I1 ea c n l fun u' s2 I2 ru => ⟨v, H1, I2, ru, q⟩
theorem ps_fld (ha : PE X o ta) (hv : PE X value tv) (hs : swapsWith value (some (.Attribute o f pos')) pos.line X.env = pure false) : PS X (.Assign [.Attribute o f pos'] value pos) (sFld X.K ta tv f) := by
  intro pins s σ H D I h
  refine plainObj_wpAny_Assign_Attribute (thn (hv pins s σ H _ I h) fun u s1 ⟨y, H1, I1, ry, q⟩ => thn (ha pins s1 σ H1 _ I1 q) fun ov s2 ⟨x, H2, I2, rx, a, C, dx, fs, ex, ea, c, n, l, q2⟩ => ?_) hs
  subst ex
  obtain rfl : ov = Value.ref a := rx
  exact setattr_ok I2 ea c n l ry fun s3 I3 => ⟨σ, _, I3, q2⟩
end
section
variable {X : Cx} {pins : List (Addr × Obj)} {σ : St} {H : Hp} {s : Shared} {A : Around} {E : Value → Shared → Prop} {Q : Value → Shared → Prop} {c : Value} {b : Bool}
end
end L2
namespace L2
open PySem PySem.Spec PyProof.Rows
structure Room (k : Nat) (A : Around) : Prop where
  hd : A.handled = none
  dp : A.depth + 3 * k + 5 < recursionLimit
  un : A.units + 16 * k + 200 < cLine
theorem Room.mono {j k : Nat} {A : Around} (r : Room k A) (h : j ≤ k) : Room j A := ⟨r.hd, by have := r.dp; omega, by have := r.un; omega⟩
theorem Room.deeper {k : Nat} {A : Around} (r : Room (k + 1) A) (env : Env) : Room k (A.deeper env) :=
  ⟨r.hd, by have := r.dp; show A.depth + 1 + 3 * k + 5 < _; omega, by have := r.un; show A.units + 3 + 16 * k + 200 < _; omega⟩
theorem make_depth {A : Around} {C : Addr} {us : List Value} {kw : List (Str × Value)} : (A.under (.builtin "type.__call__" ⟨.ref C :: us, kw⟩)).depth = A.depth + 1 := by
  first | rfl | simp [Around.under, Code.weight, Code.isCreation, Code.isGuard, Code.isCaller, Code.frames, Code.isFrame, guardIds]
theorem make_units {A : Around} {C : Addr} {us : List Value} {kw : List (Str × Value)} : (A.under (.builtin "type.__call__" ⟨.ref C :: us, kw⟩)).units = A.units + 1 := by
  first | rfl | simp [Around.under, Code.cUnits, Code.frames, Code.isFrame]
theorem Room.make {k : Nat} {A : Around} (r : Room (k + 1) A) (C : Addr) (us : List Value) (kw : List (Str × Value)) : Room k (A.under (.builtin "type.__call__" ⟨.ref C :: us, kw⟩)) :=
  ⟨r.hd, by have := r.dp; rw [make_depth]; omega, by have := r.un; rw [make_units]; omega⟩
theorem Room.depth {k : Nat} {A : Around} (r : Room k A) : A.depth < recursionLimit := by have := r.dp; omega
theorem Room.units {k : Nat} {A : Around} (r : Room k A) : A.units + 64 < cLine := by have := r.un; omega
def tNil : TA := fun _ H Q => Q [] H
def tCons (ta : TE) (tr : TA) : TA := fun σ H Q => ta σ H fun x H1 => tr σ H1 fun xs H2 => Q (x :: xs) H2
section
variable {X : Cx} {e : Expr} {es : List Expr} {te : TE} {t : TA} {pos : Pos}
theorem pa_nil : PA X [] tNil := fun _ _ _ _ H Q I h => Calls.spliced_nil ⟨[], H, I, .nil, h⟩
theorem pa_cons (ha : PE X e te) (hr : PA X es t) (hs : starEach (e :: es) X.env = (false, eval e X.env) :: starEach es X.env := by rfl) : PA X (e :: es) (tCons te t) := by
  intro pos pins s σ H Q I h
  rw [hs]
  show wpAny _ _ (spliced ((false, eval e X.env) :: backTo pos (starEach es X.env))) _ _ s
  refine Calls.spliced_cons (thn (ha pins s σ H _ I h) fun u s1 ⟨x, H1, I1, r1, q1⟩ => ?_)
  exact thn (hr pos pins s1 σ H1 _ I1 q1) fun us s2 ⟨xs, H2, I2, r2, q2⟩ => ⟨x :: xs, H2, I2, .cons r1 r2, q2⟩
def tTup (t : TA) : TE := fun σ H Q => t σ H fun xs H1 => xs.length ≤ sizeLine ∧ ∀ p, H1 p = none → Q (.ref p) (upd H1 p (.tup xs))
def tLst (t : TA) : TE := fun σ H Q => t σ H fun xs H1 => xs.length ≤ sizeLine ∧ ∀ p, H1 p = none → Q (.ref p) (upd H1 p (.lst xs))
theorem pe_tup {x1} (h : PA X es t) : PE X (.Tuple es x1 pos) (tTup t) := by
  intro pins s σ H Q I hq
  refine wpAny_Tuple_spliced (thn (h pos pins s σ H _ I hq) fun us s1 ⟨xs, H1, I1, r, z, q⟩ => ⟨by rw [← r.length]; exact z, ?_⟩)
  have hf : H1 s1.heap.objs.size = none := I1.hok.fresh (Nat.le_refl _)
  refine ⟨.ref s1.heap.objs.size, upd H1 s1.heap.objs.size (.tup xs), I1.laid (t' := s1.toks) (fun b u e => Heap.get?_push_of_some _ e) (Nat.le_refl _) ?_, rfl, q _ hf⟩
  exact ⟨z, us, r, ⟨_, Heap.get?_push_size _ rfl, rfl, _, rfl⟩⟩
theorem pe_lst (h : PA X es t) : PE X (.List es pos) (tLst t) := by
  intro pins s σ H Q I hq
  refine wpAny_List_spliced (thn (h pos pins s σ H _ I hq) fun us s1 ⟨xs, H1, I1, r, z, q⟩ => ⟨by rw [← r.length]; exact z, ?_⟩)
  have hf : H1 s1.heap.objs.size = none := I1.hok.fresh (Nat.le_refl _)
  refine ⟨.ref s1.heap.objs.size, upd H1 s1.heap.objs.size (.lst xs), I1.laid (t' := s1.toks) (fun b u e => Heap.get?_push_of_some _ e) (Nat.le_refl _) ?_, rfl, q _ hf⟩
  exact ⟨z, us, 0, r, Heap.get?_push_size _ rfl⟩
end
abbrev Sp := List V → Hp → VK → XK → Prop
abbrev CXT := List Env → Hp → Shared → XK → Value → Shared → Prop
structure Env0 (P : Program) (w : World) (K : PySem.W.Frag) (mg : Str → Option Value) (base : Heap) (A : Around) (outer : List Env) (s : Shared) (H : Hp) : Prop where
  frames : A.frames = some outer
  mod : Mod K mg base
  bs : ∀ b o, base.get? b = some o → s.heap.get? b = some o ∧ H b = none
  bsz : base.objs.size ≤ s.heap.objs.size
  funs : s.heap.FunFrames base outer
  frf : ∀ b ∈ frs outer, H b = none
  hok : HOk P w H s.heap
  bare : AllBare s.gens
def CE (outer : List Env) (P : Program) (w : World) (H : Hp) (s : Shared) (Q : VK) (u : Value) (s' : Shared) : Prop :=
  ∃ v H', s'.os = s.os ∧ AllBare s'.gens ∧ Un (frs outer) [] H H' s.heap s'.heap ∧ HOk P w H' s'.heap ∧ RelV v u ∧ Q v H'
def CR (CX : CXT) (outer : List Env) (P : Program) (w : World) (H : Hp) (s : Shared) (Q : VK) (E : XK) (r : Result) (s' : Shared) : Prop :=
  match r with
  | .ok (.ret u) => CE outer P w H s Q u s'
  | .ok _ => False
  | .error e => CX outer H s E e s'
structure FnOk (P : Program) (w : World) (K : PySem.W.Frag) (mg : Str → Option Value) (base : Heap) (CX : CXT) (k : Nat) (f : Addr) (fd : FuncData) (ps : List Str) (sp : Sp) : Prop where
  len : ∀ vs H Q E, sp vs H Q E → vs.length = ps.length
  run : ∀ (A : Around) (outer : List Env) (s : Shared) (H : Hp) (args : Args) (us : List Value) (vs : List V) (Q : VK) (E : XK), Room k A → Env0 P w K mg base A outer s H → BindsTo s fd args (ps.zip us) → Vals vs us → sp vs H Q E →
    codeAny (model P w) A (.call (.ref f) args) (CR CX outer P w H s Q E) s
theorem Env0.make {P : Program} {w : World} {K : PySem.W.Frag} {mg : Str → Option Value} {base : Heap} {A : Around} {outer : List Env} {s : Shared} {H : Hp} (e : Env0 P w K mg base A outer s H) (C : Addr) (us : List Value) (kw : List (Str × Value)) :
    Env0 P w K mg base (A.under (.builtin "type.__call__" ⟨.ref C :: us, kw⟩)) outer s H := ⟨by first | exact e.frames | (simpa [Around.under, Code.envs, Code.isFrame, pushEnvs] using e.frames), e.mod, e.bs, e.bsz, e.funs, e.frf, e.hok, e.bare⟩
section
variable {X : Cx} {pins : List (Addr × Obj)} {σ : St} {H : Hp} {s s' : Shared}
theorem Inv.env0 (I : Inv X pins σ H s) : Env0 X.prog X.w X.K X.mg X.base X.A X.stack s H :=
  ⟨I.ok.frames, I.ok.mod, I.bs, Nat.le_trans I.ok.bsz I.sz, I.stack, I.stkFree, I.hok, I.bare⟩
theorem Inv.after {Q : VK} {u : Value} (I : Inv X pins σ H s) (h : CE X.stack X.prog X.w H s Q u s') : EP X pins σ Q u s' := by
  obtain ⟨v, H', os, bare, un, hok, r, q⟩ := h
  obtain ⟨hh, g, d, t, os'⟩ := s'
  obtain rfl : os' = s.os := os
  exact ⟨v, H', I.call (h' := hh) (g' := g) (d' := d) (t' := t) (ch := []) un hok bare (fun b z => absurd z (by simp)), r, q⟩
end
def tCall (sp : Sp) (dvs : List V) (E : XK) (t : TA) : TE := fun σ H Q => t σ H fun vs H1 => sp (vs ++ dvs) H1 Q E
def tMeth (C : Addr) (m : Str) (sp : Sp) (dvs : List V) (E : XK) (ta : TE) (t : TA) : TE := fun σ H Q => ta σ H fun x H1 => ∃ a dx fs, x = .ref a ∧ H1 a = some (.ins C dx fs) ∧ fs.lookup m = none ∧
  t σ H1 fun vs H2 => sp (x :: (vs ++ dvs)) H2 Q E
def tMake (C : Addr) (sp : Sp) (dvs : List V) (E : XK) (t : TA) : TE := fun σ H Q => t σ H fun vs H1 => ∀ x dx, H1 x = none → H1 dx = none → dx ≠ x →
  sp (.ref x :: (vs ++ dvs)) (upd (upd H1 dx (.own x)) x (.ins C dx [])) (fun v H2 => v = .non ∧ Q (.ref x) H2) E
def Binds (K : PySem.W.Frag) (fd : FuncData) (ps : List Str) (ds : List Value) : Prop :=
  ∀ (s : Shared) (us : List Value), K.In s.heap → (us ++ ds).length = ps.length → BindsTo s fd ⟨us, []⟩ (ps.zip (us ++ ds))
theorem Binds.all {K : PySem.W.Frag} {fd : FuncData} {ps : List Str} (h : ∀ us : List Value, us.length = ps.length → bindArgs fd ⟨us, []⟩ = pure (ps.zip us)) : Binds K fd ps [] := fun s us _ hl => by
  rw [List.append_nil] at hl ⊢
  exact .of_eq (h us hl)
def Passes (CX : CXT) (X : Cx) (E : XK) : Prop := ∀ (pins : List (Addr × Obj)) (σ : St) (H : Hp) (s : Shared) (e : Value) (s' : Shared), Inv X pins σ H s → CX X.stack H s E e s' → X.xe e s'
section
variable {X : Cx} {CX : CXT} {k : Nat} {f C : Addr} {fd : FuncData} {ps : List Str} {sp : Sp} {dvs : List V} {ds : List Value} {E : XK} {x m : Str} {p pos apos : Pos} {e o : Expr} {es : List Expr} {ta : TE} {t : TA}
theorem run_fn {pins : List (Addr × Obj)} {σ : St} {H : Hp} {s : Shared} {Q : VK} {us : List Value} {vs : List V} (F : FnOk X.prog X.w X.K X.mg X.base CX k f fd ps sp) (hr : Room k X.A) (hb : Binds X.K fd ps ds) (hd : Vals dvs ds) (hx : Passes CX X E)
    (I : Inv X pins σ H s) (r : Vals vs us) (h : sp (vs ++ dvs) H Q E) : wpAny (model X.prog X.w) X.A (call (.ref f) us) (EP X pins σ Q) X.xe s := by
  have r2 : Vals (vs ++ dvs) (us ++ ds) := r.append hd
  have hl : (us ++ ds).length = ps.length := by rw [← r2.length]; exact F.len _ _ _ _ h
  refine wpAny_call (codeAny_mono (F.run X.A X.stack s H ⟨us, []⟩ (us ++ ds) (vs ++ dvs) Q E hr I.env0 (hb s us I.kIn hl) r2 h) fun r s' hq => ?_)
  cases r with
  | error e => exact hx pins σ H s e s' I hq
  | ok fl =>
    cases fl with
    | ret u => exact I.after hq
    | next => exact False.elim hq
    | brk => exact False.elim hq
    | cont => exact False.elim hq
theorem pe_call (F : FnOk X.prog X.w X.K X.mg X.base CX k f fd ps sp) (hr : Room k X.A) (hg : Gl X x) (hm : X.mg x = some (.ref f)) (hk : PySem.W.keepIn X.K (.ref f) = true) (hb : Binds X.K fd ps ds) (hd : Vals dvs ds) (hx : Passes CX X E)
    (ha : PA X (e :: es) t) (hdb : (x == ("__debug__" : Str)) = false := by decide) (he : starEach (e :: es) X.env = (false, eval e X.env) :: starEach es X.env := by rfl) (hpl : (backTo pos (starEach es X.env)).any (·.1) = false := by rfl) :
    PE X (.Call (.Name x p) (e :: es) [] pos) (tCall sp dvs E t) := by
  intro pins s σ H Q I h
  refine wpAny_Call_Name_kw (ld_glob I hg hm ?_ hdb)
  refine PySem.W.callWith_K (h₀ := X.base) I.ok.mod.kin hk (thn (ha pos pins s σ H _ I h) fun us s1 ⟨vs, H1, I1, r, q⟩ => ⟨I1.kIn, ?_⟩) he hpl
  exact run_fn F hr hb hd hx I1 r q
theorem pe_meth {pl : Sem Bool} (he : PE X o ta) (c : Cls X.K C) (hm : Meth X.K C m f) (F : FnOk X.prog X.w X.K X.mg X.base CX k f fd ps sp) (hr : Room k X.A) (hb : Binds X.K fd ps ds) (hd : Vals dvs ds) (hx : Passes CX X E) (ha : PA X (e :: es) t)
    (hst : starEach (e :: es) X.env = (false, eval e X.env) :: starEach es X.env := by rfl) (hpl : (backTo pos (starEach es X.env)).any (·.1) = false := by rfl)
    (ht : eval (.Call (.Attribute o m apos) (e :: es) [] pos) X.env = (do
      let ov ← eval o X.env
      standAt apos.atName
      let (f, first) ← holding [ov] (getMethod ov m pl)
      callWith pos f first (backTo pos (starEach (e :: es) X.env)) (backToKw pos (keywordEach [] X.env))) := by rfl) :
    PE X (.Call (.Attribute o m apos) (e :: es) [] pos) (tMeth C m sp dvs E ta t) := by
  intro pins s σ H Q I h
  refine PySem.W.methodCall_KW (pl := pl) (thn (he pins s σ H _ I h) fun u s1 ⟨x, H1, I1, rx, a, dx, fs, ex, ea, l, q⟩ => ?_) ht
  subst ex
  obtain rfl : u = Value.ref a := rx
  refine getmeth_ok I1 ea c hm l ?_
  refine PySem.W.callWith_K (first := [.ref a]) (h₀ := X.base) I.ok.mod.kin hm.kp (thn (ha pos pins s1 σ H1 _ I1 q) fun us s2 ⟨vs, H2, I2, r, q2⟩ => ⟨I2.kIn, ?_⟩) hst hpl
  exact run_fn (us := .ref a :: us) (vs := .ref a :: vs) F hr hb hd hx I2 (.cons rfl r) q2
theorem pe_meth0 {pl : Sem Bool} (he : PE X o ta) (c : Cls X.K C) (hm : Meth X.K C m f) (F : FnOk X.prog X.w X.K X.mg X.base CX k f fd ps sp) (hr : Room k X.A) (hb : Binds X.K fd ps ds) (hd : Vals dvs ds) (hx : Passes CX X E)
    (ht : eval (.Call (.Attribute o m apos) [] [] pos) X.env = (do
      let ov ← eval o X.env
      standAt apos.atName
      let (f, first) ← holding [ov] (getMethod ov m pl)
      callWith pos f first (backTo pos (starEach [] X.env)) (backToKw pos (keywordEach [] X.env))) := by rfl) :
    PE X (.Call (.Attribute o m apos) [] [] pos) (tMeth C m sp dvs E ta tNil) := by
  intro pins s σ H Q I h
  refine PySem.W.methodCall_KW (pl := pl) (thn (he pins s σ H _ I h) fun u s1 ⟨x, H1, I1, rx, a, dx, fs, ex, ea, l, q⟩ => ?_) ht
  subst ex
  obtain rfl : u = Value.ref a := rx
  refine getmeth_ok I1 ea c hm l ?_
  exact PySem.W.callWith_K0 (first := [.ref a]) I1.kIn hm.kp (run_fn (us := [.ref a]) (vs := [.ref a]) F hr hb hd hx I1 (.cons rfl .nil) q)
structure Mk (K : PySem.W.Frag) (C f : Addr) : Prop where
  makes : PySem.W.makesIn K C = true
  init : PySem.W.findIn K (.ref C) "__init__" = some (some (.ref f))
  fn : PySem.W.isFn K (.ref f) = true
  kp : PySem.W.keepIn K (.ref C) = true
theorem run_make {pins : List (Addr × Obj)} {σ : St} {H : Hp} {s : Shared} {Q : VK} {us : List Value} {vs : List V} (M : Mk X.K C f) (F : FnOk X.prog X.w X.K X.mg X.base CX k f fd ps sp) (hr : Room (k + 1) X.A) (hb : Binds X.K fd ps ds) (hd : Vals dvs ds)
    (hx : Passes CX X E) (I : Inv X pins σ H s) (r : Vals vs us)
    (h : ∀ x dx, H x = none → H dx = none → dx ≠ x → sp (.ref x :: (vs ++ dvs)) (upd (upd H dx (.own x)) x (.ins C dx [])) (fun v H2 => v = .non ∧ Q (.ref x) H2) E) :
    wpAny (model X.prog X.w) X.A (call (.ref C) us) (EP X pins σ Q) X.xe s := by
  have hq := h (s.heap.objs.size + 1) s.heap.objs.size (I.hok.fresh (Nat.le_succ _)) (I.hok.fresh (Nat.le_refl _)) (Nat.ne_of_lt (Nat.lt_succ_self _))
  have I2 := Inv.made (C := C) I
  have r2 : Vals (V.ref (s.heap.objs.size + 1) :: (vs ++ dvs)) (Value.ref (s.heap.objs.size + 1) :: (us ++ ds)) := .cons rfl (r.append hd)
  have hl : (Value.ref (s.heap.objs.size + 1) :: us ++ ds).length = ps.length := by
    have e := r2.length
    rw [F.len _ _ _ _ hq] at e
    exact e.symm
  refine wpAny_call (make_map (f := f) I.kIn M.makes M.init (beq_iff_eq.mp M.fn) (codeAny_mono (F.run _ X.stack _ _ ⟨Value.ref (s.heap.objs.size + 1) :: us, []⟩ (Value.ref (s.heap.objs.size + 1) :: (us ++ ds)) _ _ E (hr.make C us [])
    (I2.env0.make C us []) (hb _ (Value.ref (s.heap.objs.size + 1) :: us) I2.kIn hl) r2 hq) fun r s' hq' => ?_))
  cases r with
  | error e => exact hx pins σ _ _ e s' I2 hq'
  | ok fl =>
    cases fl with
    | ret u =>
      obtain ⟨v, H', I3, rv, ev, q3⟩ := I2.after hq'
      subst ev
      exact ⟨rv, ⟨V.ref (s.heap.objs.size + 1), H', I3, rfl, q3⟩⟩
    | next => exact False.elim hq'
    | brk => exact False.elim hq'
    | cont => exact False.elim hq'
theorem pe_make (M : Mk X.K C f) (F : FnOk X.prog X.w X.K X.mg X.base CX k f fd ps sp) (hr : Room (k + 1) X.A) (hg : Gl X x) (hm : X.mg x = some (.ref C)) (hb : Binds X.K fd ps ds) (hd : Vals dvs ds) (hx : Passes CX X E)
    (ha : PA X (e :: es) t) (hdb : (x == ("__debug__" : Str)) = false := by decide) (he : starEach (e :: es) X.env = (false, eval e X.env) :: starEach es X.env := by rfl) (hpl : (backTo pos (starEach es X.env)).any (·.1) = false := by rfl) :
    PE X (.Call (.Name x p) (e :: es) [] pos) (tMake C sp dvs E t) := by
  intro pins s σ H Q I h
  refine wpAny_Call_Name_kw (ld_glob I hg hm ?_ hdb)
  refine PySem.W.callWith_K (h₀ := X.base) I.ok.mod.kin M.kp (thn (ha pos pins s σ H _ I h) fun us s1 ⟨vs, H1, I1, r, q⟩ => ⟨I1.kIn, ?_⟩) he hpl
  exact run_make M F hr hb hd hx I1 r q
theorem pe_make0 (M : Mk X.K C f) (F : FnOk X.prog X.w X.K X.mg X.base CX k f fd ps sp) (hr : Room (k + 1) X.A) (hg : Gl X x) (hm : X.mg x = some (.ref C)) (hb : Binds X.K fd ps ds) (hd : Vals dvs ds) (hx : Passes CX X E)
    (hdb : (x == ("__debug__" : Str)) = false := by decide) : PE X (.Call (.Name x p) [] [] pos) (tMake C sp dvs E tNil) := by
  intro pins s σ H Q I h
  refine wpAny_Call_Name_kw (ld_glob I hg hm ?_ hdb)
  exact PySem.W.callWith_K0 I.kIn M.kp (run_make (us := []) M F hr hb hd hx I .nil h)
end
section
variable {X : Cx} {CX : CXT} {k : Nat} {f C : Addr} {fd : FuncData} {ps ks : List Str} {sp : Sp} {E : XK} {x m : Str} {p pos apos kpos : Pos} {e o : Expr} {es : List Expr} {kws : List Keyword} {te ta : TE} {t tk : TA} {nm : Option Str}
variable {g : List Value → List Value → List Value} {gV : List V → List V → List V}
end
structure FnScope (N P : List Str) (sc : Scope) : Prop where
  kind : sc.kind = .function
  co : sc.isCoroutine = false
  gen : sc.isGenerator = false
  nd : N.Nodup
  pre : N.take P.length = P
  par : ∀ x ∈ P, sc.names.lookup x = some .local ∨ sc.names.lookup x = some .cell
  nofree : ∀ y ∈ sc.names, y.2 ≠ .free
theorem bindL_out {kindOf : Str → Option NameKind} {x : Str} : ∀ {binds : List (Str × Value)} {m : Str → Option Value}, (∀ v, (x, v) ∉ binds) → bindL kindOf binds m x = m x
  | [], _, _ => rfl
  | (n, v) :: r, m, h => by
    unfold bindL
    rw [bindL_out fun w hw => h w (List.mem_cons_of_mem _ hw)]
    split
    · have : x ≠ n := by rintro rfl; exact h v List.mem_cons_self
      simp [this]
    · rfl
theorem bindC_out {kindOf : Str → Option NameKind} {x : Str} : ∀ {binds : List (Str × Value)} {m : Str → Option Value}, (∀ v, (x, v) ∉ binds) → bindC kindOf binds m x = m x
  | [], _, _ => rfl
  | (n, v) :: r, m, h => by
    unfold bindC
    rw [bindC_out fun w hw => h w (List.mem_cons_of_mem _ hw)]
    split
    · rfl
    · have : x ≠ n := by rintro rfl; exact h v List.mem_cons_self
      simp [this]
theorem bindL_get {kindOf : Str → Option NameKind} {x : Str} {v : Value} : ∀ {P : List Str} {vs : List Value} {i : Nat} {m : Str → Option Value}, P.Nodup → P[i]? = some x → vs[i]? = some v → kindOf x = some .local →
    bindL kindOf (P.zip vs) m x = some v
  | [], _, _, _, _, h, _, _ => by simp at h
  | _ :: _, [], _, _, _, _, h, _ => by simp at h
  | p :: P, w :: vs, 0, m, nd, h1, h2, hk => by
    simp at h1 h2; subst h1; subst h2
    show bindL kindOf ((p, w) :: P.zip vs) m p = _
    unfold bindL
    rw [bindL_out fun v hv => (List.nodup_cons.mp nd).1 (List.of_mem_zip hv).1, if_pos hk]
    simp
  | p :: P, w :: vs, i + 1, m, nd, h1, h2, hk => by
    show bindL kindOf ((p, w) :: P.zip vs) m x = _
    unfold bindL
    exact bindL_get (i := i) (List.nodup_cons.mp nd).2 (by simpa using h1) (by simpa using h2) hk
theorem bindC_get {kindOf : Str → Option NameKind} {x : Str} {v : Value} : ∀ {P : List Str} {vs : List Value} {i : Nat} {m : Str → Option Value}, P.Nodup → P[i]? = some x → vs[i]? = some v → kindOf x ≠ some .local →
    bindC kindOf (P.zip vs) m x = some v
  | [], _, _, _, _, h, _, _ => by simp at h
  | _ :: _, [], _, _, _, _, h, _ => by simp at h
  | p :: P, w :: vs, 0, m, nd, h1, h2, hk => by
    simp at h1 h2; subst h1; subst h2
    show bindC kindOf ((p, w) :: P.zip vs) m p = _
    unfold bindC
    rw [bindC_out fun v hv => (List.nodup_cons.mp nd).1 (List.of_mem_zip hv).1, if_neg hk]
    simp
  | p :: P, w :: vs, i + 1, m, nd, h1, h2, hk => by
    show bindC kindOf ((p, w) :: P.zip vs) m x = _
    unfold bindC
    exact bindC_get (i := i) (List.nodup_cons.mp nd).2 (by simpa using h1) (by simpa using h2) hk
def start (N : List Str) (vs : List V) : St := vs.map some ++ List.replicate (N.length - vs.length) none
def cxOf (CX : CXT) (P : Program) (w : World) (K : PySem.W.Frag) (mg : Str → Option Value) (base : Heap) (N : List Str) (qual : Str) (scope : Scope) (f : Addr) (cd : Value) (A : Around) (outer : List Env) (s : Shared) (H : Hp) (E : XK) : Cx where
  prog := P
  w := w
  K := K
  mg := mg
  base := base
  A := A.deeper (envOfC qual scope s.heap.objs.size f cd)
  N := N
  s_0 := s
  H_0 := H
  env := envOfC qual scope s.heap.objs.size f cd
  outer := outer
  stack := envOfC qual scope s.heap.objs.size f cd :: outer
  ex := []
  calm := true
  fn := fun _ => true
  pn := []
  xe := fun e s' => wpAny (model P w) (A.deeper (envOfC qual scope s.heap.objs.size f cd)) (leaving (envOfC qual scope s.heap.objs.size f cd) e) (fun _ s'' => CX outer H s E e s'') (fun e' s'' => CX outer H s E e' s'') s'
theorem cell_has {sc : Scope} {n : Nat} {x : Str} (h : sc.names.lookup x = some .cell) : ∃ c, (cellsFrom n sc.names []).lookup x = some c := by
  have q := PySem.W.cellsFrom_some sc.names n [] (.inl h)
  exact Option.isSome_iff_exists.mp q
theorem inv_start {CX : CXT} {P : Program} {w : World} {K : PySem.W.Frag} {mg : Str → Option Value} {base : Heap} {N ps : List Str} {qual : Str} {scope : Scope} {f : Addr} {cd : Value} {A : Around} {outer : List Env} {s s1 : Shared} {H : Hp} {E : XK} {us : List Value} {vs : List V}
    (S : FnScope N ps scope) (hd : A.handled = none) (e0 : Env0 P w K mg base A outer s H) (hl : vs.length = ps.length) (r : Vals vs us)
    (x : InCallC s s.heap.objs.size (bindL (envOfC qual scope s.heap.objs.size f cd).kindOf (ps.zip us) fun _ => none) (cellsFrom (s.heap.objs.size + 1) scope.names []) (bindC (envOfC qual scope s.heap.objs.size f cd).kindOf (ps.zip us) fun _ => none) s1) :
    Inv (cxOf CX P w K mg base N qual scope f cd A outer s H E) [] (start N vs) H s1 := by
  have hpl : ps.length ≤ N.length := by have := congrArg List.length S.pre; rw [List.length_take] at this; omega
  obtain ⟨h1, tk, rfl, hk⟩ := x.done
  have noA : ∀ b : Addr, b ∉ (cxOf CX P w K mg base N qual scope f cd A outer s H E).ex := fun b z => absurd (show b ∈ ([] : List Addr) from z) (by simp)
  refine ⟨⟨e0.mod, S.kind, rfl, rfl, Nat.le_refl _, fun y z c h1 h2 => ?_, fun y hy => ?_, fun y c _ h => ?_, fun _ => hd, Around.frames_deeper e0.frames, .inr ⟨rfl, rfl⟩, fun b z => absurd z (noA b), e0.bs, e0.bsz, fun b _ _ => noA b, fun b z => absurd z (noA b), e0.funs, e0.frf⟩,
    rfl, e0.bare, Un.kept hk, ⟨_, x.toInCall.ns, fun i y v h1 h2 h3 => ?_⟩, fun y c h => ⟨_, x.cell y c h⟩, e0.hok.fresh (Nat.le_refl _), fun y c h => ?_, fun p hp => absurd (show p ∈ ([] : List (Addr × Obj)) from hp) (by simp), e0.hok.kept hk, ?_⟩
  · exact name_of_addr x.apart (PySem.mem_of_lookup h1) (PySem.mem_of_lookup h2)
  · have hy : scope.names.lookup y = some .cell ∨ scope.names.lookup y = some .free := hy
    rcases hy with hy | hy
    · exact cell_has hy
    · exact absurd rfl (S.nofree _ (PySem.mem_of_lookup hy))
  · exact Nat.le_of_lt (x.above y c (PySem.mem_of_lookup h))
  · have hi : i < vs.length := by
      unfold start at h2
      by_cases hi : i < vs.length
      · exact hi
      · rw [List.getElem?_append_right (by simpa using hi)] at h2
        rw [List.getElem?_replicate] at h2
        split at h2 <;> cases h2
    have ha : vs[i]? = some v := by
      unfold start at h2
      rw [List.getElem?_append_left (by simpa using hi), List.getElem?_map] at h2
      cases e : vs[i]? with
      | none => rw [e] at h2; cases h2
      | some a => rw [e] at h2; cases h2; rfl
    obtain ⟨u, hu, rv⟩ := r.get ha
    have hp : ps[i]? = some y := by
      rw [← S.pre, List.getElem?_take_of_lt (by omega)]; exact h1
    have ndP : ps.Nodup := by rw [← S.pre]; exact S.nd.sublist (List.take_sublist _ _)
    refine ⟨u, rv, ?_⟩
    rcases S.par y (List.mem_of_getElem? hp) with k | k
    · exact .inl ⟨k, bindL_get ndP hp hu k⟩
    · obtain ⟨c, e⟩ := cell_has (n := s.heap.objs.size + 1) k
      refine .inr ⟨.inl k, c, e, ?_⟩
      have q := x.cell y c e
      rw [bindC_get ndP hp hu (by show scope.names.lookup y ≠ _; rw [k]; decide)] at q
      exact q
  · exact e0.hok.fresh (Nat.le_of_lt (x.above y c (PySem.mem_of_lookup h)))
  · unfold start
    show _ = N.length
    rw [List.length_append, List.length_map, List.length_replicate]
    omega
theorem fn_of {CX : CXT} {P : Program} {w : World} {K : PySem.W.Frag} {mg : Str → Option Value} {base : Heap} {k : Nat} {f : Addr} {name qual : Str} {params : Arguments} {body : List Stmt} {scope : Scope} {dV kV doc pm cdv ct oc : Value} {an od : Option Addr}
    {osl : Array (Option Value)} {N ps : List Str} {sp : Sp} (lk : K.lookup f = some ⟨oc, od, .func (PySem.W.fnOf name qual params body scope dV kV doc pm an cdv ct), osl⟩) (hcd : PySem.W.codeIn K cdv qual = true) (S : FnScope N ps scope)
    (len : ∀ vs H Q E, sp vs H Q E → vs.length = ps.length)
    (hbody : ∀ (A : Around) (outer : List Env) (s : Shared) (H : Hp) (vs : List V) (Q : VK) (E : XK), Room k (A.deeper (envOfC qual scope s.heap.objs.size f cdv)) → sp vs H Q E →
      ∃ t, PSs (cxOf CX P w K mg base N qual scope f cdv A outer s H E) body t ∧ t { nx := fun _ H' => Q .non H', rt := Q } (start N vs) H) :
    FnOk P w K mg base CX (k + 1) f (PySem.W.fnOf name qual params body scope dV kV doc pm an cdv ct) ps sp := by
  refine ⟨len, fun A outer s H args us vs Q E hr e0 hb r hsp => ?_⟩
  have hl := len _ _ _ _ hsp
  have KX : K.In s.heap := e0.mod.kin.keeps fun b o e => (e0.bs b o e).1
  have lim : s.heap.NoLimit := e0.mod.nolimit.keeps fun b o e => (e0.bs b o e).1
  have hkind : ∀ y ∈ ps.zip us, scope.names.lookup y.1 = some .local ∨ (scope.names.lookup y.1 = some .cell ∧ ((cellsFrom (s.heap.objs.size + 1) scope.names []).lookup y.1).isSome = true) := fun ⟨n, v⟩ hy => by
    rcases S.par n (List.of_mem_zip hy).1 with q | q
    · exact .inl q
    · exact .inr ⟨q, PySem.W.cellsFrom_some _ _ _ (.inl q)⟩
  refine codeAny_call_function hr.depth (KX _ _ lk) rfl S.co S.gen rfl (PySem.W.codeRec_of KX hcd) (hb _ _ _ _ ?_)
  refine wpAny_newFunctionEnv_cells S.kind hkind fun env he s1 x => ?_
  subst he
  refine ⟨lim.keeps x.toInCall.keep, codeAny_func ?_⟩
  obtain ⟨t, ht, hq⟩ := hbody A outer s H vs Q E (hr.deeper _) hsp
  have I : Inv (cxOf CX P w K mg base N qual scope f cdv A outer s H E) [] (start N vs) H s1 := inv_start S hr.hd e0 hl r x
  refine wpAny_mono (ht [] s1 (start N vs) H _ I hq) (fun fl s' hs => ?_) fun e s' hs => hs
  have fin : ∀ {σ' : St} {H' : Hp} {v : V} {u : Value}, Inv (cxOf CX P w K mg base N qual scope f cdv A outer s H E) [] σ' H' s' → RelV v u → Q v H' → CE outer P w H s Q u s' :=
    fun {σ' H' v u} J rv q => ⟨v, H', J.os, J.bare, J.base, J.hok, rv, q⟩
  cases fl with
  | ret u =>
    obtain ⟨v, σ', H', J, rv, q⟩ := hs
    exact fin J rv q
  | next =>
    obtain ⟨σ', H', J, q⟩ := hs
    exact fin (v := V.non) (u := Value.none) J rfl q
  | brk =>
    obtain ⟨_, _, _, q⟩ := hs
    exact False.elim q
  | cont =>
    obtain ⟨_, _, _, q⟩ := hs
    exact False.elim q
end L2
namespace L2
open PySem PySem.Spec PyProof.Rows
section
variable {X : Cx} {x : Str} {p pos : Pos} {e : Expr} {es : List Expr} {t : TA} {id T : String} {r : List V → Hp → VK → Prop}
def tCB (r : List V → Hp → VK → Prop) (t : TA) : TE := fun σ H Q => t σ H fun vs H1 => r vs H1 Q
theorem pe_callB (hc : CallR X (.builtin id) r) (hg : Gl X x) (hm : X.mg x = none) (hv : bootBuiltins x = some (.builtin id)) (ha : PA X (e :: es) t) (hn : x ≠ "__name__" := by decide) (hdb : (x == ("__debug__" : Str)) = false := by decide)
    (he : starEach (e :: es) X.env = (false, eval e X.env) :: starEach es X.env := by rfl) (hpl : (backTo pos (starEach es X.env)).any (·.1) = false := by rfl) : PE X (.Call (.Name x p) (e :: es) [] pos) (tCB r t) := by
  intro pins s σ H Q I h
  refine wpAny_Call_Name_kw (ld_blt I hg hm hv ?_ hn hdb)
  exact PyProof.Rows.callWith_builtin1 (thn (ha pos pins s σ H _ I h) fun us s1 ⟨vs, H1, I1, r1, q1⟩ => hc pins s1 σ H1 vs us Q I1 r1 q1) he hpl
theorem pe_callTy (hc : CallR X (.type T) r) (hg : Gl X x) (hm : X.mg x = none) (hv : bootBuiltins x = some (.type T)) (ha : PA X (e :: es) t) (hn : x ≠ "__name__" := by decide) (hdb : (x == ("__debug__" : Str)) = false := by decide)
    (he : starEach (e :: es) X.env = (false, eval e X.env) :: starEach es X.env := by rfl) (hpl : (backTo pos (starEach es X.env)).any (·.1) = false := by rfl) : PE X (.Call (.Name x p) (e :: es) [] pos) (tCB r t) := by
  intro pins s σ H Q I h
  refine wpAny_Call_Name_kw (ld_blt I hg hm hv ?_ hn hdb)
  exact PyProof.Rows.callWith_type1 (thn (ha pos pins s σ H _ I h) fun us s1 ⟨vs, H1, I1, r1, q1⟩ => hc pins s1 σ H1 vs us Q I1 r1 q1) he hpl
end
end L2
namespace HT
open PySem PyProof.Rows
def lexLt : List Int → List Int → Bool
  | [], [] => false
  | [], _ :: _ => true
  | _ :: _, [] => false
  | x :: xs, y :: ys => if x = y then lexLt xs ys else decide (x < y)
theorem lexLt_cons (x y : Int) (xs ys : List Int) : lexLt (x :: xs) (y :: ys) = if x = y then lexLt xs ys else decide (x < y) := rfl
theorem lexLt_nil_nil : lexLt [] [] = false := rfl
theorem lexLt_nil_cons (y : Int) (ys : List Int) : lexLt [] (y :: ys) = true := rfl
theorem lexLt_cons_nil (x : Int) (xs : List Int) : lexLt (x :: xs) [] = false := rfl
theorem eqAt_int (A : Around) (s : Shared) (a : Int) (t : Tok) (c : Int) (u : Tok) : ∃ e, SeqAt.EqAt A s (.int a t) (.int c u) e ∧ (e = true ↔ a = c) :=
  ⟨(a == c), SeqAt.EqAt.int_int a t c u, by simp⟩
theorem rcLt_int (A : Around) (s : Shared) (a : Int) (t : Tok) (c : Int) (u : Tok) (prog : Program) (w : World) (E : Value → Shared → Prop) (Q : Value → Shared → Prop) (h : Q (.bool (decide (a < c))) s) :
    wpAny (model prog w) A (richCompare .Lt (.int a t) (.int c u)) Q E s :=
  (PyProof.Rows.lt_int h : wpAny (model prog w) A (compareOp .Lt (.int a t) (.int c u)) Q E s)
section
open PySem.SeqAt
open PySem.AutoSeq1 (wpAny_loadPart')
open PySem.MeetsSeq PySem.MeetsSeq2 PySem.MeetsSeq3
theorem tuple_lt_ints (l b : Addr) (items items2 : Array Value) (n n2 : Nat) (dd dd2 : Option Addr) (sl sl2 : Array (Option Value)) (ns ms : List Int) (hi : IntsAre items.toList ns) (hj : IntsAre items2.toList ms) :
    Meets (Builtin.«tuple.__lt__» ⟨[.ref l, .ref b], []⟩)
      (fun _ R s => s.heap.get? l = some { cls := .type "tuple", dict := dd, data := .seq items n, slots := sl } ∧ s.heap.get? b = some { cls := .type "tuple", dict := dd2, data := .seq items2 n2, slots := sl2 } ∧
        R (.ok (.ret (.bool (lexLt ns ms)))) s) :=
  .of_wp fun prog w A R s h => by
    obtain ⟨hp, g, d, tk, os⟩ := s; obtain ⟨hl, hb, h⟩ := h
    have f2 := AutoSeq1.sub_tuple_tuple
    have z1 : items.size = ns.length := by rw [← hi.length]; simp
    have z2 : items2.size = ms.length := by rw [← hj.length]; simp
    wp_walk using wpAny_loadPart' hl, wpAny_loadPart' hb, wpAny_forIn_list _ (fun rest b s' => b.1 = none ∧ s' = ⟨hp, g, d, tk, os⟩ ∧ ∃ (vs ws : List Value) (ns' ms' : List Int), rest = vs.zip ws ∧
      IntsAre vs ns' ∧ IntsAre ws ms' ∧ ns'.length + items2.size = ms'.length + items.size ∧ R (.ok (.ret (.bool (lexLt ns' ms')))) ⟨hp, g, d, tk, os⟩) _
    case turn =>
      rintro ⟨y, x⟩ rest b s' ⟨hb', rfl, vs, ws, ns', ms', hz, hvi, hwi, hlen, hR⟩
      cases hvi with
      | nil => rw [List.zip_nil_left] at hz; cases hz
      | cons a t hvi' =>
        cases hwi with
        | nil => rw [List.zip_nil_right] at hz; cases hz
        | cons c u hwi' =>
          rw [List.zip_cons_cons] at hz
          injection hz with hyx hrest
          injection hyx with hy hx
          subst hy hx
          rw [lexLt_cons] at hR
          simp only [List.length_cons] at hlen
          obtain ⟨e, he, hiff⟩ := eqAt_int A.in1 ⟨hp, g, d, tk, os⟩ a t c u
          refine wpAny_bind (he prog w _ _ ?_)
          cases e with
          | true =>
            rw [if_pos (hiff.mp rfl)] at hR
            wp_walk
            exact ⟨rfl, rfl, _, _, _, _, hrest, hvi', hwi', by omega, hR⟩
          | false =>
            rw [if_neg (fun q => absurd (hiff.mpr q) Bool.false_ne_true)] at hR
            have hri := rcLt_int A.in1 ⟨hp, g, d, tk, os⟩ a t c u prog w
            wp_walk using hri
            exact ⟨_, rfl, by simpa using hR⟩
    case fin =>
      rintro ⟨b1, b2⟩ s' ⟨hb', rfl, vs, ws, ns', ms', hz, hvi, hwi, hlen, hR⟩
      simp only at hb'
      subst hb'
      have hv : lexLt ns' ms' = decide (items.size < items2.size) := by
        cases hvi with
        | nil =>
          cases hwi with
          | nil =>
            simp only [List.length_nil] at hlen
            rw [lexLt_nil_nil]
            exact (decide_eq_false (by omega)).symm
          | cons c u hw =>
            simp only [List.length_nil, List.length_cons] at hlen
            rw [lexLt_nil_cons]
            exact (decide_eq_true (by omega)).symm
        | cons a t hv =>
          cases hwi with
          | nil =>
            simp only [List.length_nil, List.length_cons] at hlen
            rw [lexLt_cons_nil]
            exact (decide_eq_false (by omega)).symm
          | cons c u hw =>
            rw [List.zip_cons_cons] at hz
            cases hz
      rw [hv] at hR
      wp_walk
      exact ⟨_, rfl, by simpa [Builtin.Tuple.tupleCompareSizes] using hR⟩
    case h =>
      exact ⟨rfl, rfl, items.toList, items2.toList, ns, ms, rfl, hi, hj, by omega, h⟩
end
section
variable {prog : Program} {w : World} {A : Around} {E : Value → Shared → Prop} {s : Shared}
theorem lt_tupInts {l b : Addr} {items items2 : Array Value} {ns ms : List Int} {Q : Value → Shared → Prop} (hl : IsTup s.heap l items) (hb : IsTup s.heap b items2) (hi : IntsAre items.toList ns) (hj : IntsAre items2.toList ms)
    (hu : A.units < cLine) (h : Q (.bool (lexLt ns ms)) s) : wpAny (model prog w) A (compareOp .Lt (.ref l) (.ref b)) Q E s := by
  obtain ⟨⟨cls, dd, data, sl⟩, ho, hc, n, hd⟩ := id hl
  obtain ⟨⟨cls2, dd2, data2, sl2⟩, ho2, hc2, n2, hd2⟩ := id hb
  simp only at hc hd hc2 hd2
  subst hc hd hc2 hd2
  exact richCompare_meets_room (op := .Lt) ⟨_, ho, rfl⟩ ⟨_, ho2, rfl⟩ PySem.F.slot_tuple_lt PySem.F.entry_tuple_lt (PySem.F.args_tuple_lt_2 _ _) (tuple_lt_ints l b items items2 n n2 dd dd2 sl sl2 ns ms hi hj)
    ⟨ho, ho2, show Value.bool (lexLt ns ms) ≠ Value.notImplemented ∧ Q (.bool (lexLt ns ms)) s from ⟨(fun x => nomatch x), h⟩⟩ hu
def sIx (n d : Nat) : Option Int → Nat
  | none => d
  | some v => if v < 0 then (v + (n : Int)).toNat else min v.toNat n
end
end HT
namespace L2
open PySem PySem.Spec PyProof.Rows
abbrev TO := St → Hp → (Option Int → Hp → Prop) → Prop
def PO (X : Cx) (e : Option Expr) (t : TO) : Prop :=
  ∀ (pins : List (Addr × Obj)) (s : Shared) (σ : St) (H : Hp) (Q : Option Int → Hp → Prop), Inv X pins σ H s → t σ H Q →
    wpAny (model X.prog X.w) X.A (evalPart e X.env) (fun u s' => ∃ o H', Inv X pins σ H' s' ∧ IsPart u o ∧ Q o H') X.xe s
def tNoPart : TO := fun _ H Q => Q none H
def tPart (t : TE) : TO := fun σ H Q => t σ H fun x H1 => ∃ i, x = .int i ∧ Q (some i) H1
theorem intsAre_of {ns : List Int} : ∀ {us : List Value}, Vals (ns.map V.int) us → IntsAre us ns := by
  induction ns with
  | nil => intro us r; rw [List.map_nil] at r; cases r; exact .nil
  | cons n ns ih =>
    intro us r
    rw [List.map_cons] at r
    cases r with
    | cons r1 r2 =>
      obtain ⟨t, e⟩ := r1
      subst e
      exact .cons n t (ih r2)
section
variable {X : Cx} {e : Expr} {te : TE} {lo hi : Option Expr} {tl th : TO} {pos p2 : Pos}
theorem po_none : PO X none tNoPart := by
  intro pins s σ H Q I h
  rw [evalPart_none]
  exact wpAny_pure ⟨none, H, I, .none, h⟩
theorem po_some (h : PE X e te) : PO X (some e) (tPart te) := by
  intro pins s σ H Q I hw
  rw [evalPart_some]
  refine thn (h pins s σ H _ I hw) fun u s1 ⟨x, H1, I1, r1, q1⟩ => ?_
  obtain ⟨i, rfl, q⟩ := q1
  obtain ⟨t, rfl⟩ := r1
  exact ⟨some i, H1, I1, .int i t, q⟩
def SlR (X : Cx) (r : V → Option Int → Option Int → Hp → VK → Prop) : Prop :=
  ∀ (pins : List (Addr × Obj)) (s : Shared) (σ : St) (H : Hp) (x : V) (v vl vu : Value) (lo hi : Option Int) (sl : Addr) (Q : VK), Inv X pins σ H s → RelV x v → s.heap.IsSliceOf sl vl vu .none → IsPart vl lo → IsPart vu hi → r x lo hi H Q →
    ∃ T id, typeLookup (.type T) "__getitem__" = pure (some (.builtin id)) ∧ s.TypeIs v T ∧ wpAny (model X.prog X.w) X.A (getItem v (.ref sl)) (EP X pins σ Q) X.xe s
def tSl (r : V → Option Int → Option Int → Hp → VK → Prop) (te : TE) (tl th : TO) : TE := fun σ H Q => te σ H fun x H1 => tl σ H1 fun l H2 => th σ H2 fun u H3 => r x l u H3 Q
theorem pe_slice {r : V → Option Int → Option Int → Hp → VK → Prop} (hr : SlR X r) (he : PE X e te) (hl : PO X lo tl) (hu : PO X hi th) : PE X (.Subscript e (.Slice lo hi none p2) pos) (tSl r te tl th) := by
  intro pins s σ H Q I h
  refine Subscript_ (thn (he pins s σ H _ I h) fun v s1 ⟨x, H1, I1, r1, q1⟩ => ?_)
  refine wpAny_Slice (thn (hl pins s1 σ H1 _ I1 q1) fun vl s2 ⟨l, H2, I2, pl, q2⟩ => thn (hu pins s2 σ H2 _ I2 q2) fun vu s3 ⟨u, H3, I3, pu, q3⟩ => ?_)
  rw [evalPart_none]
  refine wpAny_pure ?_
  have I4 : Inv X pins σ H3 { s3 with heap := s3.heap.push { cls := .type "slice", data := .fields #[vl, vu, .none] } } := I3.kept (t' := s3.toks) fun b ob q => Heap.get?_push_of_some _ q
  obtain ⟨T, id, hT, ht, hg⟩ := hr pins { s3 with heap := s3.heap.push { cls := .type "slice", data := .fields #[vl, vu, .none] } } σ H3 x v vl vu l u s3.heap.objs.size Q I4 r1 (Heap.IsSliceOf.new ..) pl pu q3
  show wpAny (model X.prog X.w) X.A (subscriptTail e (.Slice lo hi none p2) v (.ref s3.heap.objs.size)) (EP X pins σ Q) X.xe { s3 with heap := s3.heap.push { cls := .type "slice", data := .fields #[vl, vu, .none] } }
  exact tail_any (ops := [.ref s3.heap.objs.size, v]) ht hT hg (by with_unfolding_all rfl)
def cutV (xs : List V) (lo hi : Option Int) : List V := (xs.drop (HT.sIx xs.length 0 lo)).take (HT.sIx xs.length xs.length hi - HT.sIx xs.length 0 lo)
theorem cutV_length (xs : List V) (lo hi : Option Int) : (cutV xs lo hi).length ≤ xs.length := by
  unfold cutV
  rw [List.length_take, List.length_drop]
  omega
end
end L2
namespace L2
open PySem PySem.Spec PyProof.Rows
def ixN (n : Nat) (i : Int) : Option Nat := if 0 ≤ i then (if i < n then some i.toNat else none) else if -(n : Int) ≤ i then some (i + n).toNat else none
def atI {α : Type} (xs : List α) (i : Int) : Option α := (ixN xs.length i).bind fun j => xs[j]?
theorem ixN_seq {n : Nat} {i : Int} {j : Nat} (h : ixN n i = some j) : seqIndex? i n = some j ∧ j < n ∧ -(n : Int) ≤ i ∧ i < n := by
  unfold ixN at h
  by_cases h0 : 0 ≤ i
  · rw [if_pos h0] at h
    by_cases h1 : i < n
    · rw [if_pos h1] at h
      have e : i.toNat = j := Option.some.inj h
      exact ⟨by rw [seqIndex_of h0 h1, e], by omega, by omega, h1⟩
    · rw [if_neg h1] at h; cases h
  · rw [if_neg h0] at h
    by_cases h1 : -(n : Int) ≤ i
    · rw [if_pos h1] at h
      have e : (i + n).toNat = j := Option.some.inj h
      exact ⟨by rw [seqIndex_neg (by omega) h1, e], by omega, h1, by omega⟩
    · rw [if_neg h1] at h; cases h
theorem atI_get {α : Type} {xs : List α} {i : Int} {v : α} (h : atI xs i = some v) : ∃ j, seqIndex? i xs.length = some j ∧ xs[j]? = some v ∧ j < xs.length ∧ -(xs.length : Int) ≤ i ∧ i < xs.length := by
  unfold atI at h
  cases e : ixN xs.length i with
  | none => rw [e] at h; cases h
  | some j =>
    rw [e] at h
    obtain ⟨h1, h2, h3, h4⟩ := ixN_seq e
    exact ⟨j, h1, h, h2, h3, h4⟩
theorem atI_nat {α : Type} {xs : List α} {j : Nat} {v : α} (h : xs[j]? = some v) : atI xs (j : Int) = some v := by
  have hj : j < xs.length := (List.getElem?_eq_some_iff.mp h).1
  have e : ixN xs.length (j : Int) = some j := by
    unfold ixN
    rw [if_pos (by omega), if_pos (by omega)]; simp
  unfold atI; rw [e]; exact h
def PlainIx (b : Expr) : Prop := ∀ o i, subscripted b false o i = operate [o, i] (getItem o i)
def IxR (X : Cx) (r : R2) : Prop :=
  ∀ (value slice : Expr) (pins : List (Addr × Obj)) (s : Shared) (σ : St) (H : Hp) (x y : V) (v u : Value) (Q : VK), Inv X pins σ H s → RelV x v → RelV y u → r x y H Q →
    subscripted slice false v u = operate [v, u] (getItem v u) → wpAny (model X.prog X.w) X.A (subscriptTail value slice v u) (EP X pins σ Q) X.xe s
def MtR (X : Cx) (id : String) (r : V → List V → Hp → VK → Prop) : Prop :=
  ∀ (pins : List (Addr × Obj)) (s : Shared) (σ : St) (H : Hp) (x : V) (xs : List V) (v : Value) (us : List Value) (Q : VK), Inv X pins σ H s → RelV x v → Vals xs us → r x xs H Q →
    wpAny (model X.prog X.w) X.A (call (.builtin id) (v :: us)) (EP X pins σ Q) X.xe s
section
variable {X : Cx} {a b : Expr} {ta tb : TE} {pos : Pos}
theorem pe_ix {r : R2} (hr : IxR X r) (ha : PE X a ta) (hb : PE X b tb) (hs : PlainIx b) : PE X (.Subscript a b pos) (tOp r ta tb) := by
  intro pins s σ H Q I h
  exact Subscript_ (binT ha hb I h fun v u s2 x y H2 I2 rx ry q => hr a b pins s2 σ H2 x y v u Q I2 rx ry q (hs _ _))
def rIxL (K : PySem.W.Frag) : R2 := fun x y H Q => ∃ p xs i v, x = .ref p ∧ y = .int i ∧ SqL K H p xs ∧ atI xs i = some v ∧ Q v H
def rIxT (K : PySem.W.Frag) : R2 := fun x y H Q => ∃ p xs i v, x = .ref p ∧ y = .int i ∧ SqT K H p xs ∧ atI xs i = some v ∧ Q v H
theorem ix_list : IxR X (rIxL X.K) := by
  intro value slice pins s σ H x y v u Q I rx ry h hs
  obtain ⟨p, xs, i, z, rfl, rfl, hq, he, q⟩ := h
  cases rx
  obtain ⟨t, rfl⟩ := ry
  obtain ⟨its, r, pl, hz⟩ := I.list hq
  obtain ⟨j, h1, h2, h3, h4, h5⟩ := atI_get he
  obtain ⟨w, ew, rw'⟩ := r.get h2
  have hl := r.length
  have hn := line63
  have fin : EP X pins σ Q w s := ⟨z, H, I, rw', q⟩
  by_cases h0 : 0 ≤ i
  · have hj : i.toNat = j := by
      rw [seqIndex_of h0 h5] at h1
      exact Option.some.inj h1
    exact item_listR pl.isList h0 (by omega) (by rw [hj]; simpa using ew) fin hs
  · have hj : (i + (its.toArray.size : Int)).toNat = j := by
      rw [seqIndex_neg (by omega) h4] at h1
      rw [List.size_toArray, ← hl]
      exact Option.some.inj h1
    exact subscriptTail_builtinR (x := w) pl.isList.typeIs slot_list_getitem.lookup
      (wpAny_getItem_list_neg (Q := fun r s' => r = w ∧ EP X pins σ Q r s') pl.isList (by omega) (by rw [List.size_toArray] <;> omega) (by omega) (by rw [hj]; simpa using ew) ⟨rfl, fin⟩) hs
theorem ix_tup : IxR X (rIxT X.K) := by
  intro value slice pins s σ H x y v u Q I rx ry h hs
  obtain ⟨p, xs, i, z, rfl, rfl, hq, he, q⟩ := h
  cases rx
  obtain ⟨t, rfl⟩ := ry
  obtain ⟨its, r, pl, hz⟩ := I.tuple hq
  obtain ⟨j, h1, h2, h3, h4, h5⟩ := atI_get he
  obtain ⟨w, ew, rw'⟩ := r.get h2
  have hl := r.length
  have hn := line63
  have fin : EP X pins σ Q w s := ⟨z, H, I, rw', q⟩
  exact subscriptTail_builtinR (x := w) pl.typeIs slot_tuple_getitem.lookup
    (getItem_tuple (j := j) (Q := fun r s' => r = w ∧ EP X pins σ Q r s') pl (by omega) (by omega) (by rw [List.size_toArray, ← hl]; exact h1) (by simpa using ew) ⟨rfl, fin⟩) hs
theorem slice_bounds (lo hi : Option Int) (n : Nat) : (sliceBounds lo hi none n).1 = ((HT.sIx n 0 lo : Nat) : Int) ∧ (sliceBounds lo hi none n).2.1 = ((HT.sIx n n hi : Nat) : Int) ∧ (sliceBounds lo hi none n).2.2 = 1 := by
  refine ⟨?_, ?_, rfl⟩
  · cases lo with
    | none => simp [sliceBounds, HT.sIx]
    | some i =>
      simp only [sliceBounds, HT.sIx, Option.getD_none, show (1 : Int) > 0 by decide, if_true]
      by_cases h : i < 0
      · simp only [h, if_true] <;> omega
      · simp only [h, if_false] <;> omega
  · cases hi with
    | none => simp [sliceBounds, HT.sIx]
    | some i =>
      simp only [sliceBounds, HT.sIx, Option.getD_none, show (1 : Int) > 0 by decide, if_true]
      by_cases h : i < 0
      · simp only [h, if_true] <;> omega
      · simp only [h, if_false] <;> omega
theorem slicePick_cut (its : List Value) (lo hi : Option Int) : slicePick its.toArray lo hi none = ((its.drop (HT.sIx its.length 0 lo)).take (HT.sIx its.length its.length hi - HT.sIx its.length 0 lo)).toArray := by
  obtain ⟨h1, h2, h3⟩ := slice_bounds lo hi its.toArray.size
  unfold slicePick
  rw [h1, h2, h3]
  simp only [sliceRange_one, pick_run, List.size_toArray] <;> rfl
def rSlL (K : PySem.W.Frag) : V → Option Int → Option Int → Hp → VK → Prop := fun x lo hi H Q => ∃ a xs, x = .ref a ∧ SqL K H a xs ∧ ∀ p, H p = none → Q (.ref p) (upd H p (.lst (cutV xs lo hi)))
theorem sl_list : SlR X (rSlL X.K) := by
  intro pins s σ H x v vl vu lo hi sl Q I rx hs pl pu h
  obtain ⟨a, xs, rfl, hx, q⟩ := h
  cases rx
  obtain ⟨its, r, ht, hz⟩ := I.list hx
  have hlen := r.length
  refine ⟨"list", _, slot_list_getitem.lookup, ht.isList.typeIs, ?_⟩
  refine wpAny_getItem_list_slice ht.isList hs pl pu .none (by simp) ?_ (by rw [List.size_toArray] <;> omega)
  rw [slicePick_cut, ← hlen]
  refine ⟨.ref s.heap.objs.size, _, I.laid (t' := s.toks) (o := .lst (cutV xs lo hi)) (fun b ob q => Heap.get?_push_of_some _ q) (Nat.le_refl _) ?_, rfl, q _ (I.hok.fresh (Nat.le_refl _))⟩
  exact ⟨Nat.le_trans (cutV_length xs lo hi) hz, _, 0, (r.drop (HT.sIx xs.length 0 lo)).take (HT.sIx xs.length xs.length hi - HT.sIx xs.length 0 lo), Heap.get?_push_size _ rfl⟩
def flatV : V → Bool
  | .non => true
  | .bl _ => true
  | .int _ => true
  | .str _ => true
  | _ => false
def eqV : V → V → Bool
  | .non, .non => true
  | .bl a, .bl b => a == b
  | .bl a, .int b => (if a then 1 else 0) == b
  | .int a, .bl b => a == (if b then 1 else 0)
  | .int a, .int b => a == b
  | .str a, .str b => a == b
  | _, _ => false
theorem eqAt_V {A : Around} {s : Shared} {y x : V} {u v : Value} (ry : RelV y u) (rx : RelV x v) (fy : flatV y = true) (fx : flatV x = true) : SeqAt.EqAt A s u v (eqV y x) := by
  cases y with
  | non =>
    cases ry
    cases x with
    | non => cases rx; exact SeqAt.EqAt.same _
    | bl b => cases rx; exact SeqAt.EqAt.none_bool b
    | int b => obtain ⟨t, rfl⟩ := rx; exact SeqAt.EqAt.none_int b t
    | str b => obtain ⟨t, rfl⟩ := rx; exact SeqAt.EqAt.none_str b t
    | _ => exact absurd (show false = true from fx) Bool.false_ne_true
  | bl a =>
    cases ry
    cases x with
    | non => cases rx; exact SeqAt.EqAt.bool_none a
    | bl b => cases rx; exact SeqAt.EqAt.bool_bool a b
    | int b => obtain ⟨t, rfl⟩ := rx; exact SeqAt.EqAt.bool_int a b t
    | str b => obtain ⟨t, rfl⟩ := rx; exact SeqAt.EqAt.bool_str a b t
    | _ => exact absurd (show false = true from fx) Bool.false_ne_true
  | int a =>
    obtain ⟨t', rfl⟩ := ry
    cases x with
    | non => cases rx; exact SeqAt.EqAt.int_none a t'
    | bl b => cases rx; exact SeqAt.EqAt.int_bool a t' b
    | int b => obtain ⟨t, rfl⟩ := rx; exact SeqAt.EqAt.int_int a t' b t
    | str b => obtain ⟨t, rfl⟩ := rx; exact SeqAt.EqAt.int_str a t' b t
    | _ => exact absurd (show false = true from fx) Bool.false_ne_true
  | str a =>
    obtain ⟨t', rfl⟩ := ry
    cases x with
    | non => cases rx; exact SeqAt.EqAt.str_none a t'
    | bl b => cases rx; exact SeqAt.EqAt.str_bool a t' b
    | int b => obtain ⟨t, rfl⟩ := rx; exact SeqAt.EqAt.str_int a t' b t
    | str b => obtain ⟨t, rfl⟩ := rx; exact SeqAt.EqAt.str_str a t' b t
    | _ => exact absurd (show false = true from fx) Bool.false_ne_true
  | _ => exact absurd (show false = true from fy) Bool.false_ne_true
def eqU (x : V) (u : Value) : Bool := match u with
  | .none => eqV .non x
  | .bool b => eqV (.bl b) x
  | .int i _ => eqV (.int i) x
  | .str z _ => eqV (.str z) x
  | _ => false
theorem eqU_of {x y : V} {u : Value} (r : RelV y u) (f : flatV y = true) : eqU x u = eqV y x := by
  cases y with
  | non => cases r; rfl
  | bl b => cases r; rfl
  | int i => obtain ⟨t, rfl⟩ := r; rfl
  | str z => obtain ⟨t, rfl⟩ := r; rfl
  | _ => exact absurd (show false = true from f) Bool.false_ne_true
theorem any_eqU {x : V} : ∀ {xs : List V} {us : List Value}, Vals xs us → xs.all flatV = true → us.any (eqU x) = xs.any fun y => eqV y x
  | _, _, .nil, _ => rfl
  | y :: xs, u :: us, .cons r t, f => by
    rw [List.all_cons, Bool.and_eq_true] at f
    rw [List.any_cons, List.any_cons, eqU_of r f.1, any_eqU t f.2]
theorem mem_eqAt {A : Around} {s : Shared} {x : V} {v : Value} (rx : RelV x v) (fx : flatV x = true) : ∀ {xs : List V} {us : List Value}, Vals xs us → xs.all flatV = true → ∀ u ∈ us, SeqAt.EqAt A s u v (eqU x u)
  | _, _, .nil, _ => fun u hu => by cases hu
  | y :: xs, u :: us, .cons r t, f => fun u' hu => by
    rw [List.all_cons, Bool.and_eq_true] at f
    rcases List.mem_cons.mp hu with rfl | hu
    · rw [eqU_of r f.1]; exact eqAt_V r rx f.1 fx
    · exact mem_eqAt rx fx t f.2 u' hu
def inV (x : V) (xs : List V) : Bool := xs.any fun y => eqV y x
def rIn (K : PySem.W.Frag) (neg : Bool) : R2 := fun x y H Q => ∃ p xs, y = .ref p ∧ (SqL K H p xs ∨ SqT K H p xs) ∧ flatV x = true ∧ xs.all flatV = true ∧ Q (.bl (if neg then !inV x xs else inV x xs)) H
theorem op_in_seq : OpR X (compareOp .In) (rIn X.K false) := by
  intro pins s σ H x y v u Q I rx ry h
  obtain ⟨p, xs, rfl, hq, fx, fs, q⟩ := h
  cases ry
  rcases hq with hq | hq
  · obtain ⟨its, r, pl, hz⟩ := I.list hq
    refine SeqAt.in_listAt (eqU x) pl.isList (fun w hw => mem_eqAt rx fx r fs w (by simpa using hw)) ⟨.bl _, H, I, rfl, ?_⟩
    rw [show its.toArray.any (eqU x) = its.any (eqU x) by simp, any_eqU r fs]
    exact q
  · obtain ⟨its, r, pl, hz⟩ := I.tuple hq
    refine SeqAt.in_tupleAt (eqU x) pl (fun w hw => mem_eqAt rx fx r fs w (by simpa using hw)) ⟨.bl _, H, I, rfl, ?_⟩
    rw [show its.toArray.any (eqU x) = its.any (eqU x) by simp, any_eqU r fs]
    exact q
theorem call_len_seq : CallR X (.builtin "len") (fun xs H Q => ∃ p ys, xs = [.ref p] ∧ (SqL X.K H p ys ∨ SqT X.K H p ys) ∧ Q (.int ys.length) H) := by
  intro pins s σ H xs us Q I r h
  obtain ⟨p, ys, rfl, hq, q⟩ := h
  obtain ⟨u, rfl, rx⟩ := vals1 r
  cases rx
  have hn := line63
  rcases hq with hq | hq
  · obtain ⟨its, r', pl, hz⟩ := I.list hq
    have hlen := r'.length
    exact Calls.call_len_list pl.isList (by simp only [List.size_toArray] <;> omega) ⟨.int ys.length, H, I.tok _, ⟨s.toks + 1, by rw [List.size_toArray, hlen]⟩, q⟩
  · obtain ⟨its, r', pl, hz⟩ := I.tuple hq
    have hlen := r'.length
    exact len_tuple pl (by simp only [List.size_toArray] <;> omega) ⟨.int ys.length, H, I.tok _, ⟨s.toks + 1, by rw [List.size_toArray, hlen]⟩, q⟩
def tyV (K : PySem.W.Frag) (T : String) (x : V) (H : Hp) : Prop := match x with
  | .str _ => T = "str"
  | .int _ => T = "int"
  | .ref p => (T = "list" ∧ ∃ xs, SqL K H p xs) ∨ (T = "tuple" ∧ ∃ o, K.lookup p = some o ∧ o.cls = .type "tuple" ∧ o.dict = none) ∨
      (T = "dict" ∧ ((∃ kvs, H p = some (.dK kvs)) ∨ ∃ kvs, H p = some (.dT kvs))) ∨ (T = "set" ∧ ∃ S n, H p = some (.set S n))
  | _ => False
theorem tyV_is {pins : List (Addr × Obj)} {σ : St} {H : Hp} {s : Shared} {T : String} {x : V} {v : Value} (I : Inv X pins σ H s) (r : RelV x v) (ty : tyV X.K T x H) :
    s.TypeIs v T ∧ ∀ a, v = .ref a → ∃ ob, s.heap.get? a = some ob ∧ ob.dict = none := by
  cases x with
  | str z =>
    obtain ⟨t, rfl⟩ := r
    cases (show T = "str" from ty)
    exact ⟨typeIs_str s z t, fun _ e => nomatch e⟩
  | int i =>
    obtain ⟨t, rfl⟩ := r
    cases (show T = "int" from ty)
    exact ⟨typeIs_int s i t, fun _ e => nomatch e⟩
  | ref p =>
    cases r
    rcases ty with ⟨rfl, xs, hq⟩ | ⟨rfl, o, hk, hc, hd⟩ | ⟨rfl, hk⟩ | ⟨rfl, S, n, hk⟩
    · obtain ⟨its, _, pl, _⟩ := I.list hq
      refine ⟨pl.isList.typeIs, fun a e => ?_⟩
      cases e
      obtain ⟨o, n, e, c, hd, _⟩ := pl
      exact ⟨o, e, hd⟩
    · refine ⟨⟨o, I.kIn p o hk, hc⟩, fun a e => ?_⟩
      cases e
      exact ⟨o, I.kIn _ o hk, hd⟩
    · have z : ∃ o, s.heap.get? p = some o ∧ o.ExactDict := by
        rcases hk with ⟨kvs, hk⟩ | ⟨kvs, hk⟩
        · obtain ⟨_, _, _, _, o, _, _, e, ex, _⟩ := I.hok p _ hk
          exact ⟨o, e, ex⟩
        · obtain ⟨_, _, _, _, o, _, _, e, ex, _⟩ := I.hok p _ hk
          exact ⟨o, e, ex⟩
      obtain ⟨o, e, ex⟩ := z
      refine ⟨⟨o, e, ex.1⟩, fun a e2 => ?_⟩
      cases e2
      exact ⟨o, e, ex.2.1⟩
    · obtain ⟨o, _, _, _, e, ex, _⟩ := I.hok p _ hk
      refine ⟨⟨o, e, ex.1⟩, fun a e2 => ?_⟩
      cases e2
      exact ⟨o, e, ex.2.1⟩
  | _ => exact False.elim ty
def tBM0 (K : PySem.W.Frag) (T : String) (r : V → List V → Hp → VK → Prop) (to : TE) : TE := fun σ H Q => to σ H fun x H1 => tyV K T x H1 ∧ r x [] H1 Q
def tBM (K : PySem.W.Frag) (T : String) (r : V → List V → Hp → VK → Prop) (to : TE) (t : TA) : TE := fun σ H Q => to σ H fun x H1 => tyV K T x H1 ∧ t σ H1 fun xs H2 => r x xs H2 Q
variable {o e : Expr} {es : List Expr} {to : TE} {t : TA} {name : Str} {apos cpos : Pos} {T id : String} {r : V → List V → Hp → VK → Prop}
theorem pe_bm0 (pa : PlainAttrs T) (slot : Slot T name id) (hty : typeOf (.builtin id) = pure (.type "method_descriptor")) (hm : MtR X id r) (ho : PE X o to)
    (hbase : attributeBase o name X.env (eval o X.env) = eval o X.env := by rfl) (hline : (apos.endLine == cpos.line) = true := by rfl) : PE X (.Call (.Attribute o name apos) [] [] cpos) (tBM0 X.K T r to) := by
  intro pins s σ H Q I h
  refine wpAny_Call_method0_late hbase hline (thn (ho pins s σ H _ I h) fun v s1 ⟨x, H1, I1, r1, ty, q1⟩ => ?_)
  obtain ⟨h1, h2⟩ := tyV_is I1 r1 ty
  exact ⟨T, id, pa, slot, hty, h1, h2, Calls.callWith_builtin rfl (PySem.evalArgs_none (hm pins s1 σ H1 x [] v [] Q I1 r1 .nil q1))⟩
theorem pe_bm (pa : PlainAttrs T) (slot : Slot T name id) (hty : typeOf (.builtin id) = pure (.type "method_descriptor")) (hm : MtR X id r) (ho : PE X o to) (ha : PA X (e :: es) t)
    (hbase : attributeBase o name X.env (eval o X.env) = eval o X.env := by rfl)
    (hfew : ((backTo cpos (starEach (e :: es) X.env)).all (fun x => !x.1) && (backToKw cpos (keywordEach [] X.env)).all (fun x => x.1.isSome)
      && decide ((e :: es).length + ([] : List Keyword).length + (if ([] : List Keyword).isEmpty then 0 else 1) < 30)) = true := by rfl)
    (hline : (apos.endLine == cpos.line) = true := by rfl) (hs : starEach (e :: es) X.env = (false, eval e X.env) :: starEach es X.env := by rfl) (hplain : (backTo cpos (starEach es X.env)).any (·.1) = false := by rfl) :
    PE X (.Call (.Attribute o name apos) (e :: es) [] cpos) (tBM X.K T r to t) := by
  intro pins s σ H Q I h
  refine wpAny_Call_method_late hbase hfew hline rfl (thn (ho pins s σ H _ I h) fun v s1 ⟨x, H1, I1, r1, ty, q1⟩ => ?_)
  obtain ⟨h1, h2⟩ := tyV_is I1 r1 ty
  refine ⟨T, id, pa, slot, hty, h1, h2, ?_⟩
  have hA := ha cpos pins s1 σ H1 _ I1 q1
  rw [hs] at hA ⊢
  refine Calls.callWith_builtin (by show (false || (backTo cpos (starEach es X.env)).any (·.1)) = false; rw [hplain] <;> rfl) (Calls.evalArgs_plain ?_)
  exact thn hA fun us s2 ⟨vs, H2, I2, r2, q2⟩ => hm pins s2 σ H2 x vs v us Q I2 r1 r2 q2
end
end L2
namespace L2
open PySem PySem.Spec PyProof.Rows
def MtM (X : Cx) (id : String) (r : V → List V → Hp → VK → Prop) : Prop :=
  ∀ (pins : List (Addr × Obj)) (s : Shared) (σ : St) (H : Hp) (x : V) (xs : List V) (v : Value) (us : List Value) (Q : VK), Inv X pins σ H s → RelV x v → Vals xs us → r x xs H Q →
    wpAny (model X.prog X.w) X.A (call (.builtin id) (v :: us)) (EP X pins σ Q) X.xe s
theorem Vals.one : ∀ {x : V} {us : List Value}, Vals [x] us → ∃ u, us = [u] ∧ RelV x u
  | _, _, .cons r .nil => ⟨_, rfl, r⟩
section
variable {X : Cx} {pins : List (Addr × Obj)} {σ : St} {H : Hp} {s : Shared} {l b : Addr} {xs ys zs : List V}
theorem Inv.lset {its its' : List Value} {n : Nat} {f : Array Value → Array Value} {t' : Nat} (I : Inv X pins σ H s) (hH : H l = some (.lst xs))
    (e : s.heap.get? l = some { cls := .type "list", data := .seq its.toArray n }) (hf : f its.toArray = its'.toArray) (hv : Vals ys its') (hz : ys.length ≤ sizeLine) :
    Inv X pins σ (upd H l (.lst ys)) { s with heap := s.heap.update l (Obj.mapSeq f), toks := t' } := by
  have q := PySem.IsL.update e f
  rw [hf] at q
  refine I.write (x := l) (e := l) (by rw [hH]; exact trivial) (.inl rfl) (fun b' u hb hu => (Heap.get?_update_other s.heap (Obj.mapSeq f) (Ne.symm hb)).trans hu) ⟨_, q⟩ ?_
  exact ⟨hz, its', _, hv, q⟩
theorem Inv.lnew {its : List Value} {t' : Nat} (I : Inv X pins σ H s) (hv : Vals ys its) (hz : ys.length ≤ sizeLine) :
    Inv X pins σ (upd H s.heap.objs.size (.lst ys)) { s with heap := s.heap.push { cls := .type "list", data := .seq its.toArray }, toks := t' } :=
  I.laid (fun _ _ q => Heap.get?_push_of_some _ q) (Nat.le_refl _) ⟨hz, its, 0, hv, Heap.get?_push_size _ rfl⟩
theorem Inv.fresh (I : Inv X pins σ H s) : H s.heap.objs.size = none := I.hok.fresh (Nat.le_refl _)
theorem Inv.lstM (I : Inv X pins σ H s) (hH : H l = some (.lst xs)) : xs.length ≤ sizeLine ∧ ∃ (its : List Value) (n : Nat), Vals xs its ∧ xs.length = its.length ∧ s.heap.get? l = some { cls := .type "list", data := .seq its.toArray n } := by
  obtain ⟨z, its, n, r, e⟩ := I.hok l _ hH
  exact ⟨z, its, n, r, r.length, e⟩
theorem notLongL {n : Nat} (h : n ≤ sizeLine) : Builtin.List.listTooLong n = false := by
  unfold Builtin.List.listTooLong
  exact decide_eq_false (by omega)
end
section
variable {X : Cx}
def rAppend : V → List V → Hp → VK → Prop := fun x vs H Q => ∃ l xs y, x = .ref l ∧ vs = [y] ∧ H l = some (.lst xs) ∧ xs.length < sizeLine ∧ Q .non (upd H l (.lst (xs ++ [y])))
theorem mt_append : MtM X "list.append" rAppend := by
  intro pins s σ H x vs v us Q I rx rv h
  obtain ⟨l, xs, y, rfl, rfl, hH, hz, q⟩ := h
  cases rx
  obtain ⟨u, rfl, ru⟩ := rv.one
  obtain ⟨z, its, n, r, hl, e⟩ := I.lstM hH
  refine call_meets F.slot_list_append ⟨_, e, rfl⟩ F.entry_list_append (F.args_list_append_2 _ _) (PySem.list_append l its.toArray n u (by rw [List.size_toArray]; omega)) ⟨e, ?_⟩
  refine ⟨.non, _, I.lset (its' := its ++ [u]) hH e (by simp) (r.append (.cons ru .nil)) ?_, rfl, q⟩
  rw [List.length_append, List.length_singleton]
  omega
def rExtend : V → List V → Hp → VK → Prop := fun x vs H Q => ∃ l b xs zs, x = .ref l ∧ vs = [.ref b] ∧ H l = some (.lst xs) ∧ H b = some (.lst zs) ∧ xs.length + zs.length ≤ sizeLine ∧ Q .non (upd H l (.lst (xs ++ zs)))
theorem mt_extend : MtM X "list.extend" rExtend := by
  intro pins s σ H x vs v us Q I rx rv h
  obtain ⟨l, b, xs, zs, rfl, rfl, hH, hB, hz, q⟩ := h
  cases rx
  obtain ⟨u, rfl, ru⟩ := rv.one
  cases ru
  obtain ⟨z, its, n, r, hl, e⟩ := I.lstM hH
  obtain ⟨z2, its2, n2, r2, hl2, e2⟩ := I.lstM hB
  have hsz : its.toArray.size + its2.toArray.size ≤ sizeLine := by rw [List.size_toArray, List.size_toArray]; omega
  have hlong : ¬ (!its.toArray.isEmpty && Builtin.List.listTooLong (its.toArray.size + its2.toArray.size)) = true := by
    rw [notLongL hsz, Bool.and_false]
    exact Bool.false_ne_true
  refine call_meets F.slot_list_extend ⟨_, e, rfl⟩ F.entry_list_extend (F.args_list_extend_2 _ _)
    (AutoSeq1.list_extend_list_list_0 l its.toArray n b its2.toArray n2 hlong (by rw [List.size_toArray]; omega) (by omega)) ⟨e, e2, ?_⟩
  refine ⟨.non, _, I.lset (its' := its ++ its2) hH e (by simp) (r.append r2) ?_, rfl, q⟩
  rw [List.length_append]
  omega
def rCat : R2 := fun x y H Q => ∃ l b xs zs, x = .ref l ∧ y = .ref b ∧ H l = some (.lst xs) ∧ H b = some (.lst zs) ∧ xs.length + zs.length ≤ sizeLine ∧ ∀ p, H p = none → Q (.ref p) (upd H p (.lst (xs ++ zs)))
theorem op_cat : OpR X (binaryOp .Add) rCat := by
  intro pins s σ H x y v u Q I rx ry h
  obtain ⟨l, b, xs, zs, rfl, rfl, hH, hB, hz, q⟩ := h
  cases rx
  cases ry
  obtain ⟨z, its, n, r, hl, e⟩ := I.lstM hH
  obtain ⟨z2, its2, n2, r2, hl2, e2⟩ := I.lstM hB
  refine PySem.P.add_list e e2 ?_ (by rw [List.size_toArray, List.size_toArray]; omega)
  have ea : its.toArray ++ its2.toArray = (its ++ its2).toArray := by simp
  rw [ea]
  exact ⟨.ref _, _, I.lnew (t' := s.toks) (r.append r2) (by rw [List.length_append]; omega), rfl, q _ I.fresh⟩
end
section
variable {prog : Program} {w : World} {A : Around} {E : Value → Shared → Prop} {s : Shared}
set_option maxRecDepth 100000 in
end
section
variable {X : Cx}
end
end L2
namespace L2
open PySem PySem.Spec PyProof.Rows
theorem Vals.ints : ∀ {ns : List Int} {us : List Value}, Vals (ns.map V.int) us → IntsAre us ns
  | [], us, h => by
    rw [List.map_nil] at h
    cases h
    exact IntsAre.nil
  | n :: ns, us, h => by
    rw [List.map_cons] at h
    cases h with
    | cons r t =>
      obtain ⟨k, rfl⟩ := r
      exact IntsAre.cons n k (Vals.ints t)
theorem Vals.bls : ∀ {bs : List Bool} {us : List Value}, Vals (bs.map V.bl) us → us = bs.map Value.bool
  | [], us, h => by
    rw [List.map_nil] at h
    cases h
    rfl
  | b :: bs, us, h => by
    rw [List.map_cons] at h
    cases h with
    | cons r t =>
      cases r
      rw [Vals.bls t, List.map_cons]
theorem Vals.ref1 {a : Addr} {us : List Value} (r : Vals [V.ref a] us) : us = [Value.ref a] := by
  cases r with
  | cons r t =>
    cases t
    cases r
    rfl
section
variable {prog : Program} {w : World} {A : Around} {E : Value → Shared → Prop} {s : Shared} {l : Addr} {its : List Value} {ns : List Int} {Q : Value → Shared → Prop}
theorem max_raw (hh : A.handled = none) (hl : s.heap.IsList l its.toArray) (hi : IntsAre its ns) (hne : 0 < ns.length)
    (h : ∀ h' tk M t', (∀ b o, s.heap.get? b = some o → h'.get? b = some o) → M ∈ ns → (∀ a, a ∈ ns → a ≤ M) → Q (.int M t') { s with heap := h', toks := tk }) : wpAny (model prog w) A (call (.builtin "max") [.ref l]) Q E s := by
  obtain ⟨xs, e⟩ := hi.allInts.items
  have hn : numsOf (intItems xs).toList = ns := by rw [← e]; exact hi.numsOf
  rw [nums_intItems] at hn
  subst hn
  rw [e] at hl
  have hsz : 0 < xs.size := by simpa using hne
  refine PySem.max_intList hh hl hsz fun v h' tk hv hk => ?_
  obtain ⟨t, rfl⟩ := intItems_at hv
  obtain ⟨h1, h2⟩ := argBest_gt (numAt xs) (xs.size - 1)
  refine h h' tk _ t hk ?_ fun a ha => ?_
  · rw [numAt_eq]; exact PySem.getD_mem (by rw [List.length_map, Array.length_toList]; omega)
  · obtain ⟨j, hj, rfl⟩ := mem_getD ha
    rw [List.length_map, Array.length_toList] at hj
    rw [← numAt_eq]; exact h2 j (by omega)
end
section
variable {X : Cx}
def rMax (K : PySem.W.Frag) : List V → Hp → VK → Prop := fun vs H Q => ∃ (a : Addr) (ns : List Int), vs = [V.ref a] ∧ SqL K H a (ns.map V.int) ∧ 0 < ns.length ∧ ∀ m, m ∈ ns → (∀ y, y ∈ ns → y ≤ m) → Q (.int m) H
theorem cr_max (hc : X.calm = true) : CallR X (.builtin "max") (rMax X.K) := by
  intro pins s σ H vs us Q I r h
  obtain ⟨a, ns, rfl, hs, hne, q⟩ := h
  obtain ⟨its, rv, hl, _⟩ := I.list hs
  rw [Vals.ref1 r]
  exact max_raw (I.ok.hd hc) hl.isList rv.ints hne fun h' tk m t' hk h1 h2 => ⟨.int _, H, I.kept hk, ⟨_, rfl⟩, q m h1 h2⟩
end
section
variable {X : Cx}
end
section
variable {X : Cx}
end
theorem iter_any {prog : Program} {w : World} {A : Around} {E : Value → Shared → Prop} {s : Shared} {l : Addr} {items : Array Value} {Q : Value → Shared → Prop} (hl : s.heap.IsList l items)
    (h : ∀ s₂ : Shared, s₂ = { s with heap := s.heap.push { cls := .type "list_iterator", data := .fields #[.ref l, .int 0 0] } } →
      (s₂.heap.IsListIter s.heap.objs.size l 0 ∧ s₂.heap.IsList l items) → l ≠ s.heap.objs.size → Q (.ref s.heap.objs.size) s₂) : wpAny (model prog w) A (pyIter (.ref l)) Q E s := by
  have hlt : l < s.heap.objs.size := by obtain ⟨_, e, _⟩ := hl; exact Heap.lt_size e
  exact wpAny_pyIter_list hl (h _ rfl ⟨⟨_, Heap.get?_push_size _ rfl, rfl, rfl⟩, hl.push _⟩ (Nat.ne_of_lt hlt))
theorem truth_bools {prog : Program} {w : World} {A : Around} {bs : List Bool} {its : List Value} (e : its = bs.map Value.bool) :
    TruthOf prog w A (fun i v => its.toArray[i]? = some v) (fun i => bs.getD i false) := fun i v s Q E hv hq => by
  have hv' : its[i]? = some v := by simpa using hv
  rw [e, List.getElem?_map] at hv'
  obtain ⟨b, hb, rfl⟩ := Option.map_eq_some_iff.mp hv'
  have hg : bs.getD i false = b := by rw [List.getD_eq_getElem?_getD, hb] <;> rfl
  have hq' : Q (bs.getD i false) s := hq
  rw [hg] at hq'
  exact wpAny_truthy_bool hq'
theorem all_range : ∀ bs : List Bool, (List.range bs.length).all (fun i => bs.getD i false) = bs.all id
  | [] => rfl
  | b :: bs => by
    rw [List.length_cons, List.range_succ_eq_map, List.all_cons, List.all_map, List.all_cons, ← all_range bs]
    all_goals rfl
section
variable {X : Cx}
def rAll (K : PySem.W.Frag) : List V → Hp → VK → Prop := fun vs H Q => ∃ (a : Addr) (bs : List Bool), vs = [V.ref a] ∧ SqL K H a (bs.map V.bl) ∧ Q (.bl (bs.all id)) H
theorem cr_all (hc : X.calm = true) : CallR X (.builtin "all") (rAll X.K) := by
  intro pins s σ H vs us Q I r h
  obtain ⟨a, bs, rfl, hs, q⟩ := h
  obtain ⟨its, rv, hl, _⟩ := I.list hs
  rw [Vals.ref1 r]
  have hb := rv.bls
  refine call_all_walk (iter_any hl.isList fun s₂ e2 st hne => ?_)
  subst e2
  refine ⟨_, _, _, _, _, _, _, rfl, Walks.list (A := X.A.in1) (I.ok.hd hc) _ a hne its.toArray, st, truth_bools hb, fun h' tk hk => ?_⟩
  refine ⟨.bl _, H, I.kept fun b o eo => hk b o (fun hmem => ?_) (Heap.get?_push_of_some _ eo), ?_, q⟩
  · rcases List.mem_cons.mp hmem with e1 | hmem
    · exact absurd (e1 ▸ Heap.lt_size eo) (Nat.lt_irrefl _)
    · cases hmem
  · show Value.bool _ = Value.bool _
    rw [← all_range, hb, List.size_toArray, List.length_map]
end
mutual
inductive Dp (K : PySem.W.Frag) (H : Hp) : V → PyData → Prop
  | non : Dp K H .non .none
  | bl (b : Bool) : Dp K H (.bl b) (.bool b)
  | int (i : Int) : Dp K H (.int i) (.int i)
  | str (x : Str) : Dp K H (.str x) (.str x)
  | lst {a : Addr} {xs : List V} {ds : List PyData} : SqL K H a xs → DpAll K H xs ds → Dp K H (.ref a) (.list ds)
  | tup {a : Addr} {xs : List V} {ds : List PyData} : SqT K H a xs → DpAll K H xs ds → Dp K H (.ref a) (.tuple ds)
inductive DpAll (K : PySem.W.Frag) (H : Hp) : List V → List PyData → Prop
  | nil : DpAll K H [] []
  | cons {v : V} {vs : List V} {d : PyData} {ds : List PyData} : Dp K H v d → DpAll K H vs ds → DpAll K H (v :: vs) (d :: ds)
end
section
variable {X : Cx} {pins : List (Addr × Obj)} {σ : St} {H : Hp} {s : Shared}
mutual
theorem Dp.reads (I : Inv X pins σ H s) : ∀ (d : PyData) (v : V) (u : Value), Dp X.K H v d → RelV v u → ∃ as, Reads s.heap u d as
  | .none, _, _, h, r => by
    cases h
    cases r
    exact ⟨_, Reads.none⟩
  | .bool b, _, _, h, r => by
    cases h
    cases r
    exact ⟨_, Reads.bool b⟩
  | .int i, _, _, h, r => by
    cases h
    obtain ⟨t, rfl⟩ := r
    exact ⟨_, Reads.int i t⟩
  | .str x, _, _, h, r => by
    cases h
    obtain ⟨t, rfl⟩ := r
    exact ⟨_, Reads.str x t⟩
  | .list ds, _, _, h, r => by
    cases h with
    | lst hs ha =>
      cases r
      obtain ⟨its, rv, ⟨o, n, ho, hc, _, hd⟩, _⟩ := I.list hs
      obtain ⟨as, hr⟩ := Dp.readsAll I ds _ its ha rv
      exact ⟨_, Reads.list ho hc hd hr⟩
  | .tuple ds, _, _, h, r => by
    cases h with
    | tup hs ha =>
      cases r
      obtain ⟨its, rv, ⟨o, ho, hc, n, hd⟩, _⟩ := I.tuple hs
      obtain ⟨as, hr⟩ := Dp.readsAll I ds _ its ha rv
      exact ⟨_, Reads.tuple ho hc hd hr⟩
  | .dict _, _, _, h, _ => by cases h
theorem Dp.readsAll (I : Inv X pins σ H s) : ∀ (ds : List PyData) (vs : List V) (us : List Value), DpAll X.K H vs ds → Vals vs us → ∃ as, ReadsAll s.heap us ds as
  | [], _, _, h, r => by
    cases h
    cases r
    exact ⟨_, ReadsAll.nil⟩
  | d :: ds, _, _, h, r => by
    cases h with
    | cons h1 h2 =>
      cases r with
      | cons r1 r2 =>
        obtain ⟨as, q1⟩ := Dp.reads I d _ _ h1 r1
        obtain ⟨bs, q2⟩ := Dp.readsAll I ds _ _ h2 r2
        exact ⟨_, ReadsAll.cons q1 q2⟩
end
end
section
variable {X : Cx}
end
end L2
namespace L2
open PySem PySem.Spec PyProof.Rows
abbrev CellAt (h : Heap) (c : Addr) (v : Option Value) : Prop := h.IsCell c v
def relS (scope sc : Scope) : Scope :=
  { scope with names := scope.names.map fun (n, k) => if (k == .free && sc.kind == .function && sc.names.lookup n == some .cell) then (n, .cell) else (n, k) }
def cloFrom (cells : List (Str × Addr)) : List (Str × NameKind) → List (Str × Addr) → List (Str × Addr)
  | [], acc => acc
  | (n, k) :: r, acc => if k == .free then cloFrom cells r ((n, (cells.lookup n).getD 0) :: acc) else cloFrom cells r acc
theorem closure_loop (env : Env) (f : Str × NameKind → List (Str × Addr) → Sem (ForInStep (List (Str × Addr))))
    (hf : ∀ n k c, f (n, k) c = if k == .free then (do let a ← cellOf env n; pure (.yield ((n, a) :: c))) else pure (.yield c)) :
    ∀ (names : List (Str × NameKind)) (acc : List (Str × Addr)), (∀ y ∈ names, y.2 = .free → ∃ c, env.cells.lookup y.1 = some c) → forIn names acc f = pure (cloFrom env.cells names acc)
  | [], acc, _ => by rw [List.forIn_nil]; rfl
  | (n, k) :: r, acc, h => by
    rw [List.forIn_cons, hf]
    have ih := fun acc => closure_loop env f hf r acc fun y hy => h y (List.mem_cons_of_mem _ hy)
    unfold cloFrom
    by_cases hk : (k == NameKind.free) = true
    · rw [if_pos hk, if_pos hk]
      obtain ⟨c, hc⟩ := h (n, k) List.mem_cons_self (by simpa using hk)
      have e : cellOf env n = pure c := by unfold cellOf; rw [hc]
      rw [e]
      have e2 : (env.cells.lookup n).getD 0 = c := by rw [hc]; rfl
      rw [e2]
      exact ih _
    · rw [if_neg hk, if_neg hk]
      exact ih _
theorem closure_ok {scope : Scope} {env : Env} (h : ∀ y ∈ scope.names, y.2 = .free → ∃ c, env.cells.lookup y.1 = some c) : closureFor scope env = pure (cloFrom env.cells scope.names []) := by
  simp only [closureFor]
  rw [closure_loop env _ (fun n k c => rfl) scope.names [] h]
  rfl
theorem mem_lookup {α : Type} : ∀ {l : List (Str × α)} {n : Str} {c : α}, (n, c) ∈ l → ∃ c', l.lookup n = some c'
  | (k, v) :: r, n, c, h => by
    rw [List.lookup_cons]
    cases hb : n == k with
    | true => exact ⟨_, rfl⟩
    | false =>
      rcases List.mem_cons.mp h with e | h
      · cases e; simp at hb
      · exact mem_lookup h
theorem cloFrom_mem {cells : List (Str × Addr)} : ∀ {names : List (Str × NameKind)} {acc : List (Str × Addr)} {n : Str} {c : Addr}, (n, c) ∈ cloFrom cells names acc → (n, c) ∈ acc ∨ ((n, .free) ∈ names ∧ c = (cells.lookup n).getD 0)
  | [], _, _, _, h => .inl h
  | (m, k) :: r, acc, n, c, h => by
    unfold cloFrom at h
    split at h
    · rename_i hk
      have hk : k = .free := by simpa using hk
      rcases cloFrom_mem h with h | ⟨h1, h2⟩
      · rcases List.mem_cons.mp h with e | h
        · cases e; exact .inr ⟨hk ▸ List.mem_cons_self, rfl⟩
        · exact .inl h
      · exact .inr ⟨List.mem_cons_of_mem _ h1, h2⟩
    · rcases cloFrom_mem h with h | ⟨h1, h2⟩
      · exact .inl h
      · exact .inr ⟨List.mem_cons_of_mem _ h1, h2⟩
theorem cloFrom_acc {cells : List (Str × Addr)} : ∀ {names : List (Str × NameKind)} {acc : List (Str × Addr)} {p : Str × Addr}, p ∈ acc → p ∈ cloFrom cells names acc
  | [], _, _, h => h
  | (m, k) :: r, acc, p, h => by
    unfold cloFrom
    split
    · exact cloFrom_acc (List.mem_cons_of_mem _ h)
    · exact cloFrom_acc h
theorem cloFrom_has {cells : List (Str × Addr)} : ∀ {names : List (Str × NameKind)} {acc : List (Str × Addr)} {n : Str}, (n, .free) ∈ names → (n, (cells.lookup n).getD 0) ∈ cloFrom cells names acc
  | (m, k) :: r, acc, n, h => by
    unfold cloFrom
    rcases List.mem_cons.mp h with e | h
    · cases e
      exact cloFrom_acc List.mem_cons_self
    · split
      · exact cloFrom_has h
      · exact cloFrom_has h
theorem cells_mem : ∀ {names : List (Str × NameKind)} {h : Heap} {acc : List (Str × Addr)} {x : Str} {c : Addr}, (x, c) ∈ cellsFrom h.objs.size names acc →
    (x, c) ∈ acc ∨ ((x, .cell) ∈ names ∧ h.objs.size ≤ c ∧ CellAt (pushCells h names) c none)
  | [], _, _, _, _, h => .inl h
  | (n, k) :: r, h, acc, x, c, hm => by
    unfold cellsFrom at hm
    unfold pushCells
    split at hm
    · rename_i hk
      rw [if_pos hk]
      have hk : k = .cell := by simpa using hk
      rw [← Heap.size_push h { cls := .type "cell", data := .cell none }] at hm
      rcases cells_mem hm with hm | ⟨h1, h2, h3⟩
      · rcases List.mem_cons.mp hm with e | hm
        · cases e
          exact .inr ⟨hk ▸ List.mem_cons_self, Nat.le_refl _, _, pushCells_keeps r _ _ _ (Heap.get?_push_size _ rfl), rfl⟩
        · exact .inl hm
      · rw [Heap.size_push] at h2
        exact .inr ⟨List.mem_cons_of_mem _ h1, Nat.le_of_succ_le h2, h3⟩
    · rename_i hk
      rw [if_neg hk]
      rcases cells_mem hm with hm | ⟨h1, h2, h3⟩
      · exact .inl hm
      · exact .inr ⟨List.mem_cons_of_mem _ h1, h2, h3⟩
theorem cells_acc : ∀ {names : List (Str × NameKind)} {n : Nat} {acc : List (Str × Addr)} {p : Str × Addr}, p ∈ acc → p ∈ cellsFrom n names acc
  | [], _, _, _, h => h
  | (m, k) :: r, n, acc, p, h => by
    unfold cellsFrom
    split
    · exact cells_acc (List.mem_cons_of_mem _ h)
    · exact cells_acc h
theorem cells_has : ∀ {names : List (Str × NameKind)} {n : Nat} {acc : List (Str × Addr)} {x : Str}, (x, .cell) ∈ names → ∃ c, (x, c) ∈ cellsFrom n names acc
  | (m, k) :: r, n, acc, x, h => by
    unfold cellsFrom
    rcases List.mem_cons.mp h with e | h
    · cases e
      exact ⟨n, cells_acc List.mem_cons_self⟩
    · split
      · exact cells_has h
      · exact cells_has h
theorem cells_inj : ∀ {names : List (Str × NameKind)} {h : Heap} {acc : List (Str × Addr)} {x y : Str} {c : Addr}, (∀ p ∈ acc, p.2 < h.objs.size) → (∀ x y c, (x, c) ∈ acc → (y, c) ∈ acc → x = y) →
    (x, c) ∈ cellsFrom h.objs.size names acc → (y, c) ∈ cellsFrom h.objs.size names acc → x = y
  | [], _, _, _, _, _, _, hi, h1, h2 => hi _ _ _ h1 h2
  | (n, k) :: r, h, acc, x, y, c, hl, hi, h1, h2 => by
    unfold cellsFrom at h1 h2
    split at h1
    · rename_i hk
      rw [if_pos hk] at h2
      rw [← Heap.size_push h { cls := .type "cell", data := .cell none }] at h1 h2
      refine cells_inj (h := h.push _) (fun p hp => ?_) (fun x y c a b => ?_) h1 h2
      · rw [Heap.size_push]
        rcases List.mem_cons.mp hp with rfl | hp
        · exact Nat.lt_succ_self _
        · exact Nat.lt_succ_of_lt (hl p hp)
      · rcases List.mem_cons.mp a with e | a <;> rcases List.mem_cons.mp b with e' | b
        · cases e; cases e'; rfl
        · cases e; exact absurd (hl _ b) (Nat.lt_irrefl _)
        · cases e'; exact absurd (hl _ a) (Nat.lt_irrefl _)
        · exact hi _ _ _ a b
    · rename_i hk
      rw [if_neg hk] at h2
      exact cells_inj hl hi h1 h2
theorem newEnv_comp {M : Model} {A : Around} {E : Value → Shared → Prop} {s : Shared} {scope : Scope} {globals : Addr} {closure : List (Str × Addr)} {qual : Str} {func : Option Addr} {code : Value} {around : Env} {builtins : Addr} {Q : Env → Shared → Prop}
    (h : Q (newEnv scope s.heap.objs.size globals (cellsFrom (s.heap.objs.size + 1) scope.names closure) qual func code (some around) builtins)
      { s with heap := pushCells (s.heap.push { cls := .type "dict", data := .dict #[] }) scope.names }) :
    wpAny M A (newFunctionEnv scope globals closure [] qual func code (some around) builtins) Q E s := by
  simp only [newFunctionEnv, Option.isSome_some, if_true]
  refine wpAny_bind (wpAny_alloc ?_)
  refine wpAny_bind (wpAny_layCells _ (fun n k c => rfl) scope.names closure _ _ ?_)
  rw [show ({ s with heap := s.heap.push { cls := .type "dict", data := .dict #[] } } : Shared).heap.objs.size = s.heap.objs.size + 1 from Heap.size_push ..]
  rw [List.forIn_nil]
  exact wpAny_bind (wpAny_pure (wpAny_pure h))
theorem lookup_relS {sc : Scope} : ∀ {names : List (Str × NameKind)} {x : Str} {k : NameKind},
    (names.map fun (n, k) => if (k == NameKind.free && sc.kind == .function && sc.names.lookup n == some .cell) then (n, NameKind.cell) else (n, k)).lookup x = some k →
    ∃ k', names.lookup x = some k' ∧ (k = k' ∨ (k' = .free ∧ k = .cell))
  | [], _, _, h => by simp at h
  | (n, k₀) :: r, x, k, h => by
    have ih := @lookup_relS sc r x k
    have h' : List.lookup x ((if (k₀ == NameKind.free && sc.kind == .function && sc.names.lookup n == some .cell) = true then (n, NameKind.cell) else (n, k₀)) :: (r.map _)) = some k := h
    cases hx : x == n with
    | true =>
      simp only [List.lookup_cons, hx]
      by_cases hc : (k₀ == NameKind.free && sc.kind == .function && sc.names.lookup n == some .cell) = true
      · rw [if_pos hc] at h'
        simp only [List.lookup_cons, hx] at h'
        cases h'
        simp only [Bool.and_eq_true, beq_iff_eq] at hc
        exact ⟨k₀, rfl, .inr ⟨hc.1.1, rfl⟩⟩
      · rw [if_neg hc] at h'
        simp only [List.lookup_cons, hx] at h'
        cases h'
        exact ⟨_, rfl, .inl rfl⟩
    | false =>
      simp only [List.lookup_cons, hx]
      by_cases hc : (k₀ == NameKind.free && sc.kind == .function && sc.names.lookup n == some .cell) = true
      · rw [if_pos hc] at h'
        simp only [List.lookup_cons, hx] at h'
        exact ih h'
      · rw [if_neg hc] at h'
        simp only [List.lookup_cons, hx] at h'
        exact ih h'
structure BlkOk (N : List Str) (sc scope : Scope) (own : List (Str × Nat)) : Prop where
  kind : scope.kind = .function
  uniq : ∀ y ∈ scope.names, scope.names.lookup y.1 = some y.2
  ix : ∀ p ∈ own, N[p.2]? = some p.1
  free : ∀ y ∈ scope.names, y.2 = .free → sc.names.lookup y.1 = some .cell ∨ sc.names.lookup y.1 = some .free
  own : ∀ y ∈ scope.names, y.2 = .local ∨ y.2 = .cell → y.1 ∈ own.map (·.1) ∨ y.1 ∉ N
def wipe (σ : St) : List Nat → St
  | [] => σ
  | v :: vs => (wipe σ vs).set v none
theorem wipe_length (σ : St) : ∀ vs : List Nat, (wipe σ vs).length = σ.length
  | [] => rfl
  | v :: vs => by unfold wipe; rw [List.length_set, wipe_length σ vs]
theorem wipe_some {σ : St} {i : Nat} {x : V} : ∀ {vs : List Nat}, (wipe σ vs)[i]? = some (some x) → σ[i]? = some (some x) ∧ i ∉ vs
  | [], h => ⟨h, by simp⟩
  | v :: vs, h => by
    unfold wipe at h
    by_cases hi : v = i
    · subst hi
      by_cases hv : v < (wipe σ vs).length
      · rw [List.getElem?_set_self hv] at h; cases h
      · rw [List.getElem?_eq_none (by simpa using hv)] at h; cases h
    · rw [List.getElem?_set_ne hi] at h
      obtain ⟨h1, h2⟩ := wipe_some h
      exact ⟨h1, by simp only [List.mem_cons, not_or]; exact ⟨fun e => hi e.symm, h2⟩⟩
abbrev Cx.blk (X : Cx) (s : Shared) (H : Hp) (scope : Scope) (cenv : Env) (fp : List Addr) : Cx := { X with s_0 := s, H_0 := H, env := cenv, outer := X.stack, ex := fp, fn := fun x => scope.names.lookup x == some .cell, pn := [], xe := fun _ _ => False }
section
variable {X : Cx} {pins : List (Addr × Obj)} {σ : St} {H : Hp} {s : Shared}
theorem block_start {scope : Scope} {own : List (Str × Nat)} {fp : List Addr} (I : Inv X pins σ H s) (ok : BlkOk X.N X.env.scope scope own) (hN : X.N.Nodup) (hfp : ∀ b ∈ fp, FpOk X pins H b ∧ b < s.heap.objs.size) :
    Inv (X.blk s H scope (compEnvC scope (cellsFrom (s.heap.objs.size + 1) scope.names (cloFrom X.env.cells scope.names [])) s.heap.objs.size X.env) fp) [] (wipe σ (own.map (·.2))) H { s with heap := pushCells (s.heap.push { cls := .type "dict", data := .dict #[] }) scope.names } := by
  have hfree : ∀ y ∈ scope.names, y.2 = .free → ∃ c, X.env.cells.lookup y.1 = some c := fun y hy e => by
    rcases ok.free y hy e with k | k
    · exact I.ok.has _ (.inl k)
    · exact I.ok.has _ (.inr k)
  generalize hcenv : compEnvC scope (cellsFrom (s.heap.objs.size + 1) scope.names (cloFrom X.env.cells scope.names [])) s.heap.objs.size X.env = cenv
  have kp : ∀ b o, s.heap.get? b = some o → (pushCells (s.heap.push { cls := .type "dict", data := .dict #[] }) scope.names).get? b = some o := fun b o e => pushCells_keeps _ _ _ _ (Heap.get?_push_of_some _ e)
  have hL : cenv.locals = s.heap.objs.size := by rw [← hcenv]; rfl
  have hcl : cenv.cells = cellsFrom (s.heap.objs.size + 1) scope.names (cloFrom X.env.cells scope.names []) := by rw [← hcenv]; rfl
  have hsc : cenv.scope = relS scope X.env.scope := by rw [← hcenv]; rfl
  rw [← Heap.size_push s.heap { cls := .type "dict", data := .dict #[] }] at hcl
  have cm : ∀ {y c}, (y, c) ∈ cloFrom X.env.cells scope.names [] → X.env.cells.lookup y = some c ∧ c < s.heap.objs.size := fun {y c} hm => by
    rcases cloFrom_mem hm with hm | ⟨h1, rfl⟩
    · cases hm
    · obtain ⟨c, hc⟩ := hfree _ h1 rfl
      rw [hc]
      obtain ⟨w, z⟩ := I.cell _ _ hc
      exact ⟨rfl, z.lt⟩
  have mem : ∀ {y c}, cenv.cells.lookup y = some c → (X.env.cells.lookup y = some c ∧ c < s.heap.objs.size) ∨ (s.heap.objs.size + 1 ≤ c ∧ CellAt (pushCells (s.heap.push { cls := .type "dict", data := .dict #[] }) scope.names) c none) := fun {y c} e => by
    rw [hcl] at e
    rcases cells_mem (PySem.mem_of_lookup e) with hm | ⟨_, h2, h3⟩
    · exact .inl (cm hm)
    · rw [Heap.size_push] at h2; exact .inr ⟨h2, h3⟩
  have look : ∀ {y}, scope.names.lookup y = some .free → ∃ c, cenv.cells.lookup y = some c ∧ X.env.cells.lookup y = some c := fun {y} hl => by
    have hy : (y, NameKind.free) ∈ scope.names := PySem.mem_of_lookup hl
    obtain ⟨c', e'⟩ := mem_lookup (cells_acc (names := scope.names) (n := (s.heap.push { cls := .type "dict", data := .dict #[] }).objs.size) (cloFrom_has (cells := X.env.cells) (acc := []) hy))
    rw [← hcl] at e'
    refine ⟨c', e', ?_⟩
    rw [hcl] at e'
    rcases cells_mem (PySem.mem_of_lookup e') with hm | ⟨h1, _, _⟩
    · exact (cm hm).1
    · have := ok.uniq _ h1
      rw [hl] at this; cases this
  have okB : (X.blk s H scope cenv fp).Ok := by
    refine ⟨I.ok.mod, by show cenv.scope.kind = _; rw [hsc]; exact ok.kind, by show cenv.globals = _; rw [← hcenv]; exact I.ok.glob, by show cenv.builtins = _; rw [← hcenv]; exact I.ok.blt, by show s.heap.objs.size ≤ cenv.locals; rw [hL]; exact Nat.le_refl _,
      fun y z c e1 e2 => ?_, fun y hy => ?_, fun y c z e => ?_, I.ok.hd, I.ok.frames, .inl rfl, fun b hb => ⟨?_, fun y c e z => ?_⟩, I.bs, Nat.le_trans I.ok.bsz I.sz, fun b o e hb => ?_, fun b hb z => ?_, I.stack, I.stkFree⟩
    · have e1 : cenv.cells.lookup y = some c := e1
      have e2 : cenv.cells.lookup z = some c := e2
      rw [hcl] at e1 e2
      refine cells_inj (fun p hp => ?_) (fun y z c a b => I.ok.inj y z c (cm a).1 (cm b).1) (PySem.mem_of_lookup e1) (PySem.mem_of_lookup e2)
      rw [Heap.size_push]
      exact Nat.lt_succ_of_lt (cm (y := p.1) (c := p.2) hp).2
    · show ∃ c, cenv.cells.lookup y = some c
      have key : ∀ k, cenv.kindOf y = some k → (k = .cell ∨ k = .free) → ∃ c, cenv.cells.lookup y = some c := fun k hk hk' => by
        unfold Env.kindOf at hk
        rw [hsc] at hk
        obtain ⟨k', e, r⟩ := lookup_relS hk
        have : k' = .cell ∨ k' = .free := by
          rcases r with rfl | ⟨rfl, _⟩
          · exact hk'
          · exact .inr rfl
        rcases this with rfl | rfl
        · obtain ⟨c, hm⟩ := cells_has (n := (s.heap.push { cls := .type "dict", data := .dict #[] }).objs.size) (acc := cloFrom X.env.cells scope.names []) (PySem.mem_of_lookup e)
          obtain ⟨c', e'⟩ := mem_lookup hm
          exact ⟨c', by rw [hcl]; exact e'⟩
        · obtain ⟨c, h1, _⟩ := look e
          exact ⟨c, h1⟩
      rcases hy with hy | hy
      · exact key _ hy (.inl rfl)
      · exact key _ hy (.inr rfl)
    · have z : (scope.names.lookup y == some NameKind.cell) = true := z
      have z : scope.names.lookup y = some .cell := by simpa using z
      have e : cenv.cells.lookup y = some c := e
      rw [hcl] at e
      rcases cells_mem (PySem.mem_of_lookup e) with hm | ⟨_, h2, _⟩
      · rcases cloFrom_mem hm with hm | ⟨h1, _⟩
        · cases hm
        · have q := ok.uniq _ h1
          rw [z] at q; cases q
      · rw [Heap.size_push] at h2
        exact Nat.le_of_succ_le h2
    · show b ≠ cenv.locals
      rw [hL]; exact Nat.ne_of_lt (hfp b hb).2
    · have e : cenv.cells.lookup y = some c := e
      rcases mem e with ⟨h1, _⟩ | ⟨h1, _⟩
      · exact (hfp b hb).1.2.2.2.2.1 y c h1 z
      · have h2 : s.heap.objs.size + 1 ≤ b := by rw [← z]; exact h1
        exact absurd (Nat.lt_of_lt_of_le (hfp b hb).2 (Nat.le_of_succ_le h2)) (Nat.lt_irrefl _)
    · rcases (hfp b hb).1.2.2.2.1 with z | z
      · exact I.ok.noex b o e z
      · exact absurd (Nat.lt_of_lt_of_le (Heap.lt_size e) (Nat.le_trans I.ok.bsz z)) (Nat.lt_irrefl _)
    · rcases List.mem_cons.mp (I.stkSub b z) with z | z
      · exact (hfp b hb).1.2.1 z
      · exact (hfp b hb).1.2.2.1 z
  refine ⟨okB, rfl, I.bare, Un.kept kp, ⟨fun _ => none, ?_, fun i y av e1 e2 e3 => ?_⟩, fun y c e => ?_, ?_, fun y c e => ?_, fun p hp => ?_, I.hok.kept kp, by rw [wipe_length]; exact I.len⟩
  · show Heap.Ns _ cenv.locals _
    rw [hL]
    exact Heap.Ns.keeps (Heap.Ns.new ..) fun b o e => pushCells_keeps _ _ _ _ e
  · obtain ⟨e2, hne⟩ := wipe_some e2
    have hfr : scope.names.lookup y = some .free ∧ (cenv.kindOf y = some .cell ∨ cenv.kindOf y = some .free) := by
      have key : ∀ k, cenv.scope.names.lookup y = some k → k = .local ∨ k = .cell ∨ k = .free → scope.names.lookup y = some .free ∧ (cenv.kindOf y = some .cell ∨ cenv.kindOf y = some .free) := fun k hk hk' => by
        have hk0 := hk
        rw [hsc] at hk
        obtain ⟨k', e, r⟩ := lookup_relS hk
        have no : ¬ (k' = .local ∨ k' = .cell) := fun hh => by
          rcases ok.own _ (PySem.mem_of_lookup e) hh with e' | e'
          · obtain ⟨p, hp, hpy⟩ := List.mem_map.mp e'
            have e3 := ok.ix p hp
            have : p.1 = y := hpy
            rw [this] at e3
            exact hne (List.mem_map.mpr ⟨p, hp, nodup_ix hN e3 e1⟩)
          · exact e' (List.mem_of_getElem? e1)
        rcases r with rfl | ⟨rfl, rfl⟩
        · rcases hk' with rfl | rfl | rfl
          · exact absurd (.inl rfl) no
          · exact absurd (.inr rfl) no
          · exact ⟨e, .inr hk0⟩
        · exact ⟨e, .inl hk0⟩
      have e3 : Vis cenv.scope y := e3
      rcases e3 with e3 | e3 | e3
      · exact key _ e3 (.inl rfl)
      · exact key _ e3 (.inr (.inl rfl))
      · exact key _ e3 (.inr (.inr rfl))
    obtain ⟨m, hn, hl⟩ := I.loc
    have hvis : Vis X.env.scope y := (ok.free _ (PySem.mem_of_lookup hfr.1) rfl).elim (fun k => .inr (.inl k)) (fun k => .inr (.inr k))
    obtain ⟨w, r, q⟩ := hl i y av e1 e2 hvis
    refine ⟨w, r, .inr ⟨hfr.2, ?_⟩⟩
    obtain ⟨c, h1, h2⟩ := look hfr.1
    rcases q with ⟨k, _⟩ | ⟨_, c', e', z⟩
    · have k : X.env.scope.names.lookup y = some .local := k
      rcases ok.free _ (PySem.mem_of_lookup hfr.1) rfl with k' | k' <;> rw [show X.env.scope.names.lookup y = _ from k'] at k <;> cases k
    · rw [h2] at e'; cases e'
      exact ⟨c, h1, z.keeps kp⟩
  · have e : cenv.cells.lookup y = some c := e
    rcases mem e with ⟨h1, _⟩ | ⟨_, z⟩
    · obtain ⟨w, z⟩ := I.cell y c h1
      exact ⟨w, z.keeps kp⟩
    · exact ⟨_, z⟩
  · show H cenv.locals = none
    rw [hL]; exact I.hok.fresh (Nat.le_refl _)
  · have e : cenv.cells.lookup y = some c := e
    rcases mem e with ⟨h1, _⟩ | ⟨h1, _⟩
    · exact I.freeC y c h1
    · exact I.hok.fresh (Nat.le_of_succ_le h1)
  · exact absurd (show p ∈ ([] : List (Addr × Obj)) ++ [] from hp) (by simp)
theorem app_ok {E : Value → Shared → Prop} {D : Addr} {xs : List V} {y : V} {v : Value} {Q : Value → Shared → Prop} (I : Inv X pins σ H s) (hD : H D = some (.lst xs)) (hz : xs.length < sizeLine) (r : RelV y v)
    (h : ∀ s', Inv X pins σ (upd H D (.lst (xs ++ [y]))) s' → Q .none s') : wpAny (model X.prog X.w) X.A (call (.builtin "list.append") [.ref D, v]) Q E s := by
  obtain ⟨hz', its, n, ri, e⟩ := I.hok D _ hD
  have hl := ri.length
  refine append_at (hsz := by rw [List.size_toArray]; omega) e fun h' sb ho' => ?_
  refine h { s with heap := h' } (I.write (t' := s.toks) (by rw [hD]; trivial) (.inl rfl) (fun b u hb q => (sb.2 b hb).trans q) ⟨_, ho'⟩ ⟨by rw [List.length_append]; exact hz, its ++ [v], n + 1, ri.append (.cons r .nil), ?_⟩)
  rw [ho']
  simp
def PTs (X : Cx) (ifs : List Expr) (t : TT) : Prop :=
  ∀ (pins : List (Addr × Obj)) (s : Shared) (σ : St) (H : Hp) (Q : Bool → Hp → Prop), Inv X pins σ H s → t σ H Q →
    wpAny (model X.prog X.w) X.A (forIn ifs true fun c r => if r = true then do let ok ← isTrue c X.env (eval c X.env); pure (ForInStep.yield ok) else pure (ForInStep.yield r)) (TP X pins σ Q) X.xe s
def tYes : TT := fun _ H Q => Q true H
theorem pts_nil : PTs X [] tYes := fun _ _ _ H _ I h => wpAny_tests_nil ⟨H, I, h⟩
theorem pts_one {c : Expr} {t : TT} (h : PT X c t) : PTs X [c] t := fun pins s σ H Q I hw => wpAny_tests_one (h pins s σ H Q I hw)
end
theorem thnF {α : Type} {t : Sem α} {Q Q' : α → Shared → Prop} {M : Model} {A : Around} {E : Value → Shared → Prop} {s : Shared} (h : wpAny M A t Q (fun _ _ => False) s) (hQ : ∀ a s, Q a s → Q' a s) : wpAny M A t Q' E s := wpAny_mono h hQ fun _ _ z => False.elim z
theorem compLoop_any {prog : Program} {w : World} {A : Around} {R : Result → Shared → Prop} {s : Shared} {elt target iter : Expr} {ifs : List Expr} {scope : Scope} {pos : Pos} {it acc : Value} {env : Env} (I : Nat → Shared → Prop)
    (turn : ∀ n s, I n s → wpAny (model prog w) A (pyNext it) (fun r s₁ => match r with
      | none => R (.ok .next) s₁
      | some v => wpAny (model prog w) A (letOwnedTupleGo target it v) (fun _ s₁' => wpAny (model prog w) A (assign target env v) (fun _ s₂ =>
          wpAny (model prog w) A (forIn ifs true fun c r => if r = true then do let ok ← isTrue c env (eval c env); pure (ForInStep.yield ok) else pure (ForInStep.yield r)) (fun ok s₃ =>
            if ok = true then wpAny (model prog w) A (eval elt env) (fun x s₄ =>
              wpAny (model prog w) A (call (.builtin "list.append") [acc, x]) (fun _ s₅ => ∃ m, m < n ∧ I m s₅) (notedBy (model prog w) A env fun e s' => R (.error e) s') s₄) (notedBy (model prog w) A env fun e s' => R (.error e) s') s₃
            else ∃ m, m < n ∧ I m s₃) (notedBy (model prog w) A env fun e s' => R (.error e) s') s₂) (notedBy (model prog w) A env fun e s' => R (.error e) s') s₁') (notedBy (model prog w) A env fun e s' => R (.error e) s') s₁) (notedBy (model prog w) A env fun e s' => R (.error e) s') s)
    (n : Nat) (h : I n s) :
    codeAny (model prog w) A (.compLoop (.ListComp elt [⟨target, iter, ifs, 0⟩] scope pos) 0 it acc env) R s := by
  refine codeAny_loop rfl I (fun n s hI => ?_) n h
  show wpAny _ A ((compTurn (.ListComp elt [⟨target, iter, ifs, 0⟩] scope pos) 0 it acc env).onRaise (fun x => do noteFrame x env; theTreesLotGoes x)) _ _ s
  refine wpAny_noted ?_
  rw [compTurn_list]
  refine wpAny_bind (wpAny_standAt (wpAny_bind (wpAny_mono (turn n s hI) (fun r s₁ h₁ => ?_) fun _ _ h' => h')))
  cases r with
  | none => exact wpAny_pure h₁
  | some v =>
    refine wpAny_bind (wpAny_mono h₁ (fun _ s₁' h₁' => ?_) fun _ _ h' => h')
    refine wpAny_bind (wpAny_mono h₁' (fun _ s₂ h₂ => wpAny_bind (wpAny_mono h₂ (fun ok s₃ h₃ => ?_) fun _ _ h' => h')) fun _ _ h' => h')
    cases ok with
    | false => exact wpAny_pure ⟨rfl, h₃⟩
    | true =>
      exact wpAny_bind (wpAny_bind (wpAny_mono h₃ (fun x s₄ h₄ => wpAny_bind (wpAny_mono h₄ (fun _ s₅ h₅ => wpAny_pure (wpAny_pure ⟨rfl, h₅⟩)) fun _ _ h' => h')) fun _ _ h' => h'))
section
variable {X : Cx}
def tLc (wi : TI) (g : TG) (tt : TT) (te : TE) (vs : List Nat) : TE := fun σ H Q => wi σ H fun J H1 => ∀ D, H1 D = none → ∃ W : Nat → Nat → Hp → Prop, (∃ m, W 0 m (upd H1 D (.lst []))) ∧ ∀ i m H, W i m H →
  (J.stop i H ∧ Q (.ref D) H) ∨ (J.go i H ∧ ∃ Nx : Hp → Prop, (∀ H', Nx H' → ∃ m', m' < m ∧ W (i + 1) m' H') ∧ ∀ x H', J.yld i H x H' → g x (wipe σ vs) H' fun σ2 H2 => wipe σ2 vs = wipe σ vs ∧ tt σ2 H2 fun b H3 =>
    if b = true then te σ2 H3 fun y H4 => ∃ acc, H4 D = some (.lst acc) ∧ acc.length < sizeLine ∧ Nx (upd H4 D (.lst (acc ++ [y]))) else Nx H3)
theorem lc_core {pins : List (Addr × Obj)} {s : Shared} {σ : St} {H : Hp} {Q : VK} {elt tg iter : Expr} {ifs : List Expr} {scope : Scope} {own : List (Str × Nat)} {pos pos' : Pos} {wi : TI} {g : TG} {tt : TT} {te : TE} {use : Option (Value → Sem Unit)} {Qf : Value → Shared → Prop}
    (hc : X.calm = true) (hN : X.N.Nodup) (I : Inv X pins σ H s) (hi : PI X tg iter wi) (ok : BlkOk X.N X.env.scope scope own)
    (hg : ∀ (s : Shared) (H : Hp) (C : Addr) (cl : List (Str × Addr)) (fp : List Addr), PG (X.blk s H scope (compEnvC scope cl C X.env) fp) tg g) (ht : ∀ (s : Shared) (H : Hp) (C : Addr) (cl : List (Str × Addr)) (fp : List Addr), PTs (X.blk s H scope (compEnvC scope cl C X.env) fp) ifs tt)
    (he : ∀ (s : Shared) (H : Hp) (C : Addr) (cl : List (Str × Addr)) (fp : List Addr), PE (X.blk s H scope (compEnvC scope cl C X.env) fp) elt te) (hs : ∀ x, foldedSetIterable iter X.env x = pure x)
    (h : tLc wi g tt te (own.map (·.2)) σ H Q)
    (hRR : ∀ D C s' m H', Inv X pins σ H' s' → Q (.ref D) H' → s'.heap.Ns C m → FpOk X pins H' C → compPost (model X.prog X.w) X.A X.xe use Qf (.ref D) C (.ok .next) s') :
    wpAny (model X.prog X.w) X.A (comprehension (.ListComp elt [⟨tg, iter, ifs, 0⟩] scope pos) scope X.env pos' (newList []) false (eval iter X.env) use) Qf X.xe s := by
  have hfree : ∀ y ∈ scope.names, y.2 = .free → ∃ c, X.env.cells.lookup y.1 = some c := fun y hy e => by
    rcases ok.free y hy e with k | k
    · exact I.ok.has _ (.inl k)
    · exact I.ok.has _ (.inr k)
  refine wpAny_comprehension_free (use := use) rfl hs (closure_ok hfree) ok.kind (fun y hy e => by rw [ok.uniq y hy, e])
    (thn (hi pins s σ H _ I h) fun xv s1 hx => thn hx fun itv s2 h2 => ?_)
  obtain ⟨it, fp, tn, J, H2, e, I2, T, st2, f2, q⟩ := h2
  subst e
  refine wpAny_newObj_type (newEnv_comp ?_) (by show 0 ≤ sizeLine; decide)
  generalize hD : s2.heap.objs.size = D
  have hDn : H2 D = none := I2.hok.fresh (Nat.le_of_eq hD)
  obtain ⟨W, ⟨m0, w0⟩, turn⟩ := q D hDn
  -- the new list
  generalize hs3 : ({ s2 with heap := s2.heap.push { cls := .type "list", data := .seq ([] : List Value).toArray } } : Shared) = s3
  have I3 : Inv X pins σ (upd H2 D (.lst [])) s3 := by
    rw [← hs3]
    refine I2.laid (t' := s2.toks) (fun b o e => Heap.get?_push_of_some _ e) (Nat.le_of_eq hD) ⟨Nat.zero_le _, [], 0, .nil, ?_⟩
    rw [← hD]
    exact Heap.get?_push_size _ rfl
  have h3 : s3.heap = s2.heap.push { cls := .type "list", data := .seq ([] : List Value).toArray } := by rw [← hs3]
  have sz : ∀ b ∈ fp, b < s2.heap.objs.size := fun b hb => by
    obtain ⟨o, e, _⟩ := T.obj _ _ st2 b hb
    exact Heap.lt_size e
  have f3 : ∀ b ∈ fp, FpOk X pins (upd H2 D (.lst [])) b ∧ b < s3.heap.objs.size := fun b hb => by
    have hlt := sz b hb
    refine ⟨⟨?_, (f2 b hb).2⟩, by rw [h3, Heap.size_push]; exact Nat.lt_succ_of_lt hlt⟩
    rw [upd_ne (by rw [← hD]; exact Nat.ne_of_lt hlt)]
    exact (f2 b hb).1
  have st3 : tn 0 s3.heap := T.keep _ _ _ st2 fun b _ o e => by rw [h3]; exact Heap.get?_push_of_some _ e
  have I4 := block_start I3 ok hN f3
  have pg := hg s3 (upd H2 D (.lst [])) s3.heap.objs.size (cellsFrom (s3.heap.objs.size + 1) scope.names (cloFrom X.env.cells scope.names [])) fp
  have pt := ht s3 (upd H2 D (.lst [])) s3.heap.objs.size (cellsFrom (s3.heap.objs.size + 1) scope.names (cloFrom X.env.cells scope.names [])) fp
  have pe := he s3 (upd H2 D (.lst [])) s3.heap.objs.size (cellsFrom (s3.heap.objs.size + 1) scope.names (cloFrom X.env.cells scope.names [])) fp
  show codeAny _ _ (.compStart (.ListComp elt [⟨tg, iter, ifs, 0⟩] scope pos) 0 (.ref it) (.ref D) (compEnvC scope (cellsFrom (s3.heap.objs.size + 1) scope.names (cloFrom X.env.cells scope.names [])) s3.heap.objs.size X.env)) (compPost (model X.prog X.w) X.A X.xe use Qf (.ref D) s3.heap.objs.size) { s3 with heap := pushCells (s3.heap.push { cls := .type "dict", data := .dict #[] }) scope.names }
  have nfp : ∀ b ∈ fp, (upd H2 D (.lst [])) b = none := fun b hb => (f3 b hb).1.1
  generalize hce : compEnvC scope (cellsFrom (s3.heap.objs.size + 1) scope.names (cloFrom X.env.cells scope.names [])) s3.heap.objs.size X.env = ce at I4 pg pt pe ⊢
  have cL : ce.locals = s3.heap.objs.size := by subst hce; rfl
  generalize hH3 : upd H2 D (.lst []) = H3 at I3 I4 pg pt pe w0 nfp f3
  generalize hs4 : ({ s3 with heap := pushCells (s3.heap.push { cls := .type "dict", data := .dict #[] }) scope.names } : Shared) = s4 at I4 ⊢
  have st4 : tn 0 s4.heap := T.keep _ _ _ st3 fun b _ o e => by rw [← hs4]; exact pushCells_keeps _ _ _ _ (Heap.get?_push_of_some _ e)
  have stat : ∀ {σ' : St} {H' : Hp} {s' : Shared}, Inv (X.blk s3 H3 scope ce fp) [] σ' H' s' → (∀ b ∈ fp, H' b = none) → ∀ b ∈ fp, FpOk (X.blk s3 H3 scope ce fp) [] H' b := fun {σ' H' s'} I' hn b hb =>
    ⟨hn b hb, (I'.ok.exf b hb).1, I'.ok.exfs b hb, .inl hb, fun x c e => (I'.ok.exf b hb).2 x c e, fun p hp => absurd (show p ∈ ([] : List (Addr × Obj)) ++ [] from hp) (by simp)⟩
  have loop : codeAny (model X.prog X.w) X.A (.compLoop (.ListComp elt [⟨tg, iter, ifs, 0⟩] scope pos) 0 (.ref it) (.ref D) ce) (compPost (model X.prog X.w) X.A X.xe use Qf (.ref D) s3.heap.objs.size) s4 := by
    refine compLoop_any (fun n s' => ∃ i H', Inv (X.blk s3 H3 scope ce fp) [] (wipe σ (own.map (·.2))) H' s' ∧ tn i s'.heap ∧ (∀ b ∈ fp, H' b = none) ∧ W i n H') ?_ m0 ⟨0, H3, I4, st4, nfp, w0⟩
    rintro n s5 ⟨i, H5, I5, st5, n5, w5⟩
    rcases turn i n H5 w5 with ⟨stop, qq⟩ | ⟨go, Nx, hNx, step⟩
    · have td := T.done (X.blk s3 H3 scope ce fp) rfl rfl rfl hc i [] s5 _ H5 (fun _ _ => False) I5 (stat I5 n5) st5 stop
      refine thnF td fun r s6 ⟨hr, I6⟩ => ?_
      subst hr
      -- back in the def's context
      have I7 : Inv X pins σ H5 s6 := I3.call' (ch := fp) I6.os I6.base I6.hok I6.bare fun b hb => ⟨(f3 b hb).1.2.2.2.1, (f3 b hb).1.2.1, (f3 b hb).1.2.2.2.2.1, (f3 b hb).1.2.2.2.2.2⟩
      have nC : H5 s3.heap.objs.size = none := by
        have z : H5 ce.locals = none := I6.free
        rw [cL] at z
        exact z
      obtain ⟨m, hn, _⟩ := I6.loc
      have hn : s6.heap.Ns ce.locals m := hn
      rw [cL] at hn
      exact hRR D s3.heap.objs.size s6 m H5 I7 qq hn (I3.fpOk (Nat.le_refl _) nC)
    · have ti := T.item (X.blk s3 H3 scope ce fp) rfl rfl rfl hc i [] s5 _ H5 (fun _ _ => False) I5 (stat I5 n5) st5 go
      refine thnF ti fun r s6 ⟨u, hr, h6⟩ => ?_
      subst hr
      refine thnF h6 fun _ s7 ⟨x, H7, I7, r7, y7, st7, n7⟩ => ?_
      have I7' := I7.pinned (stat I7 n7) (T.obj _ _ st7)
      refine thnF (pg _ s7 _ H7 x u _ I7' r7 (step x H7 y7)) fun _ s8 ⟨σ8, H8, I8, hw8, q8⟩ => ?_
      refine thnF (pt _ s8 σ8 H8 _ I8 q8) fun b s9 ⟨H9, I9, q9⟩ => ?_
      -- the turn's end
      have fin : ∀ {s' : Shared} {H' : Hp}, Inv (X.blk s3 H3 scope ce fp) ([] ++ pinsAt fp s7.heap) σ8 H' s' → Nx H' → ∃ m, m < n ∧ ∃ i H', Inv (X.blk s3 H3 scope ce fp) [] (wipe σ (own.map (·.2))) H' s' ∧ tn i s'.heap ∧ (∀ b ∈ fp, H' b = none) ∧ W i m H' := fun {s' H'} I' nx => by
        obtain ⟨m', hm, w'⟩ := hNx H' nx
        have pin' : ∀ b ∈ fp, ∀ o, s7.heap.get? b = some o → s'.heap.get? b = some o ∧ H' b = none := fun b hb o e =>
          let z := I'.pin (b, o) (List.mem_append_right _ (List.mem_append_right _ (mem_pinsAt hb e)))
          ⟨z.1, z.2.1⟩
        have hl : (wipe σ (own.map (·.2))).length = σ8.length := by rw [← hw8, wipe_length]
        refine ⟨m', hm, i + 1, H', (I'.unpinned (pins := [])).weak hl (fun j v e => ?_), T.keep _ _ _ st7 fun b hb o e => (pin' b hb o e).1, fun b hb => ?_, w'⟩
        · rw [← hw8] at e
          exact (wipe_some e).1
        · obtain ⟨o, e, _⟩ := T.obj _ _ st7 b hb
          exact (pin' b hb o e).2
      cases b with
      | false =>
        simp only [Bool.false_eq_true, if_false] at q9 ⊢
        exact fin I9 q9
      | true =>
        simp only [if_true] at q9 ⊢
        refine thnF (pe _ s9 σ8 H9 _ I9 q9) fun z s10 ⟨yv, H10, I10, r10, acc, hD10, hz10, nx⟩ => ?_
        exact app_ok (X := X.blk s3 H3 scope ce fp) I10 hD10 hz10 r10 fun s11 I11 => fin I11 nx
  exact codeAny_compStart_list loop (T.self X.A 0 _ _ _ st4 loop)
theorem pe_lc {elt tg iter : Expr} {ifs : List Expr} {scope : Scope} {own : List (Str × Nat)} {pos : Pos} {wi : TI} {g : TG} {tt : TT} {te : TE} (hc : X.calm = true) (hN : X.N.Nodup) (hi : PI X tg iter wi) (ok : BlkOk X.N X.env.scope scope own)
    (hg : ∀ (s : Shared) (H : Hp) (C : Addr) (cl : List (Str × Addr)) (fp : List Addr), PG (X.blk s H scope (compEnvC scope cl C X.env) fp) tg g) (ht : ∀ (s : Shared) (H : Hp) (C : Addr) (cl : List (Str × Addr)) (fp : List Addr), PTs (X.blk s H scope (compEnvC scope cl C X.env) fp) ifs tt)
    (he : ∀ (s : Shared) (H : Hp) (C : Addr) (cl : List (Str × Addr)) (fp : List Addr), PE (X.blk s H scope (compEnvC scope cl C X.env) fp) elt te) (hs : ∀ x, foldedSetIterable iter X.env x = pure x := by intro _; rfl) :
    PE X (.ListComp elt [⟨tg, iter, ifs, 0⟩] scope pos) (tLc wi g tt te (own.map (·.2))) := by
  intro pins s σ H Q I h
  rw [eval_ListComp]
  refine lc_core hc hN I hi ok hg ht he hs h fun D C s' m H' I' q hn f => ⟨m, hn, fun h'' sb => ?_⟩
  obtain ⟨f0, f1, f2, f3, f4, f5⟩ := f
  exact ⟨.ref D, H', I'.turned (t' := s'.toks) (fun b o hb e => (sb.2 b hb).trans e) f0 f1 f3 f4 f5, rfl, q⟩
theorem ps_setLc {i : Nat} {y : Str} {py : Pos} {elt tg iter : Expr} {ifs : List Expr} {scope : Scope} {own : List (Str × Nat)} {pos spos : Pos} {wi : TI} {g : TG} {tt : TT} {te : TE} (hc : X.calm = true) (hN : X.N.Nodup) (hy : X.N[i]? = some y) (hyl : X.env.scope.names.lookup y = some .local)
    (hsw : swapsWith (.ListComp elt [⟨tg, iter, ifs, 0⟩] scope pos) (some (.Name y py)) spos.line X.env = pure true) (hi : PI X tg iter wi) (ok : BlkOk X.N X.env.scope scope own)
    (hg : ∀ (s : Shared) (H : Hp) (C : Addr) (cl : List (Str × Addr)) (fp : List Addr), PG (X.blk s H scope (compEnvC scope cl C X.env) fp) tg g) (ht : ∀ (s : Shared) (H : Hp) (C : Addr) (cl : List (Str × Addr)) (fp : List Addr), PTs (X.blk s H scope (compEnvC scope cl C X.env) fp) ifs tt)
    (he : ∀ (s : Shared) (H : Hp) (C : Addr) (cl : List (Str × Addr)) (fp : List Addr), PE (X.blk s H scope (compEnvC scope cl C X.env) fp) elt te) (hs : ∀ x, foldedSetIterable iter X.env x = pure x := by intro _; rfl) :
    PS X (.Assign [.Name y py] (.ListComp elt [⟨tg, iter, ifs, 0⟩] scope pos) spos) (tAsg (tLc wi g tt te (own.map (·.2))) (gName i)) := by
  intro pins s σ H D I h
  rw [exec_Assign_Name_used _ _ _ _ hsw]
  refine wpAny_bind (wpAny_standAt (wpAny_bind ?_))
  show wpAny _ X.A (do let _ ← comprehension (.ListComp elt [⟨tg, iter, ifs, 0⟩] scope pos) scope X.env (firstIterPos [⟨tg, iter, ifs, 0⟩] pos) (newList []) false (eval iter X.env) (some (assign (.Name y py) X.env))) _ _ s
  have h : tLc wi g tt te (own.map (·.2)) σ H (fun x H1 => gName i x σ H1 D.nx) := h
  refine wpAny_bind (thn (lc_core (Qf := fun _ s' => SP X pins D .next s') hc hN I hi ok hg ht he hs h fun L C s' m H' I' q hn f => ?_) fun _ s' hq => wpAny_pure (wpAny_pure hq))
  show wpAny _ _ (assign (.Name y py) X.env (.ref L)) _ _ _
  refine wpAny_assign_Name (store_ok2 (v := V.ref L) I' hN hy (.inl hyl) rfl (fun s2 I2 ⟨a, sb, ha⟩ => ?_) (.inr hyl))
  obtain ⟨f0, f1, f2, f3, f4, f5⟩ := f
  have haC : C ≠ a := by
    rcases ha with z | z
    · rw [z]; exact f1
    · exact fun e => f4 y a z e.symm
  refine ⟨m, hn.sameBut sb haC, fun h3 sb3 => ?_⟩
  exact ⟨_, H', I2.turned (t' := s2.toks) (fun b o hb e => (sb3.2 b hb).trans e) f0 f1 f3 f4 f5, q⟩
theorem sw_true {elt : Expr} {gs : List Comprehension} {scope : Scope} {pos py : Pos} {y : Str} {l : Nat} {env : Env} (hk : env.scope.kind = .function) (hy : env.scope.names.lookup y = some .local) (hl : (py.line == pos.line) = true)
    (ha : (scope.names.any fun (n, k) => n == y && (k == .local || k == .cell)) = false) : swapsWith (.ListComp elt gs scope pos) (some (.Name y py)) l env = pure true := by
  have ky : env.kindOf y = some .local := hy
  have hb : env.blockKind = .function := by unfold Env.blockKind; rw [hk]; rfl
  unfold swapsWith
  simp only [hb, ky, ha, Expr.pos, hl]
  rfl
end
theorem lc_range {lo : Int} {n : Nat} {g : TG} {tt : TT} {te : TE} {vs : List Nat} {σ : St} {H1 : Hp} {D : Addr} {Qd : Hp → Prop} (Pv : Nat → Hp → Prop) (h0 : Pv 0 (upd H1 D (.lst [])))
    (hs : ∀ i H, i < n → Pv i H → g (.int (lo + i)) (wipe σ vs) H fun σ2 H2 => wipe σ2 vs = wipe σ vs ∧ tt σ2 H2 fun b H3 =>
      if b = true then te σ2 H3 fun y H4 => ∃ acc, H4 D = some (.lst acc) ∧ acc.length < sizeLine ∧ Pv (i + 1) (upd H4 D (.lst (acc ++ [y]))) else Pv (i + 1) H3) (hd : ∀ H, Pv n H → Qd H) :
    ∃ W : Nat → Nat → Hp → Prop, (∃ m, W 0 m (upd H1 D (.lst []))) ∧ ∀ i m H, W i m H →
      ((Itr lo n).stop i H ∧ Qd H) ∨ ((Itr lo n).go i H ∧ ∃ Nx : Hp → Prop, (∀ H', Nx H' → ∃ m', m' < m ∧ W (i + 1) m' H') ∧ ∀ x H', (Itr lo n).yld i H x H' → g x (wipe σ vs) H' fun σ2 H2 => wipe σ2 vs = wipe σ vs ∧ tt σ2 H2 fun b H3 =>
        if b = true then te σ2 H3 fun y H4 => ∃ acc, H4 D = some (.lst acc) ∧ acc.length < sizeLine ∧ Nx (upd H4 D (.lst (acc ++ [y]))) else Nx H3) := by
  refine ⟨fun i m H => m = n - i ∧ i ≤ n ∧ Pv i H, ⟨n, by simp, Nat.zero_le _, h0⟩, ?_⟩
  rintro i m H ⟨rfl, hi, p⟩
  by_cases hlt : i < n
  · refine .inr ⟨hlt, Pv (i + 1), fun H' p' => ⟨n - (i + 1), by omega, rfl, hlt, p'⟩, fun x H' y => ?_⟩
    obtain ⟨e, y⟩ := y
    subst e y
    exact hs i _ hlt p
  · have e : i = n := by omega
    subst e
    exact .inl ⟨Nat.le_refl _, hd H p⟩
theorem lc_list {K : PySem.W.Frag} {a : Addr} {xs : List V} {g : TG} {tt : TT} {te : TE} {vs : List Nat} {σ : St} {H1 : Hp} {D : Addr} {Qd : Hp → Prop} (Pv : Nat → Hp → Prop) (h0 : Pv 0 (upd H1 D (.lst []))) (hl : ∀ i H, i ≤ xs.length → Pv i H → SqL K H a xs)
    (hs : ∀ i x H, xs[i]? = some x → Pv i H → g x (wipe σ vs) H fun σ2 H2 => wipe σ2 vs = wipe σ vs ∧ tt σ2 H2 fun b H3 =>
      if b = true then te σ2 H3 fun y H4 => ∃ acc, H4 D = some (.lst acc) ∧ acc.length < sizeLine ∧ Pv (i + 1) (upd H4 D (.lst (acc ++ [y]))) else Pv (i + 1) H3) (hd : ∀ H, Pv xs.length H → Qd H) :
    ∃ W : Nat → Nat → Hp → Prop, (∃ m, W 0 m (upd H1 D (.lst []))) ∧ ∀ i m H, W i m H →
      ((Itl K a).stop i H ∧ Qd H) ∨ ((Itl K a).go i H ∧ ∃ Nx : Hp → Prop, (∀ H', Nx H' → ∃ m', m' < m ∧ W (i + 1) m' H') ∧ ∀ x H', (Itl K a).yld i H x H' → g x (wipe σ vs) H' fun σ2 H2 => wipe σ2 vs = wipe σ vs ∧ tt σ2 H2 fun b H3 =>
        if b = true then te σ2 H3 fun y H4 => ∃ acc, H4 D = some (.lst acc) ∧ acc.length < sizeLine ∧ Nx (upd H4 D (.lst (acc ++ [y]))) else Nx H3) := by
  refine ⟨fun i m H => m = xs.length - i ∧ i ≤ xs.length ∧ Pv i H, ⟨xs.length, by simp, Nat.zero_le _, h0⟩, ?_⟩
  rintro i m H ⟨rfl, hi, p⟩
  have q := hl i H hi p
  by_cases hlt : i < xs.length
  · refine .inr ⟨⟨xs, xs[i], q, by simp [hlt]⟩, Pv (i + 1), fun H' p' => ⟨xs.length - (i + 1), by omega, rfl, hlt, p'⟩, fun x H' y => ?_⟩
    obtain ⟨e, y⟩ := y
    subst e
    exact hs i x _ (y xs q) p
  · have e : i = xs.length := by omega
    subst e
    exact .inl ⟨⟨xs, q, Nat.le_refl _⟩, hd H p⟩
def blkC (N : List Str) (sc scope : Scope) (own : List (Str × Nat)) : Bool :=
  (match scope.kind with | .function => true | _ => false) && (scope.names.all fun y => decide (scope.names.lookup y.1 = some y.2)) && (own.all fun p => decide (N[p.2]? = some p.1)) &&
    (scope.names.all fun y => match y.2 with
      | .free => (match sc.names.lookup y.1 with | some .cell => true | some .free => true | _ => false)
      | .local => decide (y.1 ∈ own.map (·.1)) || decide (y.1 ∉ N)
      | .cell => decide (y.1 ∈ own.map (·.1)) || decide (y.1 ∉ N)
      | _ => true)
theorem blkOk_by {N : List Str} {sc scope : Scope} {own : List (Str × Nat)} (h : blkC N sc scope own = true) : BlkOk N sc scope own := by
  unfold blkC at h
  simp only [Bool.and_eq_true, List.all_eq_true, decide_eq_true_eq] at h
  obtain ⟨⟨⟨h1, h2⟩, h3⟩, h4⟩ := h
  refine ⟨?_, h2, h3, fun y hy e => ?_, fun y hy e => ?_⟩
  · split at h1
    · assumption
    · cases h1
  · have q := h4 y hy
    simp only [e] at q
    split at q <;> first | exact .inl (by assumption) | exact .inr (by assumption) | cases q
  · have q := h4 y hy
    rcases e with e | e <;> (simp only [e, Bool.or_eq_true, decide_eq_true_eq] at q; exact q)
end L2
namespace L2
open PySem PySem.Spec PyProof.Rows
section
variable {prog : Program} {w : World} {A : Around} {R : Result → Shared → Prop} {s : Shared} {elt t0 i0 t1 i1 : Expr} {ifs0 ifs1 : List Expr} {scope : Scope} {pos : Pos} {it acc : Value} {env : Env}
end
section
variable {X : Cx}
end
end L2
namespace L2
open PySem PySem.Spec PyProof.Rows
section
variable {κ : Type} [DecidableEq κ]
def valV (kvs : List (κ × V)) (k : κ) : Option V := (kvs.find? fun kv => decide (kv.1 = k)).map (·.2)
def putK (kvs : List (κ × V)) (k : κ) (v : V) : List (κ × V) :=
  if (kvs.any fun kv => decide (kv.1 = k)) = true then kvs.map (fun kv => if kv.1 = k then (kv.1, v) else kv) else kvs ++ [(k, v)]
theorem valV_nil {k : κ} : valV ([] : List (κ × V)) k = none := rfl
theorem valV_pos {p : κ × V} {r : List (κ × V)} {k : κ} (e : p.1 = k) : valV (p :: r) k = some p.2 := by simp [valV, List.find?_cons, e]
theorem valV_neg {p : κ × V} {r : List (κ × V)} {k : κ} (e : ¬ p.1 = k) : valV (p :: r) k = valV r k := by simp [valV, List.find?_cons, e]
theorem valV_any (k : κ) : ∀ kvs : List (κ × V), (kvs.any fun kv => decide (kv.1 = k)) = (valV kvs k).isSome
  | [] => rfl
  | p :: r => by
    rw [List.any_cons]
    by_cases e : p.1 = k
    · simp only [valV_pos e, decide_eq_true e, Bool.true_or, Option.isSome_some]
    · rw [valV_neg e, decide_eq_false e, Bool.false_or]; exact valV_any k r
theorem valV_snoc (k j : κ) (y : V) : ∀ kvs : List (κ × V), valV kvs k = none → valV (kvs ++ [(k, y)]) j = if j = k then some y else valV kvs j
  | [], _ => by
    by_cases e : k = j
    · rw [if_pos e.symm]; exact valV_pos (p := (k, y)) e
    · rw [if_neg (fun z => e z.symm)]; exact valV_neg (p := (k, y)) e
  | p :: r, hn => by
    rw [List.cons_append]
    have hk : ¬ p.1 = k := fun z => by rw [valV_pos z] at hn; cases hn
    rw [valV_neg hk] at hn
    have ih := valV_snoc k j y r hn
    by_cases e : p.1 = j
    · rw [valV_pos e, valV_pos e, if_neg (fun z => hk (e.trans z))]
    · rw [valV_neg e, valV_neg e, ih]
theorem length_putK (kvs : List (κ × V)) (k : κ) (v : V) : (putK kvs k v).length ≤ kvs.length + 1 := by
  unfold putK
  split
  · rw [List.length_map]; omega
  · rw [List.length_append, List.length_cons, List.length_nil]; omega
theorem putK_new {kvs : List (κ × V)} {k : κ} (v : V) (h : valV kvs k = none) : putK kvs k v = kvs ++ [(k, v)] := by
  unfold putK
  rw [valV_any, h]
  exact if_neg (by decide)
theorem RelO.isSome_eq {o : Option V} {u : Option Value} (r : RelO o u) : o.isSome = u.isSome := by
  cases o with
  | none => cases u with
    | none => rfl
    | some _ => exact (show False from r).elim
  | some _ => cases u with
    | none => exact (show False from r).elim
    | some _ => rfl
theorem KV.val {kvs : List (κ × V)} {vs : List (κ × Value)} (r : KV kvs vs) (k : κ) : RelO (valV kvs k) (valueAt vs k) := by
  unfold KV at r
  induction r with
  | nil => exact True.intro
  | @cons p q ps qs h t ih =>
    obtain ⟨h1, h2⟩ := h
    by_cases e : p.1 = k
    · have e' : q.1 = k := h1.symm.trans e
      have b : valueAt (q :: qs) k = some q.2 := by simp [valueAt, List.find?_cons, e']
      rw [valV_pos e, b]; exact h2
    · have e' : ¬ q.1 = k := fun z => e (h1.trans z)
      have b : valueAt (q :: qs) k = valueAt qs k := by simp [valueAt, List.find?_cons, e']
      rw [valV_neg e, b]; exact ih
theorem KV.any {kvs : List (κ × V)} {vs : List (κ × Value)} (r : KV kvs vs) (k : κ) : (kvs.any fun kv => decide (kv.1 = k)) = vs.any fun kv => decide (kv.1 = k) := by
  unfold KV at r
  induction r with
  | nil => rfl
  | cons h t ih => rw [List.any_cons, List.any_cons, ih, h.1]
theorem KV.repl {kvs : List (κ × V)} {vs : List (κ × Value)} (r : KV kvs vs) (k : κ) {y : V} {u : Value} (ry : RelV y u) :
    KV (kvs.map fun kv => if kv.1 = k then (kv.1, y) else kv) (vs.map fun kv => if kv.1 = k then (kv.1, u) else kv) := by
  unfold KV at r ⊢
  induction r with
  | nil => exact .nil
  | @cons p q ps qs h t ih =>
    rw [List.map_cons, List.map_cons]
    refine .cons ?_ ih
    obtain ⟨h1, h2⟩ := h
    by_cases e : p.1 = k
    · rw [if_pos e, if_pos (h1.symm.trans e)]; exact ⟨h1, ry⟩
    · rw [if_neg e, if_neg (fun z => e (h1.trans z))]; exact ⟨h1, h2⟩
theorem KV.put {kvs : List (κ × V)} {vs : List (κ × Value)} (r : KV kvs vs) (k : κ) {y : V} {u : Value} (ry : RelV y u) : KV (putK kvs k y) (stored vs k u) := by
  unfold putK stored
  rw [r.any k]
  by_cases e : (vs.any fun kv => decide (kv.1 = k)) = true
  · rw [if_pos e, if_pos e]; exact r.repl k ry
  · rw [if_neg e, if_neg e]; exact Paired.snoc r ⟨rfl, ry⟩
theorem KV.length {kvs : List (κ × V)} {vs : List (κ × Value)} (r : KV kvs vs) : kvs.length = vs.length := Paired.length r
end
theorem kV_is {P : Program} {w : World} {k : Key} {u : Value} (r : RelV (kV k) u) : (mixKind P w).is k u = true := by
  cases k with
  | inl i => obtain ⟨t, e⟩ := (show ∃ t, u = Value.int i t from r); subst e; exact mixKind_int P w i t
  | inr x => obtain ⟨t, e⟩ := (show ∃ t, u = Value.str x t from r); subst e; exact mixKind_str P w x t
theorem items_are {P : Program} {w : World} : ∀ {ks : List Key} {us : List Value}, Vals (ks.map kV) us → ItemsAre (mixKind P w) ks us
  | [], _, r => by rw [List.map_nil] at r; cases r; exact .nil
  | k :: ks, _, r => by
    rw [List.map_cons] at r
    cases r with
    | cons h t => exact .cons (kV_is h) (items_are t)
abbrev KT (H : Hp) : List (List Key × V) → List (List Key × Addr × Value) → Prop := Paired fun p q => p.1 = q.1 ∧ H q.2.1 = some (.tup (p.1.map kV)) ∧ RelV p.2 q.2.2
theorem KT.val {H : Hp} {kvs : List (List Key × V)} {xs : List (List Key × Addr × Value)} (r : KT H kvs xs) (k : List Key) : RelO (valV kvs k) ((atKey xs k).map (·.2)) := by
  induction r with
  | nil => exact True.intro
  | @cons p q ps qs h t ih =>
    obtain ⟨h1, _, h2⟩ := h
    by_cases e : p.1 = k
    · have e' : q.1 = k := h1.symm.trans e
      have b : atKey (q :: qs) k = some q.2 := by simp [atKey, List.find?_cons, e']
      rw [valV_pos e, b]; exact h2
    · have e' : ¬ q.1 = k := fun z => e (h1.trans z)
      have b : atKey (q :: qs) k = atKey qs k := by simp [atKey, List.find?_cons, e']
      rw [valV_neg e, b]; exact ih
theorem KT.repl {H : Hp} {kvs : List (List Key × V)} {xs : List (List Key × Addr × Value)} (r : KT H kvs xs) (k : List Key) {y : V} {u : Value} (ry : RelV y u) :
    KT H (kvs.map fun kv => if kv.1 = k then (kv.1, y) else kv) (xs.map (putAt k u)) := by
  induction r with
  | nil => exact .nil
  | @cons p q ps qs h t ih =>
    rw [List.map_cons, List.map_cons]
    refine .cons ?_ ih
    obtain ⟨h1, h2, h3⟩ := h
    unfold putAt
    by_cases e : p.1 = k
    · rw [if_pos e, if_pos (h1.symm.trans e)]; exact ⟨h1, h2, ry⟩
    · rw [if_neg e, if_neg (fun z => e (h1.trans z))]; exact ⟨h1, h2, h3⟩
theorem KT.put {H : Hp} {kvs : List (List Key × V)} {xs : List (List Key × Addr × Value)} (r : KT H kvs xs) (k : List Key) {b : Addr} {y : V} {u : Value} (hb : H b = some (.tup (k.map kV))) (ry : RelV y u) :
    KT H (putK kvs k y) (storedH xs k b u) := by
  have e : (kvs.any fun kv => decide (kv.1 = k)) = (atKey xs k).isSome := by
    rw [valV_any, (r.val k).isSome_eq, Option.isSome_map]
  unfold putK storedH
  rw [e]
  by_cases q : (atKey xs k).isSome = true
  · rw [if_pos q, if_pos q]; exact r.repl k ry
  · rw [if_neg q, if_neg q]; exact Paired.snoc r ⟨rfl, hb, ry⟩
theorem KT.keeps {H H' : Hp} {kvs : List (List Key × V)} {xs : List (List Key × Addr × Value)} (r : KT H kvs xs) (ht : ∀ b ys, H b = some (.tup ys) → H' b = some (.tup ys)) : KT H' kvs xs :=
  Paired.mapP r fun _ _ z => ⟨z.1, ht _ _ z.2.1, z.2.2⟩
section
variable {P : Program} {w : World} {H : Hp} {h : Heap} {a : Addr}
theorem rd_of {u : HO} (ok : HOk P w H h) (e : Rd H a u) : ObjOk P w H h a u := e.ok ok
theorem dk_rd {kvs : List (Key × V)} (ok : HOk P w H h) (e : Rd H a (.dK kvs)) : kvs.length ≤ sizeLine ∧ (a == sysModules) = false ∧ ∃ vs, KV kvs vs ∧ h.DictOf (mixKind P w) a vs :=
  show ObjOk P w H h a (.dK kvs) from rd_of ok e
theorem dk_of {kvs : List (Key × V)} (ok : HOk P w H h) (e : H a = some (.dK kvs)) : kvs.length ≤ sizeLine ∧ (a == sysModules) = false ∧ ∃ vs, KV kvs vs ∧ h.DictOf (mixKind P w) a vs := dk_rd ok (.inl e)
theorem key_of {ks : List Key} (ok : HOk P w H h) (e : H a = some (.tup (ks.map kV))) : (tupleKind (mixKind P w)).is h ks a := by
  obtain ⟨_, its, r, o, h1, h2, n, h3⟩ := (show ObjOk P w H h a (.tup (ks.map kV)) from ok a _ e)
  exact ⟨o, its.toArray, n, h1, h2, h3, by simpa using items_are r⟩
theorem dt_rd {kvs : List (List Key × V)} (ok : HOk P w H h) (e : Rd H a (.dT kvs)) : kvs.length ≤ sizeLine ∧ (a == sysModules) = false ∧
    ∃ xs, KT H kvs xs ∧ h.DictOfH (tupleKind (mixKind P w)) a xs := by
  obtain ⟨z, y, xs, r, o, es, ep, h1, h2, h3, h4, h5⟩ := (show ObjOk P w H h a (.dT kvs) from rd_of ok e)
  refine ⟨z, y, xs, r, o, es, ep, h1, h2, h3, h4, fun x hx => ?_, h5⟩
  have all : ∀ {l : List (List Key × V)} {m : List (List Key × Addr × Value)}, KT H l m → ∀ x ∈ m, (tupleKind (mixKind P w)).is h x.1 x.2.1 := by
    intro l m q
    induction q with
    | nil => intro x hx; exact nomatch hx
    | @cons p q ps qs hq t ih =>
      intro x hx
      rcases List.mem_cons.mp hx with e | hx
      · subst e
        exact key_of ok (by rw [← hq.1]; exact hq.2.1)
      · exact ih x hx
  exact all r x hx
theorem dt_of {kvs : List (List Key × V)} (ok : HOk P w H h) (e : H a = some (.dT kvs)) : kvs.length ≤ sizeLine ∧ (a == sysModules) = false ∧
    ∃ xs, KT H kvs xs ∧ h.DictOfH (tupleKind (mixKind P w)) a xs := dt_rd ok (.inl e)
end
def DGet (H : Hp) (a : Addr) (y : V) (r : Option V) : Prop :=
  (∃ kvs k, Rd H a (.dK kvs) ∧ y = kV k ∧ r = valV kvs k) ∨ ∃ kvs k b, Rd H a (.dT kvs) ∧ y = .ref b ∧ H b = some (.tup (k.map kV)) ∧ r = valV kvs k
def DPut (H : Hp) (a : Addr) (y v : V) (H' : Hp) : Prop :=
  (∃ kvs k, H a = some (.dK kvs) ∧ y = kV k ∧ kvs.length < sizeLine ∧ H' = upd H a (.dK (putK kvs k v))) ∨
  ∃ kvs k b, H a = some (.dT kvs) ∧ y = .ref b ∧ H b = some (.tup (k.map kV)) ∧ kvs.length < sizeLine ∧ H' = upd H a (.dT (putK kvs k v))
theorem DGet.k {H : Hp} {a : Addr} {kvs : List (Key × V)} {k : Key} (e : H a = some (.dK kvs)) : DGet H a (kV k) (valV kvs k) := .inl ⟨kvs, k, .inl e, rfl, rfl⟩
theorem DPut.k {H : Hp} {a : Addr} {kvs : List (Key × V)} {k : Key} {v : V} (e : H a = some (.dK kvs)) (hl : kvs.length < sizeLine) : DPut H a (kV k) v (upd H a (.dK (putK kvs k v))) := .inl ⟨kvs, k, e, rfl, hl, rfl⟩
section
variable {X : Cx} {pins : List (Addr × Obj)} {σ : St} {H : Hp} {s : Shared} {a : Addr} {y v : V} {u r : Value} {o : Option V} {A : Around} {E : Value → Shared → Prop}
theorem Inv.big (I : Inv X pins σ H s) : sysModules < s.heap.objs.size := by
  have h : mainGlobals < s.heap.objs.size := (I.mod.glob.keeps I.bk).lt
  exact Nat.lt_trans (by decide) h
theorem d_getItem {Q : Value → Shared → Prop} (hu : A.units + 1 < cLine) (I : Inv X pins σ H s) (g : DGet H a y (some v)) (ry : RelV y u) (h : ∀ w' s', Inv X pins σ H s' → RelV v w' → Q w' s') :
    wpAny (model X.prog X.w) A (getItem (.ref a) u) Q E s := by
  rcases g with ⟨kvs, k, e, ey, l⟩ | ⟨kvs, k, b, e, ey, eb, l⟩
  · subst ey
    obtain ⟨z, hd, vs, rel, dd⟩ := dk_rd I.hok e
    obtain ⟨w', hw, rw'⟩ := RelO.some_of (v := v) (o := valueAt vs k) (by rw [l]; exact rel.val k)
    exact wpAny_getItem_of (kV_is ry) dd.mapOf hw (h w' _ (I.tok _) rw')
  · subst ey
    cases (show u = Value.ref b from ry)
    obtain ⟨z, hd, xs, rel, dd⟩ := dt_rd I.hok e
    obtain ⟨w', hw, rw'⟩ := RelO.some_of (v := v) (o := (atKey xs k).map (·.2)) (by rw [l]; exact rel.val k)
    obtain ⟨p, hp, hp2⟩ := Option.map_eq_some_iff.mp hw
    refine wpAny_getItem_heap (tupleKind_room_in1 hu) (key_of I.hok eb) dd hp ?_
    rw [hp2]
    exact h w' _ (I.tok _) rw'
theorem d_in {Q : Value → Shared → Prop} (hu : A.units + 1 < cLine) (I : Inv X pins σ H s) (g : DGet H a y o) (ry : RelV y u) (h : ∀ s', Inv X pins σ H s' → Q (.bool o.isSome) s') :
    wpAny (model X.prog X.w) A (compareOp .In u (.ref a)) Q E s := by
  rcases g with ⟨kvs, k, e, ey, l⟩ | ⟨kvs, k, b, e, ey, eb, l⟩
  · subst ey
    obtain ⟨z, hd, vs, rel, dd⟩ := dk_rd I.hok e
    refine wpAny_in_of (kV_is ry) hd dd.mapOf ?_
    rw [← (rel.val k).isSome_eq, ← l]
    exact h _ (I.tok _)
  · subst ey
    cases (show u = Value.ref b from ry)
    obtain ⟨z, hd, xs, rel, dd⟩ := dt_rd I.hok e
    refine wpAny_in_heap (tupleKind_room_in1 hu) (key_of I.hok eb) hd dd ?_
    have q := (rel.val k).isSome_eq
    rw [Option.isSome_map] at q
    rw [← q, ← l]
    exact h _ (I.tok _)
theorem d_notIn {Q : Value → Shared → Prop} (hu : A.units + 1 < cLine) (I : Inv X pins σ H s) (g : DGet H a y o) (ry : RelV y u) (h : ∀ s', Inv X pins σ H s' → Q (.bool (!o.isSome)) s') :
    wpAny (model X.prog X.w) A (compareOp .NotIn u (.ref a)) Q E s := by
  rcases g with ⟨kvs, k, e, ey, l⟩ | ⟨kvs, k, b, e, ey, eb, l⟩
  · subst ey
    obtain ⟨z, hd, vs, rel, dd⟩ := dk_rd I.hok e
    refine wpAny_notIn_of (kV_is ry) hd dd.mapOf ?_
    rw [← (rel.val k).isSome_eq, ← l]
    exact h _ (I.tok _)
  · subst ey
    cases (show u = Value.ref b from ry)
    obtain ⟨z, hd, xs, rel, dd⟩ := dt_rd I.hok e
    refine wpAny_notIn_heap (tupleKind_room_in1 hu) (key_of I.hok eb) hd dd ?_
    have q := (rel.val k).isSome_eq
    rw [Option.isSome_map] at q
    rw [← q, ← l]
    exact h _ (I.tok _)
theorem d_write {h' : Heap} {t' : Nat} {ob : HO} (I : Inv X pins σ H s) (mu : Mut (H a)) (hs : Heap.SameBut a s.heap h') (he : ∃ q, h'.get? a = some q) (new : ObjOk X.prog X.w (upd H a ob) h' a ob) :
    Inv X pins σ (upd H a ob) { s with heap := h', toks := t' } :=
  I.write (x := a) (e := a) mu (.inl rfl) (fun b q hb z => (hs.2 b hb).trans z) he new
theorem dk_new {P : Program} {w : World} {H' : Hp} {h' : Heap} {kvs : List (Key × V)} {vs : List (Key × Value)} (z : kvs.length ≤ sizeLine) (hd : (a == sysModules) = false) (rel : KV kvs vs) (dd : h'.DictOf (mixKind P w) a vs) :
    ObjOk P w H' h' a (.dK kvs) := ⟨z, hd, vs, rel, dd⟩
theorem d_setItem {H' : Hp} {Q : Unit → Shared → Prop} (hu : A.units + 1 < cLine) (I : Inv X pins σ H s) (g : DPut H a y v H') (ry : RelV y u) (rv : RelV v r) (h : ∀ s', Inv X pins σ H' s' → Q () s') :
    wpAny (model X.prog X.w) A (setItem (.ref a) u r) Q E s := by
  rcases g with ⟨kvs, k, e, ey, l, eH⟩ | ⟨kvs, k, b, e, ey, eb, l, eH⟩
  · subst ey eH
    obtain ⟨z, hd, vs, rel, dd⟩ := dk_of I.hok e
    have hz : vs.length ≤ sizeLine := by rw [← rel.length]; exact z
    have hl : (putK kvs k v).length ≤ sizeLine := by have := length_putK kvs k v; omega
    refine wpAny_setItem_pairs (hsz := hz) (kV_is ry) dd fun h' dd' hs => h _ ?_
    have he : ∃ q, h'.get? a = some q := let ⟨q, _, _, hq, _⟩ := dd'; ⟨q, hq⟩
    exact d_write I (by rw [e]; exact True.intro) hs he (dk_new hl hd (rel.put k rv) dd')
  · subst ey eH
    cases (show u = Value.ref b from ry)
    obtain ⟨z, hd, xs, rel, dd⟩ := dt_of I.hok e
    have hz : xs.length ≤ sizeLine := by rw [← Paired.length rel]; exact z
    have hl : (putK kvs k v).length ≤ sizeLine := by have := length_putK kvs k v; omega
    refine wpAny_setItem_heap (hsz := hz) (tupleKind_room_in1 hu) (key_of I.hok eb) dd fun h' dd' hs => h _ ?_
    obtain ⟨q, es, ep, hq, h2, h3, h4, _, h5⟩ := dd'
    refine d_write I (by rw [e]; exact True.intro) hs ⟨q, hq⟩ ⟨hl, hd, _, (rel.put k eb rv).keeps fun c ys ec => ?_, q, es, ep, hq, h2, h3, h4, h5⟩
    rw [upd_ne (ne_of ec e (fun z => nomatch z))]
    exact ec
end
section
variable {X : Cx} {pins : List (Addr × Obj)} {σ : St} {H : Hp} {s : Shared} {a : Addr} {kvs : List (Key × V)} {k : Key} {u : Value} {A : Around} {E : Value → Shared → Prop}
end
def NoSl (i : Expr) : Prop := ∀ ov iv, subscripted i false ov iv = operate [ov, iv] (getItem ov iv)
theorem subD_of {prog : Program} {w : World} {A : Around} {E : Value → Shared → Prop} {s : Shared} {env : Env} {value slice : Expr} {pos : Pos} {T id : String} {Q : Value → Shared → Prop}
    (hl : typeLookup (.type T) "__getitem__" = pure (some (.builtin id))) (hs : NoSl slice)
    (h : wpAny (model prog w) A (eval value env) (fun o s₁ => wpAny (model prog w) A (eval slice env) (fun i s₂ => s₂.TypeIs o T ∧ wpAny (model prog w) A (getItem o i) Q E s₂) E s₁) E s) :
    wpAny (model prog w) A (eval (.Subscript value slice pos) env) Q E s := by
  refine Subscript_ (wpAny_mono h (fun o s₁ h₁ => wpAny_mono h₁ (fun i s₂ h₂ => ?_) fun _ _ x => x) fun _ _ x => x)
  obtain ⟨hT, h₂⟩ := h₂
  unfold subscriptTail
  refine wpAny_bind ?_
  rw [getitemInPython_of_ne hT.not_modules]
  refine wpAny_bind (wpAny_specialOf hT hl ?_)
  have fin : wpAny (model prog w) A (subscripted slice false o i) (fun r s₃ => wpAny (model prog w) A (letTemporaryGo value o r >>= fun _ => pure r) Q E s₃) E s₂ := by
    rw [hs o i]
    exact wpAny_operating (wpAny_mono h₂ (fun r s₃ h₃ => wpAny_bind (wpAny_letTemporaryGo (wpAny_pure h₃))) fun _ _ x => x)
  first
    | exact wpAny_pure (wpAny_bind fin)
    | exact wpAny_bind (wpAny_pure (wpAny_bind fin))
    | exact wpAny_bind fin
theorem dict_typeIs {X : Cx} {pins : List (Addr × Obj)} {σ : St} {H : Hp} {s : Shared} {a : Addr} {y : V} {o : Option V} (I : Inv X pins σ H s) (g : DGet H a y o) : s.TypeIs (.ref a) "dict" := by
  rcases g with ⟨kvs, k, e, _, _⟩ | ⟨kvs, k, b, e, _, _, _⟩
  · obtain ⟨_, _, vs, _, dd⟩ := dk_rd I.hok e
    exact dd.typeIs
  · obtain ⟨_, _, xs, _, dd⟩ := dt_rd I.hok e
    exact dd.typeIs
def tDGet (td ty : TE) : TE := fun σ H Q => td σ H fun x H1 => ty σ H1 fun y H2 => ∃ a v, x = .ref a ∧ DGet H2 a y (some v) ∧ Q v H2
def tDIn (ty td : TE) : TE := fun σ H Q => ty σ H fun y H1 => td σ H1 fun x H2 => ∃ a o, x = .ref a ∧ DGet H2 a y o ∧ Q (.bl o.isSome) H2
def tDNotIn (ty td : TE) : TE := fun σ H Q => ty σ H fun y H1 => td σ H1 fun x H2 => ∃ a o, x = .ref a ∧ DGet H2 a y o ∧ Q (.bl (!o.isSome)) H2
def sDPut (td ty tv : TE) : TS := fun D σ H => tv σ H fun v H1 => td σ H1 fun x H2 => ty σ H2 fun y H3 => ∃ a H4, x = .ref a ∧ DPut H3 a y v H4 ∧ D.nx σ H4
section
variable {X : Cx} {o i e value : Expr} {pos pos' tpos : Pos} {td ty tv : TE}
theorem pe_dget (hu : X.A.units + 1 < cLine) (ho : PE X o td) (hi : PE X i ty) (hs : NoSl i) : PE X (.Subscript o i pos) (tDGet td ty) := by
  intro pins s σ H Q I h
  refine subD_of PySem.F.slot_dict_getitem.lookup hs (thn (ho pins s σ H _ I h) fun u s1 ⟨x, H1, I1, rx, q1⟩ => thn (hi pins s1 σ H1 _ I1 q1) fun iv s2 ⟨y, H2, I2, ry, a, v, ex, g, q2⟩ => ?_)
  subst ex
  obtain rfl : u = Value.ref a := rx
  exact ⟨dict_typeIs I2 g, d_getItem hu I2 g ry fun w' s3 I3 rw' => ⟨v, H2, I3, rw', q2⟩⟩
theorem pc_din (hu : X.A.units + 1 < cLine) (hi : PE X i ty) (ho : PE X o td) : PC X .In i o (tDIn ty td) := by
  intro pins s σ H Q I h
  refine thn (hi pins s σ H _ I h) fun iv s1 ⟨y, H1, I1, ry, q1⟩ => thn (ho pins s1 σ H1 _ I1 q1) fun u s2 ⟨x, H2, I2, rx, a, ov, ex, g, q2⟩ => ?_
  subst ex
  obtain rfl : u = Value.ref a := rx
  exact d_in hu I2 g ry fun s3 I3 => ⟨.bl ov.isSome, H2, I3, rfl, q2⟩
theorem pc_dnotin (hu : X.A.units + 1 < cLine) (hi : PE X i ty) (ho : PE X o td) : PC X .NotIn i o (tDNotIn ty td) := by
  intro pins s σ H Q I h
  refine thn (hi pins s σ H _ I h) fun iv s1 ⟨y, H1, I1, ry, q1⟩ => thn (ho pins s1 σ H1 _ I1 q1) fun u s2 ⟨x, H2, I2, rx, a, ov, ex, g, q2⟩ => ?_
  subst ex
  obtain rfl : u = Value.ref a := rx
  exact d_notIn hu I2 g ry fun s3 I3 => ⟨.bl (!ov.isSome), H2, I3, rfl, q2⟩
theorem ps_dput (hu : X.A.units + 1 < cLine) (ho : PE X o td) (hi : PE X i ty) (hv : PE X value tv) (hs : swapsWith value (some (.Subscript o i pos')) pos.line X.env = pure false) :
    PS X (.Assign [.Subscript o i pos'] value pos) (sDPut td ty tv) := by
  intro pins s σ H D I h
  refine wpAny_Assign_Subscript (thn (hv pins s σ H _ I h) fun r s1 ⟨v, H1, I1, rv, q1⟩ => thn (ho pins s1 σ H1 _ I1 q1) fun u s2 ⟨x, H2, I2, rx, q2⟩ => thn (hi pins s2 σ H2 _ I2 q2) fun iv s3 ⟨y, H3, I3, ry, a, H4, ex, g, q3⟩ => ?_) hs
  subst ex
  obtain rfl : u = Value.ref a := rx
  exact d_setItem hu I3 g ry rv fun s4 I4 => ⟨σ, H4, I4, q3⟩
end
theorem dk_empty {P : Program} {w : World} {H : Hp} (h : Heap) (hb : sysModules < h.objs.size) : ObjOk P w H (h.push { cls := .type "dict", data := .dict #[] }) h.objs.size (.dK []) :=
  ⟨Nat.zero_le _, beq_eq_false_iff_ne.mpr (Ne.symm (Nat.ne_of_lt hb)), [], .nil, Heap.DictOf.new h⟩
def tDNewK : TE := fun _ H Q => ∀ p, H p = none → Q (.ref p) (upd H p (.dK []))
section
variable {X : Cx} {pos : Pos}
theorem pe_dnewK : PE X (.Dict [] [] pos) tDNewK := fun pins s σ H Q I h =>
  wpAny_Dict_empty ⟨.ref s.heap.objs.size, _, I.laid (a := s.heap.objs.size) (o := .dK []) (t' := s.toks) (fun _ _ q => Heap.get?_push_of_some _ q) (Nat.le_refl _) (dk_empty s.heap I.big), rfl, h _ (I.hok.fresh (Nat.le_refl _))⟩
end
section
variable {X : Cx} {pins : List (Addr × Obj)} {σ : St} {H : Hp} {s : Shared} {a : Addr} {y d : V} {u r : Value} {o : Option V} {A : Around} {E : Value → Shared → Prop}
end
section
variable {X : Cx} {o e f : Expr} {apos cpos : Pos} {td ty tx : TE}
end
section
variable {X : Cx} {pins : List (Addr × Obj)} {σ : St} {H : Hp} {s : Shared} {a : Addr} {kvs : List (Key × V)} {A : Around} {E : Value → Shared → Prop}
end
section
variable {X : Cx} {pins : List (Addr × Obj)} {σ : St} {H : Hp} {s : Shared} {a : Addr} {y : V} {u : Value} {A : Around} {E : Value → Shared → Prop}
end
end L2
namespace L2
open PySem PySem.Spec PyProof.Rows
section
variable {prog : Program} {w : World} {A : Around} {E : Value → Shared → Prop}
end
section
variable {X : Cx}
theorem refs_at : ∀ {ps : List Addr} {us : List Value}, Vals (ps.map V.ref) us → us = ps.map Value.ref
  | [], us, r => by
    rw [List.map_nil] at r
    cases r
    rfl
  | p :: ps, us, r => by
    rw [List.map_cons] at r
    cases r with
    | cons h t =>
      cases h
      rw [List.map_cons, ← refs_at t]
end
end L2
namespace L2
open PySem PySem.Spec PyProof.Rows
section
variable {X : Cx} {pins : List (Addr × Obj)} {σ : St} {H : Hp} {s : Shared} {h' : Heap}
theorem Inv.lock {d : Addr} {u : HO} (I : Inv X pins σ H s) (h : H d = some u) (mu : Mut (some u)) : ∃ od, Inv X pins σ (upd H d (.frz od u)) s := by
  have x := I.hok d u h
  have ex : ∃ od, s.heap.get? d = some od := by
    cases u with
    | lst xs => obtain ⟨_, _, _, _, e⟩ := x; exact ⟨_, e⟩
    | dK kvs => obtain ⟨_, _, _, _, o, _, _, e, _⟩ := x; exact ⟨o, e⟩
    | dT kvs => obtain ⟨_, _, _, _, o, _, _, e, _⟩ := x; exact ⟨o, e⟩
    | set S n => obtain ⟨o, _, _, _, e, _⟩ := x; exact ⟨o, e⟩
    | ins C dx fs => obtain ⟨_, _, _, e, _⟩ := x; exact ⟨_, e⟩
    | ext φ => obtain ⟨_, ⟨_, e⟩, _⟩ := x; exact ⟨_, e⟩
    | _ => exact False.elim mu
  obtain ⟨od, e⟩ := ex
  have new : ObjOk X.prog X.w (upd H d (.frz od u)) s.heap d (.frz od u) := by
    refine ⟨e, x.stay (fun b v _ q => q) (fun b q => ?_) fun b xs q => ?_⟩
    · rw [upd_ne (fun z => by rw [z, h] at q; cases q; exact mu)]; exact q
    · rw [upd_ne (fun z => by rw [z, h] at q; cases q; exact mu)]; exact q
  exact ⟨od, I.write (x := d) (e := d) (t' := s.toks) (h' := s.heap) (by rw [h]; exact mu) (.inl rfl) (fun b v _ q => q) ⟨od, e⟩ new⟩
theorem Inv.nofrz {d : Addr} {u : HO} (I : Inv X pins σ H s) (h : H d = some u) (mu : Mut (some u)) : ∀ o' u', X.H_0 d ≠ some (.frz o' u') := fun o' u' e => by
  have q := I.base.frzs d o' u' e
  rw [h] at q
  cases q
  exact mu
theorem Inv.unlock {d : Addr} {od : Obj} {u : HO} (I : Inv X pins σ H s) (h : H d = some (.frz od u)) (hn : ∀ o' u', X.H_0 d ≠ some (.frz o' u')) : Inv X pins σ (upd H d u) s := by
  have neH : ∀ b o, H b = some o → (∀ o' u', o ≠ .frz o' u') → b ≠ d := fun b o e hne z => by
    rw [z, h] at e
    cases e
    exact hne _ _ rfl
  have neN : ∀ b, H b = none → b ≠ d := fun b e z => by rw [z, h] at e; cases e
  refine ⟨I.ok, I.os, I.bare, ⟨I.base.keep, I.base.slot, fun b o e n hx => ?_, I.base.there, fun b xs e => ?_, fun b o x e => ?_, fun b ps e => ?_⟩, I.loc, I.cell, ?_, fun x c e => ?_, fun p hp => ?_, fun b o e => ?_, I.len⟩
  · rw [upd_ne (neN b (I.base.free b o e n hx))]; exact I.base.free b o e n hx
  · have q := I.base.tups b xs e
    rw [upd_ne (neH b _ q (fun _ _ z => nomatch z))]; exact q
  · have q := I.base.frzs b o x e
    rw [upd_ne (fun z => by rw [z] at e; exact hn _ _ e)]; exact q
  · obtain ⟨m, q⟩ := I.base.tbls b ps e
    exact ⟨m, by rw [upd_ne (neH b _ q (fun _ _ z => nomatch z))]; exact q⟩
  · rw [upd_ne (neN _ I.free)]; exact I.free
  · rw [upd_ne (neN c (I.freeC x c e))]; exact I.freeC x c e
  · obtain ⟨e, n, r⟩ := I.pin p hp
    exact ⟨e, by rw [upd_ne (neN _ n)]; exact n, r⟩
  · by_cases hb : b = d
    · rw [hb, upd_same] at e
      cases e
      rw [hb]
      obtain ⟨_, x⟩ := I.hok d _ h
      exact x.stay (fun c v _ q => q) (fun c q => by rw [upd_ne (neH c _ q (fun _ _ z => nomatch z))]; exact q) fun c xs q => by rw [upd_ne (neH c _ q (fun _ _ z => nomatch z))]; exact q
    · rw [upd_ne hb] at e
      exact (I.hok b o e).stay (fun c v _ q => q) (fun c q => by rw [upd_ne (neH c _ q (fun _ _ z => nomatch z))]; exact q) fun c xs q => by rw [upd_ne (neH c _ q (fun _ _ z => nomatch z))]; exact q
end
def tLock (t : TS) : TS := fun D σ H => ∃ d u, H d = some u ∧ Mut (some u) ∧ ∀ od, t ⟨fun σ' H' => H' d = some (.frz od u) ∧ D.nx σ' (upd H' d u), fun v H' => H' d = some (.frz od u) ∧ D.rt v (upd H' d u), fun σ' H' => H' d = some (.frz od u) ∧ D.bk σ' (upd H' d u), fun σ' H' => H' d = some (.frz od u) ∧ D.ct σ' (upd H' d u)⟩ σ (upd H d (.frz od u))
section
variable {X : Cx}
theorem ps_lock {st : Stmt} {t : TS} (h : PS X st t) : PS X st (tLock t) := by
  intro pins s σ H D I hw
  obtain ⟨d, u, hd, mu, hw⟩ := hw
  obtain ⟨od, I1⟩ := I.lock hd mu
  refine thn (h pins s σ _ _ I1 (hw od)) fun f s1 q => ?_
  cases f with
  | next => obtain ⟨σ', H', I2, e, q⟩ := q; exact ⟨σ', _, I2.unlock e (I.nofrz hd mu), q⟩
  | brk => obtain ⟨σ', H', I2, e, q⟩ := q; exact ⟨σ', _, I2.unlock e (I.nofrz hd mu), q⟩
  | cont => obtain ⟨σ', H', I2, e, q⟩ := q; exact ⟨σ', _, I2.unlock e (I.nofrz hd mu), q⟩
  | ret v => obtain ⟨x, σ', H', I2, r, e, q⟩ := q; exact ⟨x, σ', _, I2.unlock e (I.nofrz hd mu), r, q⟩
theorem pi_one {tg : Expr} {pins : List (Addr × Obj)} {σ : St} {H : Hp} {s : Shared} {R : It → Hp → Prop} {J : It} {tn : Nat → Heap → Prop} {tk : Nat} (I : Inv X pins σ H s) (o : Obj)
    (T : Turn X.prog X.w X.K tg J [s.heap.objs.size] s.heap.objs.size tn) (st : tn 0 (s.heap.push o)) (q : R J H) : PIE X pins σ tg R (.ref s.heap.objs.size) { s with heap := s.heap.push o, toks := tk } := by
  refine ⟨s.heap.objs.size, [s.heap.objs.size], tn, J, H, rfl, I.kept fun b ob e => Heap.get?_push_of_some _ e, T, st, fun b hb => ?_, q⟩
  have e : b = s.heap.objs.size := by simpa using hb
  subst e
  exact I.fpOk (Nat.le_refl _) (I.hok.fresh (Nat.le_refl _))
end
def Itc (lo c : Int) (n : Nat) : It := ⟨fun i _ => i < n, fun i H x H' => H' = H ∧ x = .int (lo + (i : Nat) * c), fun i _ => n ≤ i⟩
theorem turn_rangeC {P : Program} {w : World} {K : PySem.W.Frag} {tg : Expr} (it : Addr) (lo c : Int) (n : Nat) : Turn P w K tg (Itc lo c n) [it] it (fun i h => IsRangeIter h it (lo + (i : Nat) * c) ((n : Int) - (i : Nat)) c) where
  mem := by simp
  obj := fun i h st b hb => by
    have e : b = it := by simpa using hb
    subst e
    exact ⟨_, st, fun v z => nomatch z⟩
  keep := fun i h h' st k => k it (by simp) _ st
  item := by
    intro X hP hw hK hc i pins s σ H E I hf st hg
    subst hP hw hK
    obtain ⟨f0, f1, f2, f3, f4, f5⟩ := hf it (by simp)
    have W := Walks.range (prog := X.prog) (w := X.w) (I.ok.hd hc) it lo c n
    refine W.item i s _ _ hg st fun v h' tk hv st' kk => ?_
    obtain ⟨t, rfl⟩ := hv
    have I1 : Inv X pins σ H { s with heap := h', toks := tk } := I.turned (fun b o hb e => kk b o (by simpa using hb) e) f0 f1 f3 f4 f5
    exact ⟨_, rfl, go_of (s := { s with heap := h', toks := tk }) (n := "range_iterator") st' rfl rfl (by decide) ⟨.int (lo + (i : Nat) * c), H, I1, ⟨t, rfl⟩, ⟨rfl, rfl⟩, st', fun b hb => (hf b hb).1⟩⟩
  done := by
    intro X hP hw hK hc i pins s σ H E I hf st hg
    subst hP hw hK
    obtain ⟨f0, f1, f2, f3, f4, f5⟩ := hf it (by simp)
    exact wpAny_pyNext_range_end (I.ok.hd hc) st (by have : n ≤ i := hg; omega) fun h' eb => ⟨rfl, I.turned (t' := s.toks) (fun b o hb e => eb b o hb e) f0 f1 f3 f4 f5⟩
  self := fun A i s Q E st h => wpAny_pyIter_rangeiter st h
def RgC (i j c : Int) (n : Nat) : Prop := c ≠ 0 ∧ c.natAbs < 1073741824 ∧ Builtin.Range.small i j c = true ∧ Builtin.Range.rangeSize i j c = n
def iRng3 (ta : TA) : TI := fun σ H R => ta σ H fun vs H1 => ∃ (i j c : Int) (n : Nat), vs = [.int i, .int j, .int c] ∧ RgC i j c n ∧ R (Itc i c n) H1
section
variable {X : Cx} {tg : Expr}
theorem pi_range3 {a b c : Expr} {ta : TA} {p pos : Pos} (hg : Gl X "range") (hm : X.mg "range" = none) (ha : PA X [a, b, c] ta)
    (hs : starEach [a, b, c] X.env = (false, eval a X.env) :: starEach [b, c] X.env := by rfl) (hpl : (backTo pos (starEach [b, c] X.env)).any (·.1) = false := by rfl) :
    PI X tg (.Call (.Name "range" p) [a, b, c] [] pos) (iRng3 ta) := by
  intro pins s σ H R I h
  refine Call_ (ld_blt I hg hm boot_range (PyProof.Rows.callWith_type1 (thn (ha pos pins s σ H _ I h) fun us s1 ⟨vs, H1, I1, r1, q1⟩ => ?_) hs hpl))
  obtain ⟨i, j, k, n, e, ⟨c0, c1, c2, c3⟩, q⟩ := q1
  subst e
  cases r1 with
  | cons r rr =>
    cases rr with
    | cons r' rr =>
      cases rr with
      | cons r'' rr =>
        cases rr
        obtain ⟨t, rfl⟩ := r
        obtain ⟨t', rfl⟩ := r'
        obtain ⟨t'', rfl⟩ := r''
        refine call_range_3 c0 ?_ (.inl (PyProof.noPylong_small c1))
        refine wpAny_pyIter_range (IsRange.new ..) c2 ?_
        have I2 : Inv X pins σ H1 { s1 with heap := s1.heap.push { cls := .type "range", data := .fields #[.int i t, .int j t', .int k t''] } } := I1.kept (t' := s1.toks) fun b o e => Heap.get?_push_of_some _ e
        refine pi_one (tk := s1.toks) I2 _ (turn_rangeC _ i k n) ?_ q
        have e1 : i + ((0 : Nat) : Int) * k = i := by simp
        have e2 : (n : Int) - ((0 : Nat) : Int) = Builtin.Range.rangeSize i j k := by rw [c3]; simp
        show IsRangeIter _ _ (i + ((0 : Nat) : Int) * k) ((n : Int) - ((0 : Nat) : Int)) k
        rw [e1, e2]
        exact Heap.get?_push_size _ rfl
end
section
variable {X : Cx} {tg : Expr}
end
section
variable {prog : Program} {w : World} {A : Around} {E : Value → Shared → Prop} {s : Shared}
theorem iter_keys {d : Addr} {o : Obj} {es : Array DictEntry} {ep : Nat} {Q : Value → Shared → Prop} (hd : (d == sysModules) = false) (ho : s.heap.get? d = some o) (hc : o.ExactDict) (hdat : o.data = .dict es ep)
    (hQ : Q (.ref s.heap.objs.size) { s with heap := s.heap.push { cls := .type "dict_keyiterator", data := .fields #[.ref d, .int 0 0, .int es.size 0, .int ep 0] } }) :
    wpAny (model prog w) A (pyIter (.ref d)) Q E s := by
  have hT : s.TypeIs (.ref d) "dict" := ⟨o, ho, hc.1⟩
  refine wpAny_pyIter_slot hT F.slot_dict_iter (wpAny_call_entry F.slot_dict_iter hT F.entry_dict_iter ?_ (F.args_dict_iter_1 _))
  unfold Builtin.«dict.__iter__»
  refine wpAny_bind ?_
  unfold Builtin.Dict.dictSlotNone
  refine wpAny_bind (wpAny_notOrdered_dict hT ?_)
  show wpAny _ _ (pure (Value.ref d)) _ _ s
  refine wpAny_pure ?_
  show wpAny _ _ (Builtin.Dict.showsAll d >>= _) _ _ s
  unfold Builtin.Dict.showsAll
  rw [if_neg (by rw [hd]; exact Bool.false_ne_true)]
  refine wpAny_bind (wpAny_pure ?_)
  refine wpAny_bind (wpAny_dictEntries ho hdat ?_)
  refine wpAny_bind (wpAny_dictEpoch ho hdat ?_)
  refine wpAny_bind (wpAny_newObj_type (wpAny_pure ⟨_, rfl, "dict_keyiterator", _, ⟨_, Heap.get?_push_size _ rfl, rfl⟩, F.slot_dict_keyiterator_next.lookup, ?_⟩))
  simpa [rawInt] using hQ
theorem next_key_item {it d : Addr} {i n ep : Nat} {od : Obj} {es : Array DictEntry} {en : DictEntry} {Q : Option Value → Shared → Prop} (hit : s.heap.IsKeyIter it d i n ep) (hod : s.heap.get? d = some od) (hdd : od.data = .dict es ep)
    (hsz : es.size = n) (hx : es[i]? = some en) (hQ : ∀ h', h'.IsKeyIter it d (i + 1) n ep → Heap.SameBut it s.heap h' → Q (some en.key) { s with heap := h' }) : wpAny (model prog w) A (pyNext (.ref it)) Q E s := by
  obtain ⟨o, ho, hc, hd⟩ := id hit
  unfold pyNext
  refine wpAny_bind (wpAny_attempt (wpAny_callSpecial?_slot (name := Str.ofString "__next__") hit.typeIs F.slot_dict_keyiterator_next
    (wpAny_call_entry F.slot_dict_keyiterator_next hit.typeIs F.entry_dict_keyiterator_next ?_ (F.args_dict_keyiterator_next_1 _))))
  refine wpAny_bind (wpAny_pure ?_)
  refine wpAny_bind ?_
  refine wpAny_bind ?_
  first | refine wpAny_bind (wpAny_typeNameOfWhole_keyiter hit.typeIs (wpAny_pure ?_)) | refine wpAny_bind (wpAny_typeNameOf_keyiter hit.typeIs (wpAny_pure ?_))
  refine wpAny_bind (wpAny_fieldsOf ho hd ?_)
  have hown : Builtin.Dict_items.ownsTuple "dict_keyiterator" = false := by decide
  simp only [hown, Bool.false_eq_true, if_false]
  show wpAny _ _ (if (Value.ref d == Value.none) = true then _ else _) _ _ s
  rw [if_neg (show ¬ ((Value.ref d == Value.none) = true) from Bool.false_ne_true)]
  refine wpAny_bind (wpAny_pure ?_)
  refine wpAny_bind (wpAny_dictEntries hod hdd ?_)
  rw [if_neg (by rw [hsz]; simp)]
  refine wpAny_bind (wpAny_pure ?_)
  refine wpAny_bind (wpAny_dictEpoch hod hdd ?_)
  rw [if_neg (by simp)]
  refine wpAny_pure ?_
  obtain ⟨hlt', hen⟩ := Array.getElem?_eq_some_iff.mp hx
  simp only [show ¬ ((i : Int) < 0) from by omega, if_false, Int.toNat_natCast, Array.getElem?_eq_getElem hlt']
  refine wpAny_bind ?_
  first | refine wpAny_bind (wpAny_typeNameOfWhole_keyiter hit.typeIs (wpAny_pure ?_)) | refine wpAny_bind (wpAny_typeNameOf_keyiter hit.typeIs (wpAny_pure ?_))
  refine wpAny_bind (wpAny_isOneOf_keyiter hit.typeIs ?_)
  show wpAny _ _ (setField (.ref it) 1 (rawInt ((i : Int) + 1)) >>= _) _ _ s
  refine wpAny_bind (wpAny_setField ho hd (by simp) ?_)
  have hit' : (s.heap.update it (Obj.mapFields (·.setIfInBounds 1 (rawInt ((i : Int) + 1))))).IsKeyIter it d (i + 1) n ep :=
    ⟨_, Heap.get?_update_self _ ho (Obj.isFreed_of_fields (Obj.data_mapFields hd _)), (Obj.cls_mapFields ..).trans hc, by rw [Obj.data_mapFields hd]; simp [rawInt]⟩
  refine wpAny_bind (wpAny_holding ?_)
  refine wpAny_bind (wpAny_isOneOf_keyiter (s := { s with heap := s.heap.update it (Obj.mapFields (·.setIfInBounds 1 (rawInt ((i : Int) + 1)))) }) hit'.typeIs ?_)
  show wpAny _ _ (pure es[i].key) _ _ _
  rw [hen]
  exact wpAny_pure (wpAny_pure ⟨_, rfl, wpAny_pure (hQ _ hit' (Heap.SameBut.update ..))⟩)
theorem next_key_end {it d : Addr} {i n ep : Nat} {od : Obj} {es : Array DictEntry} {Q : Option Value → Shared → Prop} (hh : A.handled = none) (hit : s.heap.IsKeyIter it d i n ep) (hod : s.heap.get? d = some od) (hdd : od.data = .dict es ep)
    (hsz : es.size = n) (hge : n ≤ i) (hQ : ∀ h', Heap.ExtBut it s.heap h' → Q none { s with heap := h' }) : wpAny (model prog w) A (pyNext (.ref it)) Q E s := by
  obtain ⟨o, ho, hc, hd⟩ := id hit
  unfold pyNext
  refine wpAny_bind (wpAny_attempt (wpAny_callSpecial?_slot (name := Str.ofString "__next__") hit.typeIs F.slot_dict_keyiterator_next
    (wpAny_call_entry F.slot_dict_keyiterator_next hit.typeIs F.entry_dict_keyiterator_next ?_ (F.args_dict_keyiterator_next_1 _))))
  refine wpAny_bind (wpAny_pure ?_)
  refine wpAny_bind ?_
  refine wpAny_bind ?_
  first | refine wpAny_bind (wpAny_typeNameOfWhole_keyiter hit.typeIs (wpAny_pure ?_)) | refine wpAny_bind (wpAny_typeNameOf_keyiter hit.typeIs (wpAny_pure ?_))
  refine wpAny_bind (wpAny_fieldsOf ho hd ?_)
  have hown : Builtin.Dict_items.ownsTuple "dict_keyiterator" = false := by decide
  simp only [hown, Bool.false_eq_true, if_false]
  show wpAny _ _ (if (Value.ref d == Value.none) = true then _ else _) _ _ s
  rw [if_neg (show ¬ ((Value.ref d == Value.none) = true) from Bool.false_ne_true)]
  refine wpAny_bind (wpAny_pure ?_)
  refine wpAny_bind (wpAny_dictEntries hod hdd ?_)
  rw [if_neg (by rw [hsz]; simp)]
  refine wpAny_bind (wpAny_pure ?_)
  refine wpAny_bind (wpAny_dictEpoch hod hdd ?_)
  rw [if_neg (by simp)]
  refine wpAny_pure ?_
  have hge' : es.size ≤ i := by rw [hsz]; exact hge
  simp only [show ¬ ((i : Int) < 0) from by omega, if_false, Int.toNat_natCast, Array.getElem?_eq_none hge']
  refine wpAny_bind ?_
  first | refine wpAny_bind (wpAny_typeNameOfWhole_keyiter hit.typeIs (wpAny_pure ?_)) | refine wpAny_bind (wpAny_typeNameOf_keyiter hit.typeIs (wpAny_pure ?_))
  show wpAny _ _ (setField (.ref it) 0 .none >>= _) _ _ s
  refine wpAny_bind (wpAny_setField ho hd (by simp) ?_)
  show wpAny _ _ (newExc (.type "StopIteration") [] >>= _) _ _ _
  refine wpAny_bind ?_
  simp only [newExc, newTuple]
  refine wpAny_bind (wpAny_newObj_type ?_ (by size_fits))
  refine wpAny_bind (m := firstArgMember _ _) (wpAny_of_eq (a := Value.none) (by first | rfl | (simp only [firstArgMember]; rfl)) ?_)
  refine wpAny_newObj_type ?_ (by size_fits)
  simp only [raiseNew]
  refine wpAny_bind (wpAny_handled ?_)
  rw [show A.in1.handled = none from hh]
  refine wpAny_bind (wpAny_pure (wpAny_throw ?_))
  refine wpAny_bind (wpAny_isInstance (T := "StopIteration") (b := true) ⟨_, Heap.get?_push_size _ rfl, rfl⟩ isSubtype_stop ?_)
  exact wpAny_pure (hQ _ (((Heap.SameBut.update ..).extBut.push _).push _))
end
theorem kv_get {κ : Type} {kvs : List (κ × V)} {vs : List (κ × Value)} (h : KV kvs vs) : ∀ {i : Nat} {k : κ} {v : V}, kvs[i]? = some (k, v) → ∃ u, vs[i]? = some (k, u) ∧ RelV v u := by
  unfold KV at h
  induction h with
  | nil => intro i k v e; simp at e
  | @cons a b l₁ l₂ r t ih =>
    intro i k v e
    cases i with
    | zero =>
      simp only [List.getElem?_cons_zero, Option.some.injEq] at e
      subst e
      refine ⟨b.2, ?_, r.2⟩
      simp only [List.getElem?_cons_zero]
      exact congrArg some (Prod.ext r.1.symm rfl)
    | succ j =>
      simp only [List.getElem?_cons_succ] at e ⊢
      exact ih e
theorem paired_get {α β : Type} {G : α → β → Prop} {l₁ : List α} {l₂ : List β} (h : Paired G l₁ l₂) : ∀ {i : Nat} {a : α}, l₁[i]? = some a → ∃ b, l₂[i]? = some b ∧ G a b := by
  induction h with
  | nil => intro i a e; simp at e
  | @cons a b l₁ l₂ r t ih =>
    intro i a' e
    cases i with
    | zero =>
      simp only [List.getElem?_cons_zero, Option.some.injEq] at e
      subst e
      exact ⟨b, rfl, r⟩
    | succ j =>
      simp only [List.getElem?_cons_succ] at e ⊢
      exact ih e
theorem relV_key {k : Key} {u : Value} (h : keyIs k u = true) : RelV (kV k) u := by
  rcases keyIs_shape h with ⟨i, t, rfl, rfl⟩ | ⟨x, t, rfl, rfl⟩
  · exact ⟨t, rfl⟩
  · exact ⟨t, rfl⟩
section
variable {X : Cx} {pins : List (Addr × Obj)} {σ : St} {H : Hp} {s : Shared} {d : Addr} {o : Obj}
theorem Inv.frzK {kvs : List (Key × V)} (I : Inv X pins σ H s) (h : H d = some (.frz o (.dK kvs))) :
    (d == sysModules) = false ∧ s.heap.get? d = some o ∧ o.ExactDict ∧ ∃ (es : Array DictEntry) (ep : Nat) (vs : List (Key × Value)), o.data = .dict es ep ∧ es.size = kvs.length ∧ KV kvs vs ∧ s.heap.DictAt (mixKind X.prog X.w) d vs ep := by
  obtain ⟨hd, z, hs, vs, kv, o', es, ep, ho, hx, hdt, r⟩ := I.hok d _ h
  rw [hd] at ho
  cases ho
  refine ⟨hs, hd, hx, es, ep, vs, hdt, ?_, kv, o, es, hd, hx, hdt, r⟩
  have l1 := r.2.1.length
  have l2 : kvs.length = vs.length := Paired.length kv
  rw [Array.length_toList] at l1
  omega
theorem Inv.frzT {kvs : List (List Key × V)} (I : Inv X pins σ H s) (h : H d = some (.frz o (.dT kvs))) :
    (d == sysModules) = false ∧ s.heap.get? d = some o ∧ o.ExactDict ∧ ∃ (es : Array DictEntry) (ep : Nat), o.data = .dict es ep ∧ es.size = kvs.length ∧
      ∀ (i : Nat) (k : List Key) (v : V), kvs[i]? = some (k, v) → ∃ (en : DictEntry) (q : Addr), es[i]? = some en ∧ en.key = .ref q ∧ H q = some (.tup (k.map kV)) := by
  obtain ⟨hd, z, hs, xs, pr, o', es, ep, ho, hx, hdt, he, _⟩ := I.hok d _ h
  rw [hd] at ho
  cases ho
  refine ⟨hs, hd, hx, es, ep, hdt, ?_, fun i k v e => ?_⟩
  · have l1 : es.size = xs.length := size_of_entries he
    have l2 : kvs.length = xs.length := Paired.length pr
    omega
  · obtain ⟨b, hb, e1, e2, _⟩ := paired_get pr e
    have q := entry_at he i
    rw [hb] at q
    exact ⟨_, b.2.1, q, rfl, e2⟩
end
def Itk (d : Addr) (o : Obj) (kvs : List (Key × V)) : It :=
  ⟨fun i H => H d = some (.frz o (.dK kvs)) ∧ i < kvs.length, fun i H x H' => H' = H ∧ ∃ k v, kvs[i]? = some (k, v) ∧ x = kV k, fun i H => H d = some (.frz o (.dK kvs)) ∧ kvs.length ≤ i⟩
def Itkt (d : Addr) (o : Obj) (kvs : List (List Key × V)) : It :=
  ⟨fun i H => H d = some (.frz o (.dT kvs)) ∧ i < kvs.length, fun i H x H' => H' = H ∧ ∃ (k : List Key) (v : V) (q : Addr), kvs[i]? = some (k, v) ∧ x = .ref q ∧ H q = some (.tup (k.map kV)), fun i H => H d = some (.frz o (.dT kvs)) ∧ kvs.length ≤ i⟩
theorem dict_ep {o : Obj} {es es' : Array DictEntry} {ep ep' : Nat} (h : o.data = .dict es ep) (h' : o.data = .dict es' ep') : es' = es ∧ ep' = ep := by
  rw [h] at h'
  cases h'
  exact ⟨rfl, rfl⟩
section
variable {P : Program} {w : World} {K : PySem.W.Frag} {tg : Expr} {d : Addr} {o : Obj} {es : Array DictEntry} {ep : Nat}
theorem turn_keys {kvs : List (Key × V)} (it : Addr) (hod : o.data = .dict es ep) : Turn P w K tg (Itk d o kvs) [it] it (fun i h => h.IsKeyIter it d i kvs.length ep) where
  mem := by simp
  obj := fun i h st b hb => by
    have e : b = it := by simpa using hb
    subst e
    obtain ⟨oi, e, c, dd⟩ := st
    exact ⟨oi, e, fun v z => by rw [dd] at z; cases z⟩
  keep := fun i h h' st k => st.at fun oi e => k it (by simp) oi e
  item := by
    intro X hP hw hK hc i pins s σ H E I hf st hg
    subst hP hw hK
    obtain ⟨hd, hi⟩ := hg
    obtain ⟨f0, f1, f2, f3, f4, f5⟩ := hf it (by simp)
    obtain ⟨hs, hgd, hx, es', ep', vs, hdt, hsz, kv, hm⟩ := I.frzK hd
    obtain ⟨rfl, rfl⟩ := dict_ep hod hdt
    obtain ⟨⟨k, v⟩, hkv⟩ : ∃ p, kvs[i]? = some p := ⟨kvs[i], List.getElem?_eq_getElem hi⟩
    obtain ⟨u, hu, ru⟩ := kv_get kv hkv
    have hl : kvs.length = vs.length := Paired.length kv
    rw [hl] at st
    refine wpAny_pyNext_dict_item st hm hu fun key h' hkey st' sb => ?_
    have I1 : Inv X pins σ H { s with heap := h' } := I.turned (t' := s.toks) (fun b ob hb e => (sb.2 b hb).trans e) f0 f1 f3 f4 f5
    obtain ⟨oi, e, c, dd⟩ := id st'
    refine ⟨key, rfl, go_of (s := { s with heap := h' }) e c dd (by decide) ⟨kV k, H, I1, relV_key (show keyIs k key = true from hkey), ⟨rfl, k, v, hkv, rfl⟩, ?_, fun b hb => (hf b hb).1⟩⟩
    show h'.IsKeyIter it d (i + 1) kvs.length _
    rw [hl]
    exact st'
  done := by
    intro X hP hw hK hc i pins s σ H E I hf st hg
    subst hP hw hK
    obtain ⟨hd, hi⟩ := hg
    obtain ⟨f0, f1, f2, f3, f4, f5⟩ := hf it (by simp)
    obtain ⟨hs, hgd, hx, es', ep', vs, hdt, hsz, kv, hm⟩ := I.frzK hd
    obtain ⟨rfl, rfl⟩ := dict_ep hod hdt
    exact next_key_end (I.ok.hd hc) st hgd hdt hsz hi fun h' eb => ⟨rfl, I.turned (t' := s.toks) (fun b ob hb e => eb b ob hb e) f0 f1 f3 f4 f5⟩
  self := fun A i s Q E st h => wpAny_pyIter_keyiter st h
theorem turn_keysT {kvs : List (List Key × V)} (it : Addr) (hod : o.data = .dict es ep) : Turn P w K tg (Itkt d o kvs) [it] it (fun i h => h.IsKeyIter it d i kvs.length ep) where
  mem := by simp
  obj := fun i h st b hb => by
    have e : b = it := by simpa using hb
    subst e
    obtain ⟨oi, e, c, dd⟩ := st
    exact ⟨oi, e, fun v z => by rw [dd] at z; cases z⟩
  keep := fun i h h' st k => st.at fun oi e => k it (by simp) oi e
  item := by
    intro X hP hw hK hc i pins s σ H E I hf st hg
    subst hP hw hK
    obtain ⟨hd, hi⟩ := hg
    obtain ⟨f0, f1, f2, f3, f4, f5⟩ := hf it (by simp)
    obtain ⟨hs, hgd, hx, es', ep', hdt, hsz, ent⟩ := I.frzT hd
    obtain ⟨rfl, rfl⟩ := dict_ep hod hdt
    obtain ⟨⟨k, v⟩, hkv⟩ : ∃ p, kvs[i]? = some p := ⟨kvs[i], List.getElem?_eq_getElem hi⟩
    obtain ⟨en, q, hen, hkey, hq⟩ := ent i k v hkv
    refine next_key_item st hgd hdt hsz hen fun h' st' sb => ?_
    have I1 : Inv X pins σ H { s with heap := h' } := I.turned (t' := s.toks) (fun b ob hb e => (sb.2 b hb).trans e) f0 f1 f3 f4 f5
    obtain ⟨oi, e, c, dd⟩ := id st'
    exact ⟨en.key, rfl, go_of (s := { s with heap := h' }) e c dd (by decide) ⟨.ref q, H, I1, hkey, ⟨rfl, k, v, q, hkv, rfl, hq⟩, st', fun b hb => (hf b hb).1⟩⟩
  done := by
    intro X hP hw hK hc i pins s σ H E I hf st hg
    subst hP hw hK
    obtain ⟨hd, hi⟩ := hg
    obtain ⟨f0, f1, f2, f3, f4, f5⟩ := hf it (by simp)
    obtain ⟨hs, hgd, hx, es', ep', hdt, hsz, ent⟩ := I.frzT hd
    obtain ⟨rfl, rfl⟩ := dict_ep hod hdt
    exact next_key_end (I.ok.hd hc) st hgd hdt hsz hi fun h' eb => ⟨rfl, I.turned (t' := s.toks) (fun b ob hb e => eb b ob hb e) f0 f1 f3 f4 f5⟩
  self := fun A i s Q E st h => by
    refine wpAny_pyIter_slot st.typeIs F.slot_dict_keyiterator_iter (wpAny_call_entry F.slot_dict_keyiterator_iter st.typeIs F.entry_dict_keyiterator_iter ?_ (F.args_dict_keyiterator_iter_1 _))
    show wpAny _ _ (ret (.ref it)) _ _ s
    exact wpAny_pure ⟨_, rfl, "dict_keyiterator", _, st.typeIs, F.slot_dict_keyiterator_next.lookup, h⟩
end
def iKeys (td : TE) : TI := fun σ H R => td σ H fun x H1 => ∃ d o, x = .ref d ∧ ((∃ kvs, H1 d = some (.frz o (.dK kvs)) ∧ R (Itk d o kvs) H1) ∨ ∃ kvs, H1 d = some (.frz o (.dT kvs)) ∧ R (Itkt d o kvs) H1)
section
variable {X : Cx} {tg e : Expr} {td : TE} {apos cpos : Pos}
theorem pi_keys (he : PE X e td) : PI X tg e (iKeys td) := by
  intro pins s σ H R I h
  refine thn (he pins s σ H _ I h) fun u s1 ⟨x, H1, I1, rx, d, o, ex, q⟩ => ?_
  subst ex
  obtain rfl : u = Value.ref d := rx
  rcases q with ⟨kvs, hd, q⟩ | ⟨kvs, hd, q⟩
  · obtain ⟨hs, hgd, hx, es, ep, vs, hdt, hsz, kv, hm⟩ := I1.frzK hd
    refine iter_keys hs hgd hx hdt (pi_one (tk := s1.toks) I1 _ (turn_keys _ hdt) ⟨_, Heap.get?_push_size _ rfl, rfl, ?_⟩ q)
    rw [hsz] <;> rfl
  · obtain ⟨hs, hgd, hx, es, ep, hdt, hsz, ent⟩ := I1.frzT hd
    refine iter_keys hs hgd hx hdt (pi_one (tk := s1.toks) I1 _ (turn_keysT _ hdt) ⟨_, Heap.get?_push_size _ rfl, rfl, ?_⟩ q)
    rw [hsz] <;> rfl
end
end L2
section 
namespace Bits
open PySem PyProof.Rows
end Bits
end 
section 
namespace TL
open PySem PySem.Builtin PySem.Builtin.Str PySem.StrLaws
end TL
end 
namespace L2
open PySem PySem.Spec PyProof.Rows
section
variable {X : Cx} {pins : List (Addr × Obj)} {σ : St} {H : Hp} {s : Shared} {Q : VK}
end
section
variable {X : Cx}
end
section
variable {X : Cx} {o e : Expr} {to te : TE}
end
end L2
namespace L2
open PySem PySem.Spec PyProof.Rows
section
variable {X : Cx}
end
end L2
namespace Att
open PySem PySem.W PySem.Calls PyProof.Rows
section
variable {prog : Program} {w : World} {A : Around} {E : Value → Shared → Prop} {s : Shared} {K : Frag}
end
end Att
namespace L2
open PySem PySem.Spec PyProof.Rows
end L2
namespace L2
open PySem PySem.Spec PyProof.Rows
end L2
namespace L2
open PySem PySem.Spec PyProof.Rows
def inClass (s : Stmt) (j : Nat) : Stmt := match s with
  | .ClassDef _ _ _ body _ _ _ _ _ _ _ => body.getD j (.Pass ⟨0, 0, 0, 0⟩)
  | _ => .Pass ⟨0, 0, 0, 0⟩
def defArgs (s : Stmt) : Arguments := match s with
  | .FunctionDef _ a _ _ _ _ _ _ _ _ => a
  | _ => { posonlyargs := [], args := [], vararg := none, kwonlyargs := [], kw_defaults := [], kwarg := none, defaults := [] }
def defBody (s : Stmt) : List Stmt := match s with
  | .FunctionDef _ _ b _ _ _ _ _ _ _ => b
  | _ => []
def defScope (s : Stmt) : Scope := match s with
  | .FunctionDef _ _ _ _ _ _ sc _ _ _ => sc
  | _ => { kind := .function, names := [], isGenerator := false, isCoroutine := false }
abbrev CX0 : CXT := fun _ _ _ _ _ _ => False
abbrev E0 : XK := fun _ _ _ => False
theorem pass0 {X : Cx} : Passes CX0 X E0 := fun _ _ _ _ _ _ _ h => h.elim
structure Fun (K : PySem.W.Frag) (x qual : Str) (st : Stmt) (f : Addr) (fd : FuncData) : Prop where
  ex : ∃ (oc : Value) (od : Option Addr) (kV doc pm : Value) (an : Option Addr) (cdv ct : Value) (osl : Array (Option Value)),
    fd = PySem.W.fnOf x qual (defArgs st) (defBody st) (defScope st) .none kV doc pm an cdv ct ∧ K.lookup f = some ⟨oc, od, .func fd, osl⟩ ∧ PySem.W.codeIn K cdv qual = true
  kp : PySem.W.keepIn K (.ref f) = true
section
variable {P : Program} {w : World} {K : PySem.W.Frag} {mg : Str → Option Value} {base : Heap}
theorem Fun.ok {x qual : Str} {st : Stmt} {f : Addr} {fd : FuncData} {N ps : List Str} {k : Nat} {sp : Sp} (F : Fun K x qual st f fd) (S : FnScope N ps (defScope st)) (len : ∀ vs H Q E, sp vs H Q E → vs.length = ps.length)
    (hbody : ∀ (cdv : Value) (A : Around) (outer : List Env) (s : Shared) (H : Hp) (vs : List V) (Q : VK) (E : XK), Room k (A.deeper (envOfC qual (defScope st) s.heap.objs.size f cdv)) → sp vs H Q E →
      ∃ t, PSs (cxOf CX0 P w K mg base N qual (defScope st) f cdv A outer s H E).nox (defBody st) t ∧ t { nx := fun _ H' => Q .non H', rt := Q } (start N vs) H) : FnOk P w K mg base CX0 (k + 1) f fd ps sp := by
  obtain ⟨oc, od, kV, doc, pm, an, cdv, ct, osl, rfl, lk, hcd⟩ := F.ex
  refine fn_of lk hcd S len fun A outer s H vs Q E hr hsp => ?_
  obtain ⟨t, h, q⟩ := hbody cdv A outer s H vs Q E hr hsp
  exact ⟨t, h.nox, q⟩
theorem Fun.binds {x qual : Str} {st : Stmt} {f : Addr} {fd : FuncData} {ps : List Str} (F : Fun K x qual st f fd)
    (h : ∀ (kV doc pm : Value) (an : Option Addr) (cdv ct : Value) (us : List Value), us.length = ps.length → bindArgs (PySem.W.fnOf x qual (defArgs st) (defBody st) (defScope st) .none kV doc pm an cdv ct) ⟨us, []⟩ = pure (ps.zip us)) : Binds K fd ps [] := by
  obtain ⟨oc, od, kV, doc, pm, an, cdv, ct, osl, rfl, lk, hcd⟩ := F.ex
  exact .all (h kV doc pm an cdv ct)
theorem fun_mk {x qual : Str} {st : Stmt} {f : Addr} {oc : Value} {od an : Option Addr} {osl : Array (Option Value)} {kV doc pm cdv ct : Value} (l : K.lookup f = some ⟨oc, od, .func (PySem.W.fnOf x qual (defArgs st) (defBody st) (defScope st) .none kV doc pm an cdv ct), osl⟩)
    (c : PySem.W.codeIn K cdv qual = true) (k : PySem.W.keepIn K (.ref f) = true) : Fun K x qual st f (PySem.W.fnOf x qual (defArgs st) (defBody st) (defScope st) .none kV doc pm an cdv ct) := ⟨⟨oc, od, kV, doc, pm, an, cdv, ct, osl, rfl, l, c⟩, k⟩
end
theorem hu_of {A : Around} {k : Nat} (hr : Room k A) : A.units + 1 < cLine := Nat.lt_of_le_of_lt (Nat.add_le_add_left (by decide : 1 ≤ 64) _) hr.units
section
variable {X : Cx}
theorem pv (i : Nat) {x : Str} {pos : Pos} (hN : X.N[i]? = some x := by rfl) (hv : Vis X.env.scope x := by first | exact Or.inl rfl | exact Or.inr (Or.inl rfl) | exact Or.inr (Or.inr rfl)) (hd : (x == ("__debug__" : Str)) = false := by decide)
    (hcd : (x == ("__classdict__" : Str)) = false := by decide) : PE X (.Name x pos) (tVar i) := pe_var hN hv hd hcd
end
theorem iteF {A B : Prop} (h : B) : if false = true then A else B := by
  rw [if_neg Bool.false_ne_true]
  exact h
theorem iteT {A B : Prop} (h : A) : if true = true then A else B := by
  rw [if_pos rfl]
  exact h
theorem ite2 {c A B : Prop} [Decidable c] (h1 : c → A) (h2 : ¬ c → B) : if c then A else B := by
  by_cases h : c
  · rw [if_pos h]
    exact h1 h
  · rw [if_neg h]
    exact h2 h
def Same (H H' : Hp) : Prop := ∀ b o, H b = some o → H' b = some o
theorem Same.refl (H : Hp) : Same H H := fun _ _ h => h
theorem Same.trans {H H1 H2 : Hp} (a : Same H H1) (b : Same H1 H2) : Same H H2 := fun c o h => b c o (a c o h)
theorem Same.free {H H' : Hp} (e : Same H H') {l : Addr} (h : H' l = Option.none) : H l = Option.none := by
  cases q : H l with
  | none => rfl
  | some o =>
    rw [e l o q] at h
    cases h
theorem Same.seq {K : PySem.W.Frag} {H H' : Hp} {a : Addr} {xs : List V} (e : Same H H') (h : SqL K H a xs) : SqL K H' a xs := by
  rcases h with (h | ⟨o, h⟩) | h
  · exact .inl (.inl (e _ _ h))
  · exact .inl (.inr ⟨o, e _ _ h⟩)
  · exact .inr h
section
variable {κ : Type} [DecidableEq κ]
theorem valV_not {kvs : List (κ × V)} {k : κ} (h : valV kvs k = none) : ¬ k ∈ kvs.map (·.1) := by
  intro m
  obtain ⟨p, hp, e⟩ := List.mem_map.mp m
  have q : (kvs.any fun kv => decide (kv.1 = k)) = true := List.any_eq_true.mpr ⟨p, hp, decide_eq_true e⟩
  rw [valV_any, h] at q
  exact absurd q (by simp)
theorem nd_snoc : ∀ {l : List κ} {k : κ}, l.Nodup → ¬ k ∈ l → (l ++ [k]).Nodup
  | [], k, _, _ => by simp
  | a :: r, k, h, hk => by
    obtain ⟨h1, h2⟩ := List.nodup_cons.mp h
    show (a :: (r ++ [k])).Nodup
    refine List.nodup_cons.mpr ⟨fun m => ?_, nd_snoc h2 fun m => hk (List.mem_cons.mpr (Or.inr m))⟩
    rcases List.mem_append.mp m with q | q
    · exact h1 q
    · exact hk (List.mem_cons.mpr (Or.inl (List.mem_singleton.mp q).symm))
end
theorem at_of {xs : List V} {z : Int} {j : Nat} {v : V} (e : z = (j : Int)) (h : xs[j]? = some v) : atI xs z = some v := by
  rw [e]
  exact atI_nat h
theorem Same.made {H H1 : Hp} {x dx C : Addr} (nx : H x = Option.none) (nd : H dx = Option.none) (k : ∀ b o, (upd (upd H dx (.own x)) x (.ins C dx [])) b = some o → b ≠ x → H1 b = some o) : Same H H1 := fun b o e =>
  k b o (by rw [upd_ne (ne_of_none e nx), upd_ne (ne_of_none e nd)]; exact e) (ne_of_none e nx)
end L2
section
set_option Elab.async false
set_option linter.all false
set_option maxRecDepth 100000
set_option maxHeartbeats 2000000
namespace L2
open PySem PySem.Spec PyProof.Rows
open PySem.W (WData Codec OpenSpec Well WellAll ReadsW ReadsAllW)
mutual
inductive Dw (K : PySem.W.Frag) (H : Hp) : V → WData → Prop
  | non : Dw K H .non .none
  | bl (b : Bool) : Dw K H (.bl b) (.bool b)
  | int (i : Int) : Dw K H (.int i) (.int i)
  | str (x : Str) : Dw K H (.str x) (.str x)
  | byt (b : Array UInt8) : Dw K H (.byt b) (.bytes b.toList)
  | lst {a : Addr} {xs : List V} {ds : List WData} : SqL K H a xs → DwAll K H xs ds → Dw K H (.ref a) (.list ds)
  | tup {a : Addr} {xs : List V} {ds : List WData} : SqT K H a xs → DwAll K H xs ds → Dw K H (.ref a) (.tuple ds)
inductive DwAll (K : PySem.W.Frag) (H : Hp) : List V → List WData → Prop
  | nil : DwAll K H [] []
  | cons {v : V} {vs : List V} {d : WData} {ds : List WData} : Dw K H v d → DwAll K H vs ds → DwAll K H (v :: vs) (d :: ds)
end
theorem dw_ints {K : PySem.W.Frag} {H : Hp} : ∀ ns : List Int, DwAll K H (ns.map V.int) (ns.map WData.int)
  | [] => .nil
  | n :: r => .cons (.int n) (dw_ints r)
theorem ints_dw {K : PySem.W.Frag} {H : Hp} : ∀ (ns : List Int) (xs : List V), DwAll K H xs (ns.map WData.int) → xs = ns.map V.int
  | [], xs, h => by
    cases h
    rfl
  | n :: r, xs, h => by
    cases h with
    | cons h1 h2 =>
      cases h1
      rw [ints_dw r _ h2] <;> rfl
section
variable {P : Program} {w : World} {K : PySem.W.Frag} {H : Hp} {h : Heap} {R : PySem.W.WRecords} {cl : Str → Option Addr}
theorem sqL_at {a : Addr} {xs : List V} (hok : HOk P w H h) (KX : K.In h) (q : SqL K H a xs) : ∃ (its : List Value) (o : Obj) (n : Nat), Vals xs its ∧ h.get? a = some o ∧ o.cls = .type "list" ∧ o.data = .seq its.toArray n := by
  rcases q with q | ⟨o, its, n, e, hc, _, hd, _, hv⟩
  · obtain ⟨_, its, n, hv, e⟩ := (show ObjOk P w H h a (.lst xs) from q.ok hok)
    exact ⟨its, _, n, hv, e, rfl, rfl⟩
  · exact ⟨its.toList, o, n, hv, KX _ _ e, hc, by simp [hd]⟩
theorem sqT_at {a : Addr} {xs : List V} (hok : HOk P w H h) (KX : K.In h) (q : SqT K H a xs) : ∃ (its : List Value) (o : Obj) (n : Nat), Vals xs its ∧ h.get? a = some o ∧ o.cls = .type "tuple" ∧ o.data = .seq its.toArray n := by
  rcases q with q | ⟨o, its, n, e, hc, hd, _, hv⟩
  · obtain ⟨_, its, hv, o, e, hc, n, hd⟩ := (show ObjOk P w H h a (.tup xs) from q.ok hok)
    exact ⟨its, o, n, hv, e, hc, hd⟩
  · exact ⟨its.toList, o, n, hv, KX _ _ e, hc, by simp [hd]⟩
mutual
theorem Dw.reads (hok : HOk P w H h) (KX : K.In h) : ∀ (d : WData) (v : V) (u : Value), Dw K H v d → RelV v u → ∃ as, ReadsW R cl h u d as
  | .none, _, _, x, r => by
    cases x
    cases r
    exact ⟨_, ReadsW.none⟩
  | .bool b, _, _, x, r => by
    cases x
    cases r
    exact ⟨_, ReadsW.bool b⟩
  | .int i, _, _, x, r => by
    cases x
    obtain ⟨t, rfl⟩ := r
    exact ⟨_, ReadsW.int i t⟩
  | .str s, _, _, x, r => by
    cases x
    obtain ⟨t, rfl⟩ := r
    exact ⟨_, ReadsW.str s t⟩
  | .bytes b, _, _, x, r => by
    cases x
    obtain ⟨t, rfl⟩ := r
    exact ⟨_, ReadsW.bytes _ t⟩
  | .list ds, _, _, x, r => by
    cases x with
    | lst hs ha =>
      cases r
      obtain ⟨its, o, n, rv, ho, hc, hd⟩ := sqL_at hok KX hs
      obtain ⟨as, hr⟩ := Dw.readsAll hok KX ds _ its ha rv
      exact ⟨_, ReadsW.list ho hc hd hr⟩
  | .tuple ds, _, _, x, r => by
    cases x with
    | tup hs ha =>
      cases r
      obtain ⟨its, o, n, rv, ho, hc, hd⟩ := sqT_at hok KX hs
      obtain ⟨as, hr⟩ := Dw.readsAll hok KX ds _ its ha rv
      exact ⟨_, ReadsW.tuple ho hc hd hr⟩
  | .float _, _, _, x, _ => by cases x
  | .dict _, _, _, x, _ => by cases x
  | .bytearray _, _, _, x, _ => by cases x
  | .set _, _, _, x, _ => by cases x
  | .frozenset _, _, _, x, _ => by cases x
  | .obj _ _, _, _, x, _ => by cases x
theorem Dw.readsAll (hok : HOk P w H h) (KX : K.In h) : ∀ (ds : List WData) (vs : List V) (us : List Value), DwAll K H vs ds → Vals vs us → ∃ as, ReadsAllW R cl h us ds as
  | [], _, _, x, r => by
    cases x
    cases r
    exact ⟨_, ReadsAllW.nil⟩
  | d :: ds, _, _, x, r => by
    cases x with
    | cons h1 h2 =>
      cases r with
      | cons r1 r2 =>
        obtain ⟨as, q1⟩ := Dw.reads hok KX d _ _ h1 r1
        obtain ⟨bs, q2⟩ := Dw.readsAll hok KX ds _ _ h2 r2
        exact ⟨_, ReadsAllW.cons q1 q2⟩
end
end
mutual
def plW : WData → Bool
  | .none => true
  | .bool _ => true
  | .int _ => true
  | .str _ => true
  | .bytes _ => true
  | .list xs => plWs xs
  | .tuple xs => plWs xs
  | _ => false
def plWs : List WData → Bool
  | [] => true
  | x :: r => plW x && plWs r
end
theorem plWs_map {α : Type} {f : α → WData} (h : ∀ a, plW (f a) = true) : ∀ l : List α, plWs (l.map f) = true
  | [] => rfl
  | x :: r => by
    show (plW (f x) && plWs (r.map f)) = true
    rw [h x, plWs_map h r] <;> rfl
theorem pl_enc : ∀ (c : Codec) (a : c.denote), plW (c.enc a) = true
  | .unit, _ => rfl
  | .bool, _ => rfl
  | .int _ _, _ => rfl
  | .nat _ _, _ => rfl
  | .u8, _ => rfl
  | .bytes _ _, _ => rfl
  | .text _ _ _ _, _ => rfl
  | .list _ _ c, a => plWs_map (fun x => pl_enc c x) a
  | .pair c d, a => by
    show (plW (c.enc a.1) && (plW (d.enc a.2) && true)) = true
    rw [pl_enc c a.1, pl_enc d a.2] <;> rfl
  | .triple c d e, a => by
    show (plW (c.enc a.1) && (plW (d.enc a.2.1) && (plW (e.enc a.2.2) && true))) = true
    rw [pl_enc c a.1, pl_enc d a.2.1, pl_enc e a.2.2] <;> rfl
  | .option c, none => rfl
  | .option c, some x => pl_enc c x
theorem pl_encAll : ∀ (cs : List Codec) (a : Codec.denoteAll cs), plWs (Codec.encAll cs a) = true
  | [], _ => rfl
  | c :: cs, a => by
    show (plW (c.enc a.1) && plWs (Codec.encAll cs a.2)) = true
    rw [pl_enc c a.1, pl_encAll cs a.2] <;> rfl
theorem weight_mem : ∀ {xs : List WData} {d : WData}, d ∈ xs → d.weight ≤ WData.weightAll xs
  | [], d, h => absurd h (by simp)
  | x :: r, d, h => by
    show d.weight ≤ x.weight + 1 + WData.weightAll r
    rcases List.mem_cons.mp h with e | m
    · rw [e]
      omega
    · have z := weight_mem m
      omega
def toV : Value → V
  | .none => .non
  | .bool b => .bl b
  | .int i _ => .int i
  | .str x _ => .str x
  | .bytes b _ => .byt b
  | .ref a => .ref a
  | _ => .non
def OkU (A : List Addr) : Value → Prop
  | .none => True
  | .bool _ => True
  | .int _ _ => True
  | .str _ _ => True
  | .bytes _ _ => True
  | .ref a => a ∈ A
  | _ => False
theorem OkU.mono {A B : List Addr} (h : ∀ a ∈ A, a ∈ B) : ∀ {u : Value}, OkU A u → OkU B u := fun {u} x => by
  cases u with
  | ref a => exact h a x
  | none => trivial
  | bool b => trivial
  | int i t => trivial
  | str s t => trivial
  | bytes b t => trivial
  | _ => exact False.elim x
theorem relV_toV {A : List Addr} {u : Value} (x : OkU A u) : RelV (toV u) u := by
  cases u with
  | ref a => rfl
  | none => rfl
  | bool b => rfl
  | int i t => exact ⟨t, rfl⟩
  | str s t => exact ⟨t, rfl⟩
  | bytes b t => exact ⟨t, rfl⟩
  | _ => exact False.elim x
theorem vals_toV {A : List Addr} : ∀ {vs : List Value}, (∀ u ∈ vs, OkU A u) → Vals (vs.map toV) vs
  | [], _ => .nil
  | u :: r, h => .cons (relV_toV (h u (List.mem_cons_self ..))) (vals_toV fun x hx => h x (List.mem_cons_of_mem _ hx))
def ArgOb (h : Heap) (A : List Addr) (a : Addr) : Prop := ∃ vs : List Value, vs.length ≤ sizeLine ∧ (∀ u ∈ vs, OkU A u) ∧
  (h.get? a = some { cls := .type "list", data := .seq vs.toArray } ∨ h.get? a = some { cls := .type "tuple", data := .seq vs.toArray })
theorem ArgOb.mono {h : Heap} {A B : List Addr} {a : Addr} (k : ∀ a ∈ A, a ∈ B) (x : ArgOb h A a) : ArgOb h B a := by
  obtain ⟨vs, h1, h2, h3⟩ := x
  exact ⟨vs, h1, fun u hu => (h2 u hu).mono k, h3⟩
theorem wellAll_len {P : Params} {h : Heap} : ∀ {vs : List Value} {ds : List WData}, WellAll P h vs ds → vs.length = ds.length
  | _, _, .nil => rfl
  | _, _, .cons _ b => by
    show _ + 1 = _ + 1
    rw [wellAll_len b]
theorem well_list {P : Params} {h : Heap} {v : Value} {ds : List WData} (x : Well P h v (.list ds)) : ∃ (a : Addr) (vs : List Value), v = .ref a ∧ h.get? a = some { cls := .type "list", data := .seq vs.toArray } ∧ WellAll P h vs ds := by
  cases x with
  | list ho hall => exact ⟨_, _, rfl, ho, hall⟩
theorem well_tuple {P : Params} {h : Heap} {v : Value} {ds : List WData} (x : Well P h v (.tuple ds)) : ∃ (a : Addr) (vs : List Value), v = .ref a ∧ h.get? a = some { cls := .type "tuple", data := .seq vs.toArray } ∧ WellAll P h vs ds := by
  cases x with
  | tuple ho hall => exact ⟨_, _, rfl, ho, hall⟩
theorem well_cons {P : Params} {h : Heap} {us : List Value} {d : WData} {ds : List WData} (x : WellAll P h us (d :: ds)) : ∃ (v : Value) (vs : List Value), us = v :: vs ∧ Well P h v d ∧ WellAll P h vs ds := by
  cases x with
  | cons a b => exact ⟨_, _, rfl, a, b⟩
theorem line_of {n : Nat} (h : n ≤ 1048576) : n ≤ sizeLine := Nat.le_trans h (by decide)
section
variable {P : Params} {h : Heap}
mutual
theorem area_one : ∀ (d : WData) (v : Value), Well P h v d → plW d = true → d.weight ≤ 1048576 → ∃ A : List Addr, OkU A v ∧ ∀ a ∈ A, ArgOb h A a
  | .none, _, x, _, _ => by
    cases x
    exact ⟨[], trivial, fun a m => absurd m (by simp)⟩
  | .bool b, _, x, _, _ => by
    cases x
    exact ⟨[], trivial, fun a m => absurd m (by simp)⟩
  | .int i, _, x, _, _ => by
    cases x
    exact ⟨[], trivial, fun a m => absurd m (by simp)⟩
  | .str s, _, x, _, _ => by
    cases x
    exact ⟨[], trivial, fun a m => absurd m (by simp)⟩
  | .bytes b, _, x, _, _ => by
    cases x
    exact ⟨[], trivial, fun a m => absurd m (by simp)⟩
  | .list ds, _, x, p, z => by
    obtain ⟨a, vs, rfl, ho, hall⟩ := well_list x
    have z2 : WData.weightAll ds ≤ 1048576 := z
    obtain ⟨A, h1, h2⟩ := area_all ds _ hall p fun d hd => Nat.le_trans (weight_mem hd) z2
    have k : ∀ b ∈ A, b ∈ a :: A := fun b hb => List.mem_cons_of_mem _ hb
    refine ⟨a :: A, List.mem_cons_self .., fun b hb => ?_⟩
    rcases List.mem_cons.mp hb with e | m
    · rw [e]
      exact ⟨vs, line_of (by rw [wellAll_len hall]; exact Nat.le_trans (PySem.W.length_le_weightAllW ds) z2), fun u hu => (h1 u hu).mono k, .inl ho⟩
    · exact (h2 b m).mono k
  | .tuple ds, _, x, p, z => by
    obtain ⟨a, vs, rfl, ho, hall⟩ := well_tuple x
    have z2 : WData.weightAll ds ≤ 1048576 := z
    obtain ⟨A, h1, h2⟩ := area_all ds _ hall p fun d hd => Nat.le_trans (weight_mem hd) z2
    have k : ∀ b ∈ A, b ∈ a :: A := fun b hb => List.mem_cons_of_mem _ hb
    refine ⟨a :: A, List.mem_cons_self .., fun b hb => ?_⟩
    rcases List.mem_cons.mp hb with e | m
    · rw [e]
      exact ⟨vs, line_of (by rw [wellAll_len hall]; exact Nat.le_trans (PySem.W.length_le_weightAllW ds) z2), fun u hu => (h1 u hu).mono k, .inr ho⟩
    · exact (h2 b m).mono k
  | .float _, _, _, p, _ => Bool.noConfusion (show false = true from p)
  | .dict _, _, _, p, _ => Bool.noConfusion (show false = true from p)
  | .bytearray _, _, _, p, _ => Bool.noConfusion (show false = true from p)
  | .set _, _, _, p, _ => Bool.noConfusion (show false = true from p)
  | .frozenset _, _, _, p, _ => Bool.noConfusion (show false = true from p)
  | .obj _ _, _, _, p, _ => Bool.noConfusion (show false = true from p)
theorem area_all : ∀ (ds : List WData) (vs : List Value), WellAll P h vs ds → plWs ds = true → (∀ d ∈ ds, d.weight ≤ 1048576) → ∃ A : List Addr, (∀ u ∈ vs, OkU A u) ∧ ∀ a ∈ A, ArgOb h A a
  | [], _, x, _, _ => by
    cases x
    exact ⟨[], fun u m => absurd m (by simp), fun a m => absurd m (by simp)⟩
  | d :: ds, _, x, p, z => by
    obtain ⟨v, vs, rfl, x1, x2⟩ := well_cons x
    have q : plW d = true ∧ plWs ds = true := Bool.and_eq_true_iff.mp p
    obtain ⟨A, a1, a2⟩ := area_one d v x1 q.1 (z d (List.mem_cons_self ..))
    obtain ⟨B, b1, b2⟩ := area_all ds vs x2 q.2 fun e he => z e (List.mem_cons_of_mem _ he)
    have kA : ∀ b ∈ A, b ∈ A ++ B := fun b hb => List.mem_append.mpr (.inl hb)
    have kB : ∀ b ∈ B, b ∈ A ++ B := fun b hb => List.mem_append.mpr (.inr hb)
    refine ⟨A ++ B, fun u hu => ?_, fun b hb => ?_⟩
    · rcases List.mem_cons.mp hu with e | m
      · rw [e]
        exact a1.mono kA
      · exact (b1 u m).mono kB
    · rcases List.mem_append.mp hb with m | m
      · exact (a2 b m).mono kA
      · exact (b2 b m).mono kB
end
end
def hoOf (o : Obj) : Option HO := match o.data with
  | .seq vs _ => if (o.cls == Value.type "list") = true then some (.frz o (.lst (vs.toList.map toV))) else some (.frz o (.tup (vs.toList.map toV)))
  | _ => none
def argH (K : PySem.W.Frag) (h : Heap) (A : List Addr) : Hp := fun b => if b ∈ A then (if (K.lookup b).isNone = true then (h.get? b).bind hoOf else none) else none
def OnlyF (H : Hp) : Prop := ∀ b, H b = none ∨ ∃ o u, H b = some (.frz o u)
theorem hoOf_lst (vs : List Value) : hoOf { cls := .type "list", data := .seq vs.toArray } = some (.frz { cls := .type "list", data := .seq vs.toArray } (.lst (vs.map toV))) := by
  show (if (Value.type "list" == Value.type "list") = true then some (HO.frz { cls := .type "list", data := .seq vs.toArray } (.lst (vs.toArray.toList.map toV))) else some (HO.frz { cls := .type "list", data := .seq vs.toArray } (.tup (vs.toArray.toList.map toV)))) = _
  rw [if_pos (beq_self_eq_true _)]
theorem hoOf_tup (vs : List Value) : hoOf { cls := .type "tuple", data := .seq vs.toArray } = some (.frz { cls := .type "tuple", data := .seq vs.toArray } (.tup (vs.map toV))) := by
  show (if (Value.type "tuple" == Value.type "list") = true then some (HO.frz { cls := .type "tuple", data := .seq vs.toArray } (.lst (vs.toArray.toList.map toV))) else some (HO.frz { cls := .type "tuple", data := .seq vs.toArray } (.tup (vs.toArray.toList.map toV)))) = _
  rw [if_neg (by decide)]
section
variable {P : Program} {w : World} {K : PySem.W.Frag} {h : Heap} {A : List Addr}
theorem argH_at {b : Addr} {o : Obj} (hb : b ∈ A) (hk : K.lookup b = none) (e : h.get? b = some o) : argH K h A b = hoOf o := by
  unfold argH
  rw [if_pos hb, hk, if_pos (show (none : Option Obj).isNone = true from rfl), e] <;> rfl
theorem of_argH {b : Addr} {u : HO} (q : argH K h A b = some u) : b ∈ A ∧ K.lookup b = none := by
  unfold argH at q
  by_cases hb : b ∈ A
  · rw [if_pos hb] at q
    cases hk : K.lookup b with
    | none => exact ⟨hb, rfl⟩
    | some o =>
      rw [hk, if_neg (by simp)] at q
      cases q
  · rw [if_neg hb] at q
    cases q
theorem argH_is (ar : ∀ a ∈ A, ArgOb h A a) {b : Addr} {u : HO} (q : argH K h A b = some u) : K.lookup b = none ∧ ∃ vs : List Value, vs.length ≤ sizeLine ∧ (∀ u ∈ vs, OkU A u) ∧
    ((h.get? b = some { cls := .type "list", data := .seq vs.toArray } ∧ u = .frz { cls := .type "list", data := .seq vs.toArray } (.lst (vs.map toV))) ∨
     (h.get? b = some { cls := .type "tuple", data := .seq vs.toArray } ∧ u = .frz { cls := .type "tuple", data := .seq vs.toArray } (.tup (vs.map toV)))) := by
  obtain ⟨hb, hk⟩ := of_argH q
  obtain ⟨vs, h1, h2, h3⟩ := ar b hb
  refine ⟨hk, vs, h1, h2, ?_⟩
  rcases h3 with e | e
  · rw [argH_at hb hk e, hoOf_lst] at q
    exact .inl ⟨e, (Option.some.inj q).symm⟩
  · rw [argH_at hb hk e, hoOf_tup] at q
    exact .inr ⟨e, (Option.some.inj q).symm⟩
theorem argH_only (ar : ∀ a ∈ A, ArgOb h A a) : OnlyF (argH K h A) := fun b => by
  cases q : argH K h A b with
  | none => exact .inl rfl
  | some u =>
    obtain ⟨_, vs, _, _, ⟨_, e⟩ | ⟨_, e⟩⟩ := argH_is ar q
    · exact .inr ⟨_, _, by rw [e]⟩
    · exact .inr ⟨_, _, by rw [e]⟩
theorem argH_ok (ar : ∀ a ∈ A, ArgOb h A a) : HOk P w (argH K h A) h := fun b u q => by
  obtain ⟨_, vs, h1, h2, ⟨e, rfl⟩ | ⟨e, rfl⟩⟩ := argH_is ar q
  · exact ⟨e, by rw [List.length_map]; exact h1, vs, _, vals_toV h2, e⟩
  · exact ⟨e, by rw [List.length_map]; exact h1, vs, vals_toV h2, _, e, rfl, _, rfl⟩
theorem seq_inj {c c' : Value} {vs us : List Value} (e : (some { cls := c, data := .seq vs.toArray } : Option Obj) = some { cls := c', data := .seq us.toArray }) : c = c' ∧ vs = us := by
  have e1 := Option.some.inj e
  have e2 : c = c' := congrArg Obj.cls e1
  have e3 : Data.seq vs.toArray = Data.seq us.toArray := congrArg Obj.data e1
  injection e3 with e4
  refine ⟨e2, ?_⟩
  have e5 := congrArg Array.toList e4
  simpa using e5
theorem argL (KX : K.In h) (ar : ∀ a ∈ A, ArgOb h A a) {a : Addr} {vs : List Value} (ha : a ∈ A) (e : h.get? a = some { cls := .type "list", data := .seq vs.toArray }) : (∀ u ∈ vs, OkU A u) ∧ SqL K (argH K h A) a (vs.map toV) := by
  obtain ⟨us, h1, h2, h3⟩ := ar a ha
  have hu : us = vs := by
    rcases h3 with q | q
    · rw [e] at q
      exact (seq_inj q).2.symm
    · rw [e] at q
      exact absurd (Value.type.inj (seq_inj q).1) (by decide)
  subst hu
  refine ⟨h2, ?_⟩
  cases hk : K.lookup a with
  | none => exact .inl (.inr ⟨_, by rw [argH_at ha hk e, hoOf_lst]⟩)
  | some o =>
    have e2 := KX a o hk
    rw [e] at e2
    obtain rfl := Option.some.inj e2
    exact .inr ⟨_, us.toArray, _, hk, rfl, rfl, rfl, by rw [List.size_toArray]; exact h1, by simpa using vals_toV h2⟩
theorem argT (KX : K.In h) (ar : ∀ a ∈ A, ArgOb h A a) {a : Addr} {vs : List Value} (ha : a ∈ A) (e : h.get? a = some { cls := .type "tuple", data := .seq vs.toArray }) : (∀ u ∈ vs, OkU A u) ∧ SqT K (argH K h A) a (vs.map toV) := by
  obtain ⟨us, h1, h2, h3⟩ := ar a ha
  have hu : us = vs := by
    rcases h3 with q | q
    · rw [e] at q
      exact absurd (Value.type.inj (seq_inj q).1) (by decide)
    · rw [e] at q
      exact (seq_inj q).2.symm
  subst hu
  refine ⟨h2, ?_⟩
  cases hk : K.lookup a with
  | none => exact .inl (.inr ⟨_, by rw [argH_at ha hk e, hoOf_tup]⟩)
  | some o =>
    have e2 := KX a o hk
    rw [e] at e2
    obtain rfl := Option.some.inj e2
    exact .inr ⟨_, us.toArray, _, hk, rfl, rfl, by rw [List.size_toArray]; exact h1, by simpa using vals_toV h2⟩
mutual
theorem dw_one {Pm : Params} (KX : K.In h) (ar : ∀ a ∈ A, ArgOb h A a) : ∀ (d : WData) (v : Value), Well Pm h v d → plW d = true → OkU A v → Dw K (argH K h A) (toV v) d
  | .none, _, x, _, _ => by
    cases x
    exact .non
  | .bool b, _, x, _, _ => by
    cases x
    exact .bl b
  | .int i, _, x, _, _ => by
    cases x
    exact .int i
  | .str s, _, x, _, _ => by
    cases x
    exact .str s
  | .bytes b, _, x, _, _ => by
    cases x
    have z := Dw.byt (K := K) (H := argH K h A) b.toArray
    exact z
  | .list ds, _, x, p, hu => by
    obtain ⟨a, vs, rfl, ho, hall⟩ := well_list x
    obtain ⟨h2, hs⟩ := argL KX ar hu ho
    exact .lst hs (dw_all KX ar ds _ hall p h2)
  | .tuple ds, _, x, p, hu => by
    obtain ⟨a, vs, rfl, ho, hall⟩ := well_tuple x
    obtain ⟨h2, hs⟩ := argT KX ar hu ho
    exact .tup hs (dw_all KX ar ds _ hall p h2)
  | .float _, _, _, p, _ => Bool.noConfusion (show false = true from p)
  | .dict _, _, _, p, _ => Bool.noConfusion (show false = true from p)
  | .bytearray _, _, _, p, _ => Bool.noConfusion (show false = true from p)
  | .set _, _, _, p, _ => Bool.noConfusion (show false = true from p)
  | .frozenset _, _, _, p, _ => Bool.noConfusion (show false = true from p)
  | .obj _ _, _, _, p, _ => Bool.noConfusion (show false = true from p)
theorem dw_all {Pm : Params} (KX : K.In h) (ar : ∀ a ∈ A, ArgOb h A a) : ∀ (ds : List WData) (vs : List Value), WellAll Pm h vs ds → plWs ds = true → (∀ u ∈ vs, OkU A u) → DwAll K (argH K h A) (vs.map toV) ds
  | [], _, x, _, _ => by
    cases x
    exact .nil
  | d :: ds, _, x, p, hu => by
    obtain ⟨v, vs, rfl, x1, x2⟩ := well_cons x
    have q : plW d = true ∧ plWs ds = true := Bool.and_eq_true_iff.mp p
    exact .cons (dw_one KX ar d v x1 q.1 (hu _ (List.mem_cons_self ..))) (dw_all KX ar ds vs x2 q.2 fun u m => hu u (List.mem_cons_of_mem _ m))
end
end
theorem spec_call {P : Program} {w : World} {K : PySem.W.Frag} {mg mb : Str → Option Value} {CX : CXT} {k : Nat} {fa : Addr} {fd : FuncData} {ps : List Str} {sp : Sp} {s₁ : Shared} {vals : List Value} {ds : List WData} {R : PySem.W.WRecords} {cl : Str → Option Addr} {d0 : WData}
    (KX : K.In s₁.heap) (hns : s₁.heap.Ns mainGlobals mg) (hb : s₁.heap.Ns builtinsNs mb) (hbb : ∀ x : Str, x ≠ "__name__" → mb x = bootBuiltins x) (hlim : s₁.heap.NoLimit) (hg : s₁.gens = #[])
    (hwl : WellAll w.params s₁.heap vals ds) (hpl : plWs ds = true) (hwt : ∀ d ∈ ds, d.weight ≤ 1048576) (hr : Room k callerA)
    (F : ∀ base : Heap, K.In base → base.Ns mainGlobals mg → FnOk P w K mg base CX k fa fd ps sp) (hbind : ∀ (s : Shared) (us : List Value), us.length = ps.length → BindsTo s fd ⟨us, []⟩ (ps.zip us)) (hlen : ds.length = ps.length)
    (hsp : ∀ (H : Hp) (xs : List V), OnlyF H → DwAll K H xs ds → sp xs H (fun v H' => Dw K H' v d0) fun _ _ _ => False)
    (hCX : ∀ H e s', CX [] H s₁ (fun _ _ _ => False) e s' → False) :
    codeAny (model P w) callerA (.call (.ref fa) ⟨vals, []⟩) (fun r s' => ∃ u as, r = .ok (.ret u) ∧ ReadsW R cl s'.heap u d0 as ∧ OldK s₁.heap s'.heap ∧ s'.os = s₁.os ∧ AllBare s'.gens) s₁ := by
  obtain ⟨A, ho, ar⟩ := area_all ds vals hwl hpl hwt
  have hO : OnlyF (argH K s₁.heap A) := argH_only ar
  have hok : HOk P w (argH K s₁.heap A) s₁.heap := argH_ok ar
  have hS := dw_all KX ar ds vals hwl hpl ho
  have hV := vals_toV ho
  have hK : ∀ b u, argH K s₁.heap A b = some u → K.lookup b = none := fun b u q => (argH_is ar q).1
  have noA : ∀ {b : Addr} {o : Obj} {es : Array DictEntry} {ep : Nat}, s₁.heap.get? b = some o → o.data = .dict es ep → argH K s₁.heap A b = none := fun {b o es ep} e d => by
    cases q : argH K s₁.heap A b with
    | none => rfl
    | some u =>
      obtain ⟨_, vs, _, _, ⟨e2, _⟩ | ⟨e2, _⟩⟩ := argH_is ar q
      · rw [e2] at e
        cases e
        have d' : Data.seq vs.toArray _ = Data.dict es ep := d
        cases d'
      · rw [e2] at e
        cases e
        have d' : Data.seq vs.toArray _ = Data.dict es ep := d
        cases d'
  generalize argH K s₁.heap A = H at hO hok hS hK noA
  have base_of : ∀ {b : Addr} {o : Obj}, s₁.heap.get? b = some o → H b = none → (hidT s₁.heap H).get? b = some o := fun e n => hidT_get e n
  have nsK : ∀ {b : Addr} {m : Str → Option Value}, s₁.heap.Ns b m → (hidT s₁.heap H).Ns b m := fun {b m} ⟨o, es, ep, e, d, r⟩ => ⟨o, es, ep, base_of e (noA e d), d, r⟩
  have nK : ∀ b o, K.lookup b = some o → H b = none := fun b o e => by
    cases q : H b with
    | none => rfl
    | some u =>
      rw [hK b u q] at e
      cases e
  have hKb : K.In (hidT s₁.heap H) := fun b o e => base_of (KX b o e) (nK b o e)
  have hM : Mod K mg (hidT s₁.heap H) := ⟨hKb, nsK hns, ⟨mb, nsK hb, hbb⟩, let ⟨mc, h1, h2⟩ := hlim; ⟨mc, nsK h1, h2⟩⟩
  have e0 : Env0 P w K mg (hidT s₁.heap H) callerA [] s₁ H := ⟨rfl, hM, fun b o e => of_hidT e, Nat.le_of_eq (hidT_size _ _), trivial, fun b hb => absurd (show b ∈ ([] : List Addr) from hb) (by simp), hok, .of_eq hg⟩
  have hl : vals.length = ps.length := by rw [wellAll_len hwl]; exact hlen
  refine codeAny_mono ((F _ hKb (nsK hns)).run callerA [] s₁ H ⟨vals, []⟩ vals (vals.map toV) _ _ hr e0 (hbind s₁ vals hl) hV (hsp H _ hO hS)) fun r s' x => ?_
  cases r with
  | error e => exact (hCX H e s' x).elim
  | ok fl =>
    cases fl with
    | next => exact False.elim x
    | brk => exact False.elim x
    | cont => exact False.elim x
    | ret u =>
      obtain ⟨v, H', os, bare, un, hok', r', q⟩ := x
      have kept : ∀ b o, s₁.heap.get? b = some o → s'.heap.get? b = some o := fun b o e => by
        cases q2 : H b with
        | none => exact un.keep b o e q2 (by intro z; exact absurd (show b ∈ ([] : List Addr) from z) (by simp)) (by simp)
        | some u2 =>
          rcases hO b with z | ⟨ob, u3, z⟩
          · rw [q2] at z
            cases z
          · have z2 := un.frzs b ob _ z
            obtain ⟨e1, _⟩ := hok b _ z
            obtain ⟨e2, _⟩ := hok' b _ z2
            rw [e] at e1
            cases e1
            exact e2
      have KX' : K.In s'.heap := fun b o e => kept b o (KX b o e)
      obtain ⟨as, hrd⟩ := Dw.reads (R := R) (cl := cl) hok' KX' d0 v u q r'
      exact ⟨u, as, rfl, hrd, OldK.of_keep kept, os, bare⟩
theorem layable_weight {ds : List WData} (h : WData.layableAll ds = true) : ∀ d ∈ ds, d.weight ≤ 1048576 := fun d hd =>
  (PySem.W.layableW_iff.mp (List.all_eq_true.mp h d hd)).2.2
theorem encAll_len : ∀ (cs : List Codec) (a : Codec.denoteAll cs), (Codec.encAll cs a).length = cs.length
  | [], _ => rfl
  | c :: cs, a => by
    show (Codec.encAll cs a.2).length + 1 = cs.length + 1
    rw [encAll_len cs a.2]
theorem walk_spec {r : OpenSpec} {k : Nat} {q : Program} {loose : List Str} {XP : (Str → Option Value) → Heap → Prop} {YP : World → Heap → Prop} {d : DefRec} {K : Params → PySem.W.Frag} {CX : World → CXT} {ps : List Str} {sp : World → Sp}
    (hwell : r.wellSaid = true) (hdf : d.params.defaults = []) (hlen : r.args.length = ps.length) (hr : Room k callerA)
    (hY : ∀ (w : World) (h : Heap), YP w h → (K w.params).In h)
    (F : ∀ (w : World) (mg : Str → Option Value) (fa : Addr) (h : Heap), YP w h → (K w.params).In h → h.Ns mainGlobals mg → mg d.name = some (.ref fa) →
      ∃ fd : FuncData, (∀ (s : Shared) (us : List Value), us.length = ps.length → BindsTo s fd ⟨us, []⟩ (ps.zip us)) ∧
        ∀ base : Heap, (K w.params).In base → base.Ns mainGlobals mg → FnOk r.prog w (K w.params) mg base (CX w) k fa fd ps (sp w))
    (hsp : ∀ (w : World) (H : Hp) (xs : List V) (a : Codec.denoteAll r.args), OnlyF H → Codec.withinAll r.args a = true → Codec.app r.args r.asked a = true → DwAll (K w.params) H xs (Codec.encAll r.args a) →
      sp w xs H (fun v H' => Dw (K w.params) H' v (r.ret.enc (Codec.app r.args r.f a))) fun _ _ _ => False)
    (hCX : ∀ (w : World) (H : Hp) (s : Shared) (e : Value) (s' : Shared), CX w [] H s (fun _ _ _ => False) e s' → False) :
    PySem.W.WalkOS q loose XP YP r d [] (fun f vs => PySem.call f vs) := by
  intro w s_0 s₁ mg mb G Y fa o pm cd doc dV kV ho hd hcd hD hmg hg args vals as hpre hlay hrd hwl hlo
  obtain ⟨a, e1, e2⟩ := PySem.W.os_pre_some hpre
  obtain ⟨e3, hwi⟩ := Codec.encAll_of_decAll r.args args a e1
  subst e3
  have KX := hY w _ Y
  obtain ⟨fd, hb, hF⟩ := F w mg fa _ Y KX G.T.g hmg
  refine PySem.W.enter_call (codeAny_mono (spec_call (R := []) (cl := classAt s_0.heap) (d0 := r.ret.enc (Codec.app r.args r.f a)) KX G.T.g G.T.b G.T.builtins G.T.nolimit hg hwl (pl_encAll _ _) (layable_weight hlay) hr hF hb (by rw [encAll_len]; exact hlen)
    (fun H xs hO hS => hsp w H xs a hO hwi e2 hS) fun H e s' => hCX w H s₁ e s') fun r' s' hq => ?_)
  obtain ⟨u, as', rfl, h1, h2, h3, h4⟩ := hq
  exact ⟨.inl ⟨u, _, as', rfl, fun _ => rfl, h1, (OpenSpec.post_iff hwell hwi _ _).mpr rfl, fun z => Bool.noConfusion (show false = true from z)⟩, h2, h3, h4⟩
theorem walk_specK {r : OpenSpec} {k : Nat} {q : Program} {loose : List Str} {XP : (Str → Option Value) → Heap → Prop} {YP : World → Heap → Prop} {d : DefRec} {K : Params → PySem.W.Frag} {CX : CXT} {ps : List Str} {sp : PySem.W.Frag → Sp}
    (hwell : r.wellSaid = true) (hdf : d.params.defaults = []) (hlen : r.args.length = ps.length) (hr : Room k callerA)
    (hY : ∀ (w : World) (h : Heap), YP w h → (K w.params).In h)
    (F : ∀ (w : World) (mg : Str → Option Value) (fa : Addr) (h : Heap), YP w h → (K w.params).In h → h.Ns mainGlobals mg → mg d.name = some (.ref fa) →
      ∃ fd : FuncData, (∀ (s : Shared) (us : List Value), us.length = ps.length → BindsTo s fd ⟨us, []⟩ (ps.zip us)) ∧
        ∀ base : Heap, (K w.params).In base → base.Ns mainGlobals mg → FnOk r.prog w (K w.params) mg base CX k fa fd ps (sp (K w.params)))
    (hsp : ∀ (K : PySem.W.Frag) (H : Hp) (xs : List V) (a : Codec.denoteAll r.args), OnlyF H → Codec.withinAll r.args a = true → Codec.app r.args r.asked a = true → DwAll K H xs (Codec.encAll r.args a) →
      sp K xs H (fun v H' => Dw K H' v (r.ret.enc (Codec.app r.args r.f a))) fun _ _ _ => False)
    (hCX : ∀ (H : Hp) (s : Shared) (e : Value) (s' : Shared), CX [] H s (fun _ _ _ => False) e s' → False) :
    PySem.W.WalkOS q loose XP YP r d [] (fun f vs => PySem.call f vs) :=
  walk_spec (K := K) (CX := fun _ => CX) (sp := fun w => sp (K w.params)) hwell hdf hlen hr hY F (fun w H xs a h1 h2 h3 h4 => hsp (K w.params) H xs a h1 h2 h3 h4) fun _ H s e s' => hCX H s e s'
end L2
-- rests on (row put in by the clerk, for the bench that shows a file only what it spells): KE.SpHead KE.OsShapes
end

namespace Fw
open Uw35
set_option linter.all false
/-! ### directions -/
theorem cross_trans {ux uy vx vy wx wy : Int} (hu : 0 < uy ∨ (uy = 0 ∧ 0 < ux)) (hv : 0 < vy ∨ (vy = 0 ∧ 0 < vx)) (hw : 0 < wy ∨ (wy = 0 ∧ 0 < wx))
    (h1 : 0 < ux * vy - uy * vx) (h2 : 0 < vx * wy - vy * wx) : 0 < ux * wy - uy * wx := by
  have idn : (ux * wy - uy * wx) * vy = (ux * vy - uy * vx) * wy + (vx * wy - vy * wx) * uy := by grind
  have uy0 : 0 ≤ uy := by omega
  have wy0 : 0 ≤ wy := by omega
  rcases hv with hv | ⟨hv, hvx⟩
  · rcases Int.lt_or_le 0 (ux * wy - uy * wx) with h | h
    · exact h
    · exfalso
      have a := Int.mul_nonneg (Int.le_of_lt h1) wy0
      have b := Int.mul_nonneg (Int.le_of_lt h2) uy0
      have c : (ux * wy - uy * wx) * vy ≤ 0 := Int.mul_nonpos_of_nonpos_of_nonneg h (Int.le_of_lt hv)
      have wz : wy = 0 := by
        rcases Int.lt_or_le 0 wy with z | z
        · have := Int.mul_pos h1 z
          omega
        · omega
      have wx0 : 0 < wx := by omega
      have := Int.mul_pos hv wx0
      rw [wz] at h2
      rw [Int.mul_zero] at h2
      omega
  · exfalso
    rw [hv, Int.mul_zero] at h1
    have := Int.mul_nonneg uy0 (Int.le_of_lt hvx)
    omega
theorem half_le (u : Int × Int) : half u = 0 ∨ half u = 1 := by
  unfold half
  split
  · exact .inl rfl
  · exact .inr rfl
theorem half_zero {u : Int × Int} (h : half u = 0) : 0 < u.2 ∨ (u.2 = 0 ∧ 0 < u.1) := by
  unfold half at h
  split at h
  · assumption
  · cases h
theorem half_one {u : Int × Int} (h : half u = 1) : ¬ (0 < u.2 ∨ (u.2 = 0 ∧ 0 < u.1)) := by
  unfold half at h
  split at h
  · cases h
  · assumption
theorem before_iff (u v : Int × Int) : before u v = true ↔ half u < half v ∨ (half u = half v ∧ 0 < u.1 * v.2 - u.2 * v.1) := by
  unfold before
  rw [Bool.or_eq_true, Bool.and_eq_true, decide_eq_true_iff, decide_eq_true_iff, beq_iff_eq]
theorem before_trans {u v w : Int × Int} (h1 : before u v = true) (h2 : before v w = true) : before u w = true := by
  rw [before_iff] at h1 h2 ⊢
  rcases h1 with h1 | ⟨e1, h1⟩
  · rcases h2 with h2 | ⟨e2, h2⟩
    · exact .inl (by omega)
    · exact .inl (by omega)
  · rcases h2 with h2 | ⟨e2, h2⟩
    · exact .inl (by omega)
    · refine .inr ⟨by omega, ?_⟩
      rcases half_le u with hu | hu
      · exact cross_trans (half_zero hu) (half_zero (by omega)) (half_zero (by omega)) h1 h2
      · have a := half_one hu
        have b := half_one (show half v = 1 by omega)
        have c := half_one (show half w = 1 by omega)
        obtain ⟨ux, uy⟩ := u
        obtain ⟨vx, vy⟩ := v
        obtain ⟨wx, wy⟩ := w
        simp only at a b c h1 h2 ⊢
        have n1 : ¬ (ux = 0 ∧ uy = 0) := by rintro ⟨rfl, rfl⟩; rw [Int.zero_mul, Int.zero_mul] at h1; omega
        have n2 : ¬ (vx = 0 ∧ vy = 0) := by rintro ⟨rfl, rfl⟩; rw [Int.zero_mul, Int.zero_mul] at h2; omega
        have n3 : ¬ (wx = 0 ∧ wy = 0) := by rintro ⟨rfl, rfl⟩; rw [Int.mul_zero, Int.mul_zero] at h2; omega
        have t := @cross_trans (-ux) (-uy) (-vx) (-vy) (-wx) (-wy) (by omega) (by omega) (by omega) (by rw [Int.neg_mul_neg, Int.neg_mul_neg]; exact h1) (by rw [Int.neg_mul_neg, Int.neg_mul_neg]; exact h2)
        rw [Int.neg_mul_neg, Int.neg_mul_neg] at t
        exact t
theorem before_ite (u v : Int × Int) : before u v = (if half u = half v then decide (0 < u.1 * v.2 - u.2 * v.1) else decide (half u < half v)) := by
  unfold before
  by_cases h : half u = half v
  · rw [if_pos h, decide_eq_false (show ¬ half u < half v by omega), Bool.false_or, beq_iff_eq.mpr h, Bool.true_and]
  · rw [if_neg h, beq_eq_false_iff_ne.mpr h, Bool.false_and, Bool.or_false]
/-! ### marks -/
theorem good_cons {a b : Int × Int} {l : List (Int × Int)} : goodMarks (a :: b :: l) = (a != (0, 0) && (before a b && goodMarks (b :: l))) := rfl
theorem good_nz : ∀ {ms : List (Int × Int)}, goodMarks ms = true → ∀ m ∈ ms, m ≠ (0, 0)
  | [], _ => fun m h => by cases h
  | [a], h => fun m hm => by
    cases List.mem_singleton.mp hm
    exact bne_iff_ne.mp h
  | a :: b :: l, h => fun m hm => by
    rw [good_cons, Bool.and_eq_true, Bool.and_eq_true] at h
    rcases List.mem_cons.mp hm with rfl | hm
    · exact bne_iff_ne.mp h.1
    · exact good_nz h.2.2 m hm
theorem good_next : ∀ {ms : List (Int × Int)}, goodMarks ms = true → ∀ {j : Nat} {u v : Int × Int}, ms[j]? = some u → ms[j + 1]? = some v → before u v = true
  | [], _, j, u, v, h1, _ => by simp at h1
  | [a], _, j, u, v, _, h2 => by simp at h2
  | a :: b :: l, h, 0, u, v, h1, h2 => by
    rw [good_cons, Bool.and_eq_true, Bool.and_eq_true] at h
    simp at h1 h2
    subst h1 h2
    exact h.2.1
  | a :: b :: l, h, j + 1, u, v, h1, h2 => by
    rw [good_cons, Bool.and_eq_true, Bool.and_eq_true] at h
    exact good_next h.2.2 (j := j) (by simpa using h1) (by simpa using h2)
theorem good_of : ∀ {ms : List (Int × Int)}, (∀ m ∈ ms, m ≠ (0, 0)) → (∀ (j : Nat) (u v : Int × Int), ms[j]? = some u → ms[j + 1]? = some v → before u v = true) → goodMarks ms = true
  | [], _, _ => rfl
  | [a], h, _ => bne_iff_ne.mpr (h a (List.mem_singleton.mpr rfl))
  | a :: b :: l, h, k => by
    rw [good_cons, Bool.and_eq_true, Bool.and_eq_true]
    exact ⟨bne_iff_ne.mpr (h a List.mem_cons_self), k 0 a b rfl rfl, good_of (fun m hm => h m (List.mem_cons_of_mem _ hm)) fun j u v h1 h2 => k (j + 1) u v h1 h2⟩
theorem bad_zero {ms : List (Int × Int)} (h : (0, 0) ∈ ms) : goodMarks ms = false := by
  cases e : goodMarks ms with
  | false => rfl
  | true => exact absurd rfl (good_nz e _ h)
theorem bad_next {ms : List (Int × Int)} {j : Nat} {u v : Int × Int} (h1 : ms[j]? = some u) (h2 : ms[j + 1]? = some v) (h : before u v = false) : goodMarks ms = false := by
  cases e : goodMarks ms with
  | false => rfl
  | true => rw [good_next e h1 h2] at h; cases h
/-- the loop of sector_of, behind i turns -/
def secAt (v : Int × Int) (ms : List (Int × Int)) : Nat → Int
  | 0 => (ms.length : Int) - 1
  | i + 1 => if before v (ms.getD i (0, 0)) = true then secAt v ms i else (i : Int)
theorem take_snoc {α : Type} : ∀ {l : List α} {i : Nat} {x : α}, l[i]? = some x → l.take (i + 1) = l.take i ++ [x]
  | [], i, x, h => by simp at h
  | a :: l, 0, x, h => by
    have e : a = x := Option.some.inj h
    subst e
    rfl
  | a :: l, i + 1, x, h => by
    have ih := take_snoc (l := l) (i := i) (x := x) h
    show a :: l.take (i + 1) = a :: l.take i ++ [x]
    rw [ih]
    rfl
theorem getD_of {α : Type} {l : List α} {i : Nat} {x d : α} (h : l[i]? = some x) : l.getD i d = x := by
  rw [List.getD_eq_getElem?_getD, h]
  rfl
theorem sec_inv {v : Int × Int} {ms : List (Int × Int)} (hg : goodMarks ms = true) : ∀ i, i ≤ ms.length →
    (secAt v ms i = (if ((ms.take i).filter fun m => !before v m).length = 0 then (ms.length : Int) - 1 else (((ms.take i).filter fun m => !before v m).length : Int) - 1)) ∧
      (((ms.take i).filter fun m => !before v m).length = i ∨ ∃ j u, i = j + 1 ∧ ms[j]? = some u ∧ before v u = true)
  | 0, _ => ⟨by simp [secAt], .inl (by simp)⟩
  | i + 1, h => by
    obtain ⟨h1, h2⟩ := sec_inv hg i (by omega)
    obtain ⟨m, hm⟩ : ∃ m, ms[i]? = some m := ⟨_, List.getElem?_eq_getElem (by omega)⟩
    have e : ((ms.take (i + 1)).filter fun m => !before v m).length = ((ms.take i).filter fun m => !before v m).length + (if before v m = true then 0 else 1) := by
      rw [take_snoc hm, List.filter_append, List.length_append, List.filter_cons]
      cases before v m <;> simp
    rw [e]
    show (if before v (ms.getD i (0, 0)) = true then secAt v ms i else (i : Int)) = _ ∧ _
    rw [getD_of hm]
    by_cases hb : before v m = true
    · rw [if_pos hb, if_pos hb, Nat.add_zero]
      exact ⟨h1, .inr ⟨i, m, rfl, hm, hb⟩⟩
    · rw [if_neg hb, if_neg hb]
      rcases h2 with h2 | ⟨j, u, rfl, hu, hbu⟩
      · rw [h2]
        refine ⟨?_, .inl rfl⟩
        rw [if_neg (by omega)]
        omega
      · exact absurd (before_trans hbu (good_next hg hu hm)) hb
theorem sec_ok {v : Int × Int} {ms : List (Int × Int)} (hg : goodMarks ms = true) (hn : ms ≠ []) : secAt v ms ms.length = (sectorOf ms v : Int) := by
  have h := (sec_inv (v := v) hg ms.length (Nat.le_refl _)).1
  rw [List.take_length] at h
  rw [h]
  have hl : 0 < ms.length := List.length_pos_iff.mpr hn
  show _ = (((if (ms.filter fun m => !before v m).length = 0 then ms.length - 1 else (ms.filter fun m => !before v m).length - 1) : Nat) : Int)
  split
  · omega
  · omega
theorem sector_lt {v : Int × Int} {ms : List (Int × Int)} (hn : ms ≠ []) : sectorOf ms v < ms.length := by
  have hl : 0 < ms.length := List.length_pos_iff.mpr hn
  have hf : (ms.filter fun m => !before v m).length ≤ ms.length := List.length_filter_le _ _
  show (if (ms.filter fun m => !before v m).length = 0 then ms.length - 1 else (ms.filter fun m => !before v m).length - 1) < ms.length
  split <;> omega
/-! ### numbers to marks -/
theorem vectors_len : ∀ ns : List Nat, (vectors ns).length = ns.length / 2
  | [] => rfl
  | [a] => by simp [vectors]
  | a :: b :: l => by
    show (vectors l).length + 1 = (l.length + 2) / 2
    rw [vectors_len l]
    omega
theorem vectors_at : ∀ {ns : List Nat} {i : Nat} {a b : Nat}, ns[2 * i]? = some a → ns[2 * i + 1]? = some b → (vectors ns)[i]? = some ((a : Int) - 10, (b : Int) - 10)
  | [], i, a, b, h, _ => by simp at h
  | [x], i, a, b, _, h => by simp at h
  | x :: y :: l, 0, a, b, h1, h2 => by
    simp at h1 h2
    subst h1 h2
    rfl
  | x :: y :: l, i + 1, a, b, h1, h2 => by
    show (vectors l)[i]? = _
    refine vectors_at (i := i) ?_ ?_
    · rw [show 2 * (i + 1) = 2 * i + 2 by omega] at h1
      simpa using h1
    · rw [show 2 * (i + 1) + 1 = 2 * i + 1 + 2 by omega] at h2
      simpa using h2
end Fw
namespace Fw
open Uw35
set_option linter.all false
/-! ### groups -/
def grpAdd (k : Int) (p : Nat) : List (Int × List Nat) → List (Int × List Nat)
  | [] => [(k, [p])]
  | g :: r => if g.1 = k then (g.1, g.2 ++ [p]) :: r else g :: grpAdd k p r
def grpAll (f : Nat → Int) : List Nat → List (Int × List Nat) → List (Int × List Nat)
  | [], g => g
  | p :: r, g => grpAll f r (grpAdd (f p) p g)
def grps (f : Nat → Int) (l : List Nat) : List (Int × List Nat) := l.foldl (fun g p => grpAdd (f p) p g) []
theorem grps_snoc (f : Nat → Int) (l : List Nat) (p : Nat) : grps f (l ++ [p]) = grpAdd (f p) p (grps f l) := by
  unfold grps
  rw [List.foldl_append]
  rfl
theorem grpAdd_keys (k : Int) (p : Nat) : ∀ g : List (Int × List Nat), (grpAdd k p g).map (·.1) = if k ∈ g.map (·.1) then g.map (·.1) else g.map (·.1) ++ [k]
  | [] => rfl
  | a :: r => by
    show ((if a.1 = k then (a.1, a.2 ++ [p]) :: r else a :: grpAdd k p r) : List (Int × List Nat)).map (·.1) = _
    by_cases h : a.1 = k
    · rw [if_pos h, if_pos (by rw [List.map_cons, h]; exact List.mem_cons_self)]
      rfl
    · rw [if_neg h, List.map_cons, grpAdd_keys k p r, List.map_cons]
      by_cases hk : k ∈ r.map (·.1)
      · rw [if_pos hk, if_pos (List.mem_cons_of_mem _ hk)]
      · rw [if_neg hk, if_neg (by rw [List.mem_cons]; rintro (e | e); exact h e.symm; exact hk e)]
        rfl
theorem grpAdd_len (k : Int) (p : Nat) : ∀ g : List (Int × List Nat), (grpAdd k p g).length ≤ g.length + 1
  | [] => Nat.le_refl _
  | a :: r => by
    show ((if a.1 = k then (a.1, a.2 ++ [p]) :: r else a :: grpAdd k p r) : List (Int × List Nat)).length ≤ _
    split
    · show r.length + 1 ≤ r.length + 1 + 1
      omega
    · have := grpAdd_len k p r
      show (grpAdd k p r).length + 1 ≤ r.length + 1 + 1
      omega
theorem grps_len (f : Nat → Int) (l : List Nat) : (grps f l).length ≤ l.length := by
  have : ∀ (l : List Nat) (g : List (Int × List Nat)), (l.foldl (fun g p => grpAdd (f p) p g) g).length ≤ g.length + l.length := by
    intro l
    induction l with
    | nil => intro g; exact Nat.le_refl _
    | cons a r ih =>
      intro g
      have h1 := ih (grpAdd (f a) a g)
      have h2 := grpAdd_len (f a) a g
      show (r.foldl _ (grpAdd (f a) a g)).length ≤ g.length + (r.length + 1)
      omega
  have h := this l []
  simpa [grps] using h
theorem grpAdd_in (k : Int) (p : Nat) : ∀ g : List (Int × List Nat), ∀ x ∈ grpAdd k p g, ∀ z ∈ x.2, z = p ∨ ∃ y ∈ g, z ∈ y.2
  | [], x, hx, z, hz => by
    cases List.mem_singleton.mp hx
    exact .inl (List.mem_singleton.mp hz)
  | a :: r, x, hx, z, hz => by
    have hx : x ∈ ((if a.1 = k then (a.1, a.2 ++ [p]) :: r else a :: grpAdd k p r) : List (Int × List Nat)) := hx
    split at hx
    · rcases List.mem_cons.mp hx with rfl | hx
      · rcases List.mem_append.mp hz with h | h
        · exact .inr ⟨a, List.mem_cons_self, h⟩
        · exact .inl (List.mem_singleton.mp h)
      · exact .inr ⟨x, List.mem_cons_of_mem _ hx, hz⟩
    · rcases List.mem_cons.mp hx with rfl | hx
      · exact .inr ⟨x, List.mem_cons_self, hz⟩
      · rcases grpAdd_in k p r x hx z hz with h | ⟨y, hy, h⟩
        · exact .inl h
        · exact .inr ⟨y, List.mem_cons_of_mem _ hy, h⟩
theorem grpAdd_ne (k : Int) (p : Nat) : ∀ g : List (Int × List Nat), (∀ x ∈ g, x.2 ≠ []) → ∀ x ∈ grpAdd k p g, x.2 ≠ []
  | [], _, x, hx => by
    cases List.mem_singleton.mp hx
    simp
  | a :: r, h, x, hx => by
    have hx : x ∈ ((if a.1 = k then (a.1, a.2 ++ [p]) :: r else a :: grpAdd k p r) : List (Int × List Nat)) := hx
    split at hx
    · rcases List.mem_cons.mp hx with rfl | hx
      · simp
      · exact h x (List.mem_cons_of_mem _ hx)
    · rcases List.mem_cons.mp hx with rfl | hx
      · exact h _ List.mem_cons_self
      · exact grpAdd_ne k p r (fun y hy => h y (List.mem_cons_of_mem _ hy)) x hx
/-- what the groups are: the keys in the order of their first cells, the cells of each -/
def partsF {β : Type} [BEq β] (f : Nat → β) (l : List Nat) : List (List Nat) := (l.map f).eraseDups.map fun a => l.filter fun q => f q == a
theorem erase_snoc (l : List Int) (k : Int) : (l ++ [k]).eraseDups = if k ∈ l then l.eraseDups else l.eraseDups ++ [k] := by
  rw [List.eraseDups_append]
  by_cases h : k ∈ l
  · rw [if_pos h]
    simp [List.removeAll, h]
  · rw [if_neg h]
    simp [List.removeAll, h, List.eraseDups]
    rfl
theorem nodup_erase {α : Type} [BEq α] [LawfulBEq α] (l : List α) : l.eraseDups.Nodup := by
  have key : ∀ (n : Nat) (l : List α), l.length ≤ n → l.eraseDups.Nodup := by
    intro n
    induction n with
    | zero =>
      intro l h
      cases List.length_eq_zero_iff.mp (Nat.le_zero.mp h)
      exact List.nodup_nil
    | succ n ih =>
      intro l h
      match l, h with
      | [], _ => exact List.nodup_nil
      | a :: r, h =>
        rw [List.eraseDups_cons]
        refine List.nodup_cons.mpr ⟨fun m => ?_, ih _ (Nat.le_trans (List.length_filter_le _ _) (Nat.le_of_succ_le_succ h))⟩
        have := (List.mem_filter.mp (List.mem_eraseDups.mp m)).2
        simp at this
  exact key l.length l (Nat.le_refl _)
theorem mem_erase {l : List Int} {k : Int} : k ∈ l.eraseDups ↔ k ∈ l := List.mem_eraseDups
theorem grps_eq (f : Nat → Int) : ∀ l : List Nat, grps f l = (l.map f).eraseDups.map fun a => (a, l.filter fun q => f q == a) := by
  have key : ∀ (n : Nat) (l : List Nat), l.length = n → grps f l = (l.map f).eraseDups.map fun a => (a, l.filter fun q => f q == a) := by
    intro n
    induction n with
    | zero =>
      intro l h
      cases List.length_eq_zero_iff.mp h
      rfl
    | succ n ih =>
      intro l h
      obtain ⟨r, p, rfl⟩ : ∃ r p, l = r ++ [p] := by
        have hne : l ≠ [] := by intro e; rw [e] at h; cases h
        exact ⟨l.dropLast, l.getLast hne, (List.dropLast_concat_getLast hne).symm⟩
      have hr : r.length = n := by simpa using h
      rw [grps_snoc, ih r hr, List.map_append, List.map_cons, List.map_nil, erase_snoc]
      have fl : ∀ a, ((r ++ [p]).filter fun q => f q == a) = if f p = a then (r.filter fun q => f q == a) ++ [p] else r.filter fun q => f q == a := by
        intro a
        rw [List.filter_append, List.filter_cons]
        by_cases e : f p = a
        · rw [if_pos e, if_pos (beq_iff_eq.mpr e)]; rfl
        · rw [if_neg e, if_neg (by simp [e])]; simp
      simp only [fl]
      have add : ∀ ks : List Int, ks.Nodup → grpAdd (f p) p (ks.map fun a => (a, r.filter fun q => f q == a)) =
          if f p ∈ ks then ks.map (fun a => (a, if f p = a then (r.filter fun q => f q == a) ++ [p] else r.filter fun q => f q == a)) else (ks.map fun a => (a, r.filter fun q => f q == a)) ++ [(f p, [p])] := by
        intro ks
        induction ks with
        | nil => intro _; rfl
        | cons a ks ih =>
          intro nd
          obtain ⟨n1, n2⟩ := List.nodup_cons.mp nd
          show (if a = f p then (a, (r.filter fun q => f q == a) ++ [p]) :: ks.map (fun a => (a, r.filter fun q => f q == a)) else (a, r.filter fun q => f q == a) :: grpAdd (f p) p (ks.map fun a => (a, r.filter fun q => f q == a))) = _
          by_cases e : a = f p
          · rw [if_pos e, if_pos (by rw [e]; exact List.mem_cons_self), List.map_cons, if_pos e.symm]
            congr 1
            refine List.map_congr_left fun b hb => ?_
            rw [if_neg (by intro z; rw [← e] at z; rw [← z] at hb; exact n1 hb)]
          · rw [if_neg e, ih n2]
            by_cases hm : f p ∈ ks
            · rw [if_pos hm, if_pos (List.mem_cons_of_mem _ hm), List.map_cons, if_neg (fun z => e z.symm)]
            · rw [if_neg hm, if_neg (by rw [List.mem_cons]; rintro (z | z); exact e z.symm; exact hm z)]
              rfl
      have nd : (r.map f).eraseDups.Nodup := nodup_erase _
      rw [add _ nd]
      by_cases hm : f p ∈ r.map f
      · rw [if_pos (mem_erase.mpr hm), if_pos hm]
      · rw [if_neg (fun z => hm (mem_erase.mp z)), if_neg hm, List.map_append]
        congr 1
        · refine List.map_congr_left fun b hb => ?_
          rw [if_neg (by intro z; rw [← z] at hb; exact hm (mem_erase.mp hb))]
        · rw [List.map_cons, List.map_nil, if_pos rfl]
          have : (r.filter fun q => f q == f p) = [] := by
            rw [List.filter_eq_nil_iff]
            intro q hq e
            exact hm (List.mem_map.mpr ⟨q, hq, eq_of_beq e⟩)
          rw [this]
          rfl
  exact fun l => key l.length l rfl
theorem grps_parts (f : Nat → Int) (l : List Nat) : (grps f l).map (·.2) = partsF f l := by
  rw [grps_eq, List.map_map]
  rfl
end Fw
set_option Elab.async false
set_option linter.all false
set_option maxRecDepth 100000
set_option maxHeartbeats 2000000
namespace Fw
open PySem PySem.Spec PyProof.Rows L2
/-! ### the text by places -/
def top (i : Nat) : Stmt := PySem.Challenge.pw_firewatch_s01_answers.main.body.getD i (.Pass ⟨0, 0, 0, 0⟩)
/-! ### short words -/
/-- a module's whole number -/
def CInt (mg : Str → Option Value) (x : Str) (i : Int) : Prop := ∃ u, mg x = some u ∧ RelV (.int i) u
theorem pe_cint {X : Cx} {x : Str} {i : Int} {pos : Pos} (h : CInt X.mg x i) (hg : Gl X x) (hd : (x == ("__debug__" : Str)) = false := by decide) : PE X (.Name x pos) (tC (.int i)) := by
  obtain ⟨u, h1, h2⟩ := h
  exact pe_glob hg h1 h2 hd
/-- a def of the text that keeps its promise -/
structure Fn (P : Program) (w : World) (K : PySem.W.Frag) (mg : Str → Option Value) (base : Heap) (x : Str) (k : Nat) (ps : List Str) (sp : Sp) : Prop where
  ex : ∃ f fd, mg x = some (.ref f) ∧ PySem.W.keepIn K (.ref f) = true ∧ Binds K fd ps [] ∧ FnOk P w K mg base CX0 k f fd ps sp
/-- a method -/
structure Mt (P : Program) (w : World) (K : PySem.W.Frag) (mg : Str → Option Value) (base : Heap) (C : Addr) (m : Str) (k : Nat) (ps : List Str) (sp : Sp) : Prop where
  ex : ∃ f fd, Meth K C m f ∧ Binds K fd ps [] ∧ FnOk P w K mg base CX0 k f fd ps sp
section
variable {X : Cx} {k : Nat} {x m : Str} {ps : List Str} {sp : Sp} {p pos apos : Pos} {e o : Expr} {es : List Expr} {t : TA} {ta : TE} {C : Addr}
theorem pe_fn (F : Fn X.prog X.w X.K X.mg X.base x k ps sp) (hr : Room k X.A) (hg : Gl X x) (ha : PA X (e :: es) t) (hdb : (x == ("__debug__" : Str)) = false := by decide)
    (he : starEach (e :: es) X.env = (false, eval e X.env) :: starEach es X.env := by rfl) (hpl : (backTo pos (starEach es X.env)).any (·.1) = false := by rfl) :
    PE X (.Call (.Name x p) (e :: es) [] pos) (tCall sp [] E0 t) := by
  obtain ⟨f, fd, h1, h2, h3, h4⟩ := F.ex
  exact pe_call h4 hr hg h1 h2 h3 .nil pass0 ha hdb he hpl
theorem pe_mt (he : PE X o ta) (c : Cls X.K C) (M : Mt X.prog X.w X.K X.mg X.base C m k ps sp) (hr : Room k X.A) (ha : PA X (e :: es) t)
    (hst : starEach (e :: es) X.env = (false, eval e X.env) :: starEach es X.env := by rfl) (hpl : (backTo pos (starEach es X.env)).any (·.1) = false := by rfl)
    {pl : Sem Bool} (ht : eval (.Call (.Attribute o m apos) (e :: es) [] pos) X.env = (do
      let ov ← eval o X.env
      standAt apos.atName
      let (f, first) ← holding [ov] (getMethod ov m pl)
      callWith pos f first (backTo pos (starEach (e :: es) X.env)) (backToKw pos (keywordEach [] X.env))) := by rfl) :
    PE X (.Call (.Attribute o m apos) (e :: es) [] pos) (tMeth C m sp [] E0 ta t) := by
  obtain ⟨f, fd, h1, h2, h3⟩ := M.ex
  exact pe_meth he c h1 h3 hr h2 .nil pass0 ha hst hpl ht
end
theorem iteB {A B : Prop} {c : Bool} (h1 : c = true → A) (h2 : c = false → B) : if c = true then A else B := by
  cases c with
  | true => exact iteT (h1 rfl)
  | false => exact iteF (h2 rfl)
theorem same_new {H : Hp} {p : Addr} {o : HO} (h : H p = none) : Same H (upd H p o) := fun b u e => by
  rw [upd_ne (ne_of_none e h)]
  exact e
end Fw
set_option Elab.async false
set_option linter.all false
set_option maxRecDepth 100000
set_option maxHeartbeats 2000000
namespace Fw
open PySem PySem.Spec PyProof.Rows L2
section
variable {P : Program} {w : World} {K : PySem.W.Frag} {mg : Str → Option Value} {base : Heap}
/-! ### half_of_round, comes_before -/
abbrev sHalf : Stmt := top 2
abbrev sBefore : Stmt := top 3
def spHalf (K : PySem.W.Frag) : Sp := fun vs H Q _ => ∃ (a : Addr) (u : Int × Int), vs = [.ref a] ∧ SqT K H a [.int u.1, .int u.2] ∧ Q (.int (Uw35.half u : Nat)) H
theorem scHalf : FnScope ["direction"] ["direction"] (defScope sHalf) := ⟨rfl, rfl, rfl, by decide +kernel, rfl, by decide +kernel, by decide +kernel⟩
theorem ok_half {f : Addr} {fd : FuncData} (F : Fun K "half_of_round" "half_of_round" sHalf f fd) : FnOk P w K mg base CX0 1 f fd ["direction"] (spHalf K) := by
  refine F.ok scHalf (fun vs H Q E h => ?_) (fun cdv A outer s H vs Q E hr h => ?_)
  · obtain ⟨a, u, rfl, _⟩ := h
    rfl
  · obtain ⟨a, ⟨x, y⟩, rfl, hT, q⟩ := h
    refine ⟨_, pss_cons (ps_if (PW.pt (pw_or (pt_cmpR op_gt (pe_ix ix_tup (pv 0) pe_int (fun _ _ => rfl)) pe_int (nomark _))
      (pw_or1 (PW.pt (pw_and (pt_cmpR op_eq (pe_ix ix_tup (pv 0) pe_int (fun _ _ => rfl)) pe_int (nomark _)) (pw_and1 (pt_cmpR op_gt (pe_ix ix_tup (pv 0) pe_int (fun _ _ => rfl)) pe_int (nomark _))))))))
      (pss_one (ps_ret pe_int)) pss_nil) (pss_one (ps_ret pe_int)), ?_⟩
    refine ⟨_, rfl, a, _, _, _, rfl, rfl, hT, rfl, _, _, rfl, rfl, _, rfl, ?_⟩
    refine ite2 (fun h => ?_) (fun h => ?_)
    · rw [decide_eq_true_iff] at h
      have e : Uw35.half (x, y) = 0 := by unfold Uw35.half; rw [if_pos (.inl h)]
      rw [e] at q
      exact iteT q
    · rw [decide_eq_true_iff] at h
      refine ⟨_, rfl, a, _, _, _, rfl, rfl, hT, rfl, rfl, _, rfl, ?_⟩
      refine ite2 (fun h1 => ?_) (fun h1 => ?_)
      · rw [decide_eq_true_iff] at h1
        refine ⟨_, rfl, a, _, _, _, rfl, rfl, hT, rfl, _, _, rfl, rfl, _, rfl, ?_⟩
        refine ite2 (fun h2 => ?_) (fun h2 => ?_)
        · rw [decide_eq_true_iff] at h2
          have e : Uw35.half (x, y) = 0 := by unfold Uw35.half; rw [if_pos (.inr ⟨V.int.inj h1, h2⟩)]
          rw [e] at q
          exact q
        · rw [decide_eq_true_iff] at h2
          have e : Uw35.half (x, y) = 1 := by unfold Uw35.half; rw [if_neg (by rintro (z | ⟨_, z⟩); exact h z; exact h2 z)]
          rw [e] at q
          exact q
      · rw [decide_eq_true_iff] at h1
        have e : Uw35.half (x, y) = 1 := by unfold Uw35.half; rw [if_neg (by rintro (z | ⟨z, _⟩); exact h z; exact h1 (congrArg V.int z))]
        rw [e] at q
        exact iteF q
/-- a direction whose numbers are small -/
def Small (u : Int × Int) : Prop := -1000 ≤ u.1 ∧ u.1 ≤ 1000 ∧ -1000 ≤ u.2 ∧ u.2 ≤ 1000
def spBefore (K : PySem.W.Frag) : Sp := fun vs H Q _ => ∃ (a b : Addr) (u v : Int × Int), vs = [.ref a, .ref b] ∧ SqT K H a [.int u.1, .int u.2] ∧ SqT K H b [.int v.1, .int v.2] ∧ Small u ∧ Q (.bl (Uw35.before u v)) H
theorem scBefore : FnScope ["first", "second", "first_half", "second_half"] ["first", "second"] (defScope sBefore) := ⟨rfl, rfl, rfl, by decide +kernel, rfl, by decide +kernel, by decide +kernel⟩
theorem ok_before {f : Addr} {fd : FuncData} (F : Fun K "comes_before" "comes_before" sBefore f fd) (FH : Fn P w K mg base "half_of_round" 1 ["direction"] (spHalf K)) : FnOk P w K mg base CX0 2 f fd ["first", "second"] (spBefore K) := by
  refine F.ok scBefore (fun vs H Q E h => ?_) (fun cdv A outer s H vs Q E hr h => ?_)
  · obtain ⟨a, b, u, v, rfl, _⟩ := h
    rfl
  · obtain ⟨a, b, u, v, rfl, hu, hv, hs, q⟩ := h
    refine ⟨_, pss_cons (ps_set (i := 2) scBefore.nd rfl (Or.inl rfl) (pe_fn FH hr rfl (pa_cons (pv 0) pa_nil)))
      (pss_cons (ps_set (i := 3) scBefore.nd rfl (Or.inl rfl) (pe_fn FH hr rfl (pa_cons (pv 1) pa_nil)))
      (pss_cons (ps_if (pt_cmpR op_ne (pv 2) (pv 3) (nomark _)) (pss_one (ps_ret (pe_cmpR op_lt (pv 2) (pv 3) (nomark _)))) pss_nil)
      (pss_one (ps_ret (pe_cmpR op_gt (pe_op op_sub (pe_op op_mul (pe_ix ix_tup (pv 0) pe_int (fun _ _ => rfl)) (pe_ix ix_tup (pv 1) pe_int (fun _ _ => rfl)))
        (pe_op op_mul (pe_ix ix_tup (pv 0) pe_int (fun _ _ => rfl)) (pe_ix ix_tup (pv 1) pe_int (fun _ _ => rfl)))) pe_int (nomark _)))))), ?_⟩
    refine ⟨_, rfl, a, u, rfl, hu, ?_⟩
    refine ⟨_, rfl, b, v, rfl, hv, ?_⟩
    refine ⟨_, rfl, _, rfl, rfl, _, rfl, ?_⟩
    rw [before_ite] at q
    refine ite2 (fun h => ?_) (fun h => ?_)
    · have h' : ¬ Uw35.half u = Uw35.half v := fun e => by rw [e] at h; simp at h
      rw [if_neg h'] at q
      refine ⟨_, rfl, _, rfl, _, _, rfl, rfl, ?_⟩
      have e : decide ((Uw35.half u : Int) < (Uw35.half v : Int)) = decide (Uw35.half u < Uw35.half v) := by simp
      show Q (.bl (decide ((Uw35.half u : Int) < (Uw35.half v : Int)))) H
      rw [e]
      exact q
    · have h' : Uw35.half u = Uw35.half v := by
        apply Classical.byContradiction
        intro z
        apply h
        simp
        omega
      rw [if_pos h'] at q
      refine ⟨_, rfl, a, _, _, _, rfl, rfl, hu, rfl, _, rfl, b, _, _, _, rfl, rfl, hv, rfl, _, _, rfl, rfl, .inl ⟨by have := hs.1; omega, by have := hs.2.1; omega⟩, ?_⟩
      refine ⟨_, rfl, a, _, _, _, rfl, rfl, hu, rfl, _, rfl, b, _, _, _, rfl, rfl, hv, rfl, _, _, rfl, rfl, .inl ⟨by have := hs.2.2.1; omega, by have := hs.2.2.2; omega⟩, ?_⟩
      exact ⟨_, _, rfl, rfl, _, _, rfl, rfl, q⟩
end
end Fw
set_option Elab.async false
set_option linter.all false
set_option maxRecDepth 100000
set_option maxHeartbeats 2000000
namespace Fw
open PySem PySem.Spec PyProof.Rows L2
/-! ### marks in the heap -/
def MarksAt (K : PySem.W.Frag) (H : Hp) (m : Addr) (ms : List (Int × Int)) : Prop := ∃ ps : List Addr, SqL K H m (ps.map V.ref) ∧ Paired (fun p (u : Int × Int) => SqT K H p [.int u.1, .int u.2]) ps ms
theorem same_tup {K : PySem.W.Frag} {H H' : Hp} {a : Addr} {xs : List V} (e : Same H H') (h : SqT K H a xs) : SqT K H' a xs := by
  rcases h with (h | ⟨o, h⟩) | h
  · exact .inl (.inl (e _ _ h))
  · exact .inl (.inr ⟨o, e _ _ h⟩)
  · exact .inr h
theorem MarksAt.same {K : PySem.W.Frag} {H H' : Hp} {m : Addr} {ms : List (Int × Int)} (e : Same H H') (h : MarksAt K H m ms) : MarksAt K H' m ms := by
  obtain ⟨ps, h1, h2⟩ := h
  exact ⟨ps, e.seq h1, Paired.mapP h2 fun p u q => same_tup e q⟩
theorem MarksAt.at {K : PySem.W.Frag} {H : Hp} {m : Addr} {ms : List (Int × Int)} (h : MarksAt K H m ms) : ∃ ps : List Addr, SqL K H m (ps.map V.ref) ∧ ps.length = ms.length ∧
    ∀ (i : Nat) (u : Int × Int), ms[i]? = some u → ∃ p, (ps.map V.ref)[i]? = some (.ref p) ∧ SqT K H p [.int u.1, .int u.2] := by
  obtain ⟨ps, h1, h2⟩ := h
  refine ⟨ps, h1, Paired.length h2, fun i u e => ?_⟩
  have hl : i < ps.length := by rw [Paired.length h2]; exact (List.getElem?_eq_some_iff.mp e).1
  obtain ⟨v, hv, q⟩ := paired_get h2 (List.getElem?_eq_getElem hl)
  rw [e] at hv
  cases hv
  exact ⟨ps[i], by rw [List.getElem?_map, List.getElem?_eq_getElem hl]; rfl, q⟩
/-! ### a pair in a list of pairs -/
def pdOf (u : Int × Int) : PyData := .tuple [.int u.1, .int u.2]
theorem pd_lay : ∀ ms : List (Int × Int), PyData.canLayAll0 (ms.map pdOf) = true
  | [] => by simp [PyData.canLayAll0]
  | u :: r => by
    simp only [List.map_cons, PyData.canLayAll0, pd_lay r, Bool.and_true]
    simp [pdOf, PyData.canLay0, PyData.canLayAll0]
theorem pd_any (u : Int × Int) : ∀ ms : List (Int × Int), ((ms.map pdOf).any fun y => PyData.eqv y (pdOf u)) = ms.any fun m => decide (m = u)
  | [] => rfl
  | v :: r => by
    rw [List.map_cons, List.any_cons, List.any_cons, pd_any u r]
    congr 1
    obtain ⟨a, b⟩ := v
    obtain ⟨c, d⟩ := u
    simp only [pdOf, PyData.eqv, PyData.eqvAll, Bool.and_true, Prod.mk.injEq]
    by_cases h1 : a = c <;> by_cases h2 : b = d <;> simp [h1, h2]
theorem dp_marks {K : PySem.W.Frag} {H : Hp} : ∀ {ps : List Addr} {ms : List (Int × Int)}, Paired (fun p (u : Int × Int) => SqT K H p [.int u.1, .int u.2]) ps ms → DpAll K H (ps.map V.ref) (ms.map pdOf)
  | _, _, .nil => .nil
  | _, _, .cons h t => .cons (.tup h (.cons (.int _) (.cons (.int _) .nil))) (dp_marks t)
def rInP (K : PySem.W.Frag) : R2 := fun x y H Q => ∃ (p a : Addr) (u : Int × Int) (ms : List (Int × Int)), x = .ref p ∧ y = .ref a ∧ SqT K H p [.int u.1, .int u.2] ∧ MarksAt K H a ms ∧ Q (.bl (ms.any fun m => decide (m = u))) H
theorem op_inP {X : Cx} (hu : X.A.units + 64 < cLine) : OpR X (compareOp .In) (rInP X.K) := by
  intro pins s σ H x y v u Q I rx ry h
  obtain ⟨p, a, z, ms, rfl, rfl, hp, ⟨ps, hl, hP⟩, q⟩ := h
  obtain ⟨as, r1⟩ := Dp.reads I (.list (ms.map pdOf)) _ u (.lst hl (dp_marks hP)) ry
  obtain ⟨bs, r2⟩ := Dp.reads I (pdOf z) _ v (.tup hp (.cons (.int _) (.cons (.int _) .nil))) rx
  refine SeqAt.in_list_reads r1 r2 (pd_lay ms) (by simp [pdOf, PyData.canLay0, PyData.canLayAll0]) ?_ ⟨.bl _, H, I, rfl, ?_⟩
  · have h1 : (pdOf z).depth ≤ 2 := by simp [pdOf, PyData.depth, PyData.depthAll]
    have h2 := Nat.min_le_right (PyData.depthAll (ms.map pdOf)) (pdOf z).depth
    omega
  · rw [pd_any]
    exact q
/-! ### list(d.values()) -/
def rVals : V → List V → Hp → VK → Prop := fun x xs H Q => ∃ d kvs, x = .ref d ∧ xs = [] ∧ H d = some (.dK kvs) ∧ ∀ v, H v = none → Q (.ref v) (upd H v (.ext fun h => h.IsValuesView v d))
theorem mt_values {X : Cx} : MtR X "dict.values" rVals := by
  intro pins s σ H x xs v us Q I rx rv h
  obtain ⟨d, kvs, rfl, rfl, hd, q⟩ := h
  cases rx
  cases rv
  obtain ⟨z, hs, vs, kv, hD⟩ := dk_of I.hok hd
  refine call_meetsIn PySem.F.slot_dict_values hD.typeIs PySem.F.entry_dict_values (PySem.F.args_dict_values_1 _) (meets_dict_values (mixKind X.prog X.w) d hs) ⟨⟨vs, hD⟩, ?_⟩
  have hn : H s.heap.objs.size = none := I.fresh
  refine ⟨.ref s.heap.objs.size, upd H s.heap.objs.size (.ext fun h => h.IsValuesView s.heap.objs.size d), I.laid (t' := s.toks) (fun b u e => Heap.get?_push_of_some _ e) (Nat.le_refl _) ?_, rfl, q _ hn⟩
  refine ⟨⟨_, Heap.get?_push_size _ rfl, rfl, rfl⟩, ⟨_, Heap.get?_push_size _ rfl⟩, fun h1 h2 p k => ?_⟩
  obtain ⟨o, ho, hc, hdt⟩ := p
  exact ⟨o, k o ho, hc, hdt⟩
theorem kv_vals {κ : Type} : ∀ {kvs : List (κ × V)} {vs : List (κ × Value)}, KV kvs vs → Vals (kvs.map (·.2)) (vs.map (·.2))
  | _, _, .nil => .nil
  | _, _, .cons h t => .cons h.2 (kv_vals t)
theorem call_listV {X : Cx} (hc : X.calm = true) : CallR X (.type "list") (fun xs H Q => ∃ v d kvs, xs = [.ref v] ∧ H v = some (.ext fun h => h.IsValuesView v d) ∧ H d = some (.dK kvs) ∧ ∀ l, H l = none → Q (.ref l) (upd H l (.lst (kvs.map (·.2))))) := by
  intro pins s σ H xs us Q I r h
  obtain ⟨v, d, kvs, rfl, hv, hd, q⟩ := h
  rw [Vals.ref1 r]
  obtain ⟨z, hs, vs, kv, hD⟩ := dk_of I.hok hd
  obtain ⟨ep, hat⟩ := hD.dictAt
  obtain ⟨hview, _, _⟩ := I.hok v _ hv
  have hlen : vs.length ≤ sizeLine := by rw [← KV.length kv]; exact z
  refine PySem.W.kdl_call (PySem.W.kdl_values (knd := mixKind X.prog X.w) (kvs := vs) (ep := ep)) (I.ok.hd hc) ⟨hview, hat⟩ hlen fun h' tk acc c hk hS hacc => ?_
  refine ⟨.ref s.heap.objs.size, upd H s.heap.objs.size (.lst (kvs.map (·.2))), I.laid hk (Nat.le_refl _) ?_, rfl, q _ I.fresh⟩
  have e : acc.toList = vs.map (·.2) := PySem.W.kdl_vals_eq acc.toList (by rw [Array.length_toList]; exact hacc.1) fun j u hu => hacc.2 j u (by rw [← Array.getElem?_toList]; exact hu)
  refine ⟨by rw [List.length_map]; exact z, vs.map (·.2), c, kv_vals kv, ?_⟩
  rw [← e, Array.toArray_toList]
  exact hS
end Fw
set_option Elab.async false
set_option linter.all false
set_option maxRecDepth 100000
set_option maxHeartbeats 2000000
namespace Fw
open PySem PySem.Spec PyProof.Rows L2
/-! ### min of a list of tuples of ints: the library's walk asks a comparison that leans on no heap, so here is one that does -/
section
variable {prog : Program} {w : World} {A : Around} {R : Result → Shared → Prop} {I : Addr} {fp wr : List Addr} {n : Nat} {P : Nat → Value → Prop} {St : Nat → Heap → Prop} {G : Heap → Prop}
/-- a comparison, in a heap that G speaks of -/
def CmpIn (prog : Program) (w : World) (A : Around) (G : Heap → Prop) (P : Nat → Value → Prop) (bt : Nat → Nat → Bool) : Prop :=
  ∀ i j vi vj (s : Shared) (Q : Value → Shared → Prop) (E : Value → Shared → Prop), G s.heap → P i vi → P j vj → Q (.bool (bt i j)) s → wpAny (model prog w) A (richCompare .Lt vi vj) Q E s
theorem min_name : (toString "min" ++ toString ".loop" : String) = "min.loop" := by decide
theorem min_turns (W : Walks prog w A.in1 I fp wr n P St) (bt : Nat → Nat → Bool) (cmp : CmpIn prog w A.in1 G P bt) (S : Addr) (hSf : S ∉ fp)
    (stay : ∀ h h' : Heap, G h → (∀ b o, b ∉ wr → b ≠ S → h.get? b = some o → h'.get? b = some o) → G h') :
    ∀ (k j : Nat) (s : Shared) (best : Value) (c : Nat), n - (j + 1) = k → j + 1 ≤ n → St (j + 1) s.heap → G s.heap → P (argBest bt j) best →
    s.heap.get? S = some { cls := .type "list", dict := none, data := .seq #[best, best] c, slots := #[] } →
    (∀ v h' tk, P (argBest bt (n - 1)) v → (∀ b o, b ∉ wr → b ≠ S → s.heap.get? b = some o → h'.get? b = some o) → R (.ok (.ret v)) { s with heap := h', toks := tk }) →
    codeAny (model prog w) A (.builtin "min.loop" ⟨[.ref I, .none, .ref S], []⟩) R s := by
  have nSw : S ∉ wr := fun z => hSf (W.sub _ z)
  intro k
  induction k with
  | zero =>
    intro j s best c hk hj st g pb eS fin
    have ej : j + 1 = n := by omega
    refine codeAny_builtin PySem.F.entry_min_loop ?_
    rw [Around.under_plainId PySem.F.plain_min_loop _]; show wpAny _ A.in1 (seqItems? (.ref S) >>= _) _ _ s
    refine wpAny_bind (wpAny_seqItems eS rfl ?_); show wpAny _ A.in1 (tryCatch (pyNext (.ref I)) _ >>= _) _ _ s
    refine wpAny_bind (wpAny_tryCatch (W.done s _ _ (ej ▸ st) fun h' tk kp => ?_))
    have eS' := kp S _ nSw eS
    show wpAny _ A.in1 (updateSeq S (fun _ => #[]) >>= _) _ _ _; refine wpAny_bind ?_
    refine wpAny_updateSeq eS' rfl (wpAny_bind (wpAny_letGo (wpAny_pure ?_)))
    exact fin best _ tk (by rw [← ej]; exact pb) fun b o nb nS e => (Heap.get?_update_other _ _ (Ne.symm nS)).trans (kp b o nb e)
  | succ k ih =>
    intro j s best c hk hj st g pb eS fin
    have lt : j + 1 < n := by omega
    refine codeAny_builtin PySem.F.entry_min_loop ?_
    rw [Around.under_plainId PySem.F.plain_min_loop _]; show wpAny _ A.in1 (seqItems? (.ref S) >>= _) _ _ s
    refine wpAny_bind (wpAny_seqItems eS rfl ?_); show wpAny _ A.in1 (tryCatch (pyNext (.ref I)) _ >>= _) _ _ s
    refine wpAny_bind (wpAny_tryCatch (W.item (j + 1) s _ _ lt st fun v h' tk pv st' kp => ?_))
    have eS' := kp S _ nSw eS
    have g' : G h' := stay _ _ g fun b o nb _ e => kp b o nb e
    show wpAny _ A.in1 (tryCatch (holding [v, v] (richCompare .Lt v best >>= _)) _ >>= _) _ _ _
    refine wpAny_bind (wpAny_tryCatch (wpAny_holding (wpAny_bind (cmp (j + 1) (argBest bt j) v best _ _ _ g' pv pb ?_))))
    refine wpAny_bind (wpAny_holding (wpAny_truthy_bool ?_)); refine wpAny_bind (wpAny_letGo (wpAny_pure ?_))
    cases hb : bt (j + 1) (argBest bt j) with
    | true =>
      simp only [if_true]
      refine wpAny_bind ?_; refine wpAny_updateSeq eS' rfl (wpAny_bind (wpAny_letGo ?_))
      rw [min_name]
      have up : ∀ b o, b ≠ S → h'.get? b = some o → (h'.update S (Obj.mapSeq fun _ => #[v, v])).get? b = some o := fun b o nS e => (Heap.get?_update_other _ _ (Ne.symm nS)).trans e
      refine wpAny_pure ⟨plainId_quiet PySem.F.plain_min_loop _, ih (j + 1) _ v _ (by omega) lt (W.frame _ _ _ st' fun b bf o e => up b o (fun z => hSf (z ▸ bf)) e) (stay _ _ g' fun b o _ nS e => up b o nS e)
        (by simp only [argBest, hb, if_true]; exact pv) (Heap.get?_update_self _ eS' rfl) fun v' h'' tk'' p' kp' => ?_⟩
      exact fin v' h'' tk'' p' fun b o nb nS e => kp' b o nb nS (up b o nS (kp b o nb e))
    | false =>
      simp only [Bool.false_eq_true, if_false]
      refine wpAny_bind (wpAny_letGo ?_); rw [min_name]
      refine wpAny_pure ⟨plainId_quiet PySem.F.plain_min_loop _, ih (j + 1) _ best c (by omega) lt st' g' (by simp only [argBest, hb, Bool.false_eq_true, if_false]; exact pb) eS' fun v' h'' tk'' p' kp' => ?_⟩
      exact fin v' h'' tk'' p' fun b o nb nS e => kp' b o nb nS (kp b o nb e)
theorem min_first (W : Walks prog w A.in1 I fp wr n P St) (bt : Nat → Nat → Bool) (cmp : CmpIn prog w A.in1 G P bt) (S : Addr) (hSf : S ∉ fp)
    (stay : ∀ h h' : Heap, G h → (∀ b o, b ∉ wr → b ≠ S → h.get? b = some o → h'.get? b = some o) → G h') (hn : 0 < n) {s : Shared} {c : Nat} (st : St 0 s.heap) (g : G s.heap)
    (eS : s.heap.get? S = some { cls := .type "list", dict := none, data := .seq #[] c, slots := #[] })
    (fin : ∀ v h' tk, P (argBest bt (n - 1)) v → (∀ b o, b ∉ wr → b ≠ S → s.heap.get? b = some o → h'.get? b = some o) → R (.ok (.ret v)) { s with heap := h', toks := tk }) :
    codeAny (model prog w) A (.builtin "min.loop" ⟨[.ref I, .none, .ref S], []⟩) R s := by
  have nSw : S ∉ wr := fun z => hSf (W.sub _ z)
  refine codeAny_builtin PySem.F.entry_min_loop ?_
  rw [Around.under_plainId PySem.F.plain_min_loop _]; show wpAny _ A.in1 (seqItems? (.ref S) >>= _) _ _ s
  refine wpAny_bind (wpAny_seqItems eS rfl ?_); show wpAny _ A.in1 (tryCatch (pyNext (.ref I)) _ >>= _) _ _ s
  refine wpAny_bind (wpAny_tryCatch (W.item 0 s _ _ hn st fun v h' tk pv st' kp => ?_))
  have eS' := kp S _ nSw eS
  have g' : G h' := stay _ _ g fun b o nb _ e => kp b o nb e
  show wpAny _ A.in1 (updateSeq S (fun _ => #[v, v]) >>= _) _ _ _; refine wpAny_bind ?_
  refine wpAny_updateSeq eS' rfl ?_; rw [min_name]
  have up : ∀ b o, b ≠ S → h'.get? b = some o → (h'.update S (Obj.mapSeq fun _ => #[v, v])).get? b = some o := fun b o nS e => (Heap.get?_update_other _ _ (Ne.symm nS)).trans e
  refine wpAny_pure ⟨plainId_quiet PySem.F.plain_min_loop _, min_turns W bt cmp S hSf stay _ 0 _ v _ rfl hn (W.frame _ _ _ st' fun b bf o e => up b o (fun z => hSf (z ▸ bf)) e) (stay _ _ g' fun b o _ nS e => up b o nS e) pv
    (Heap.get?_update_self _ eS' rfl) fun v' h'' tk'' p' kp' => ?_⟩
  exact fin v' h'' tk'' p' fun b o nb nS e => kp' b o nb nS (up b o nS (kp b o nb e))
end
section
variable {prog : Program} {w : World} {A : Around} {E : Value → Shared → Prop} {s : Shared}
theorem min_over {x : Value} {Q : Value → Shared → Prop}
    (h : wpAny (model prog w) A.in1 (pyIter x) (fun it s2 => ∃ I fp wr n P St bt, ∃ G : Heap → Prop, it = .ref I ∧ Walks prog w A.in1 I fp wr n P St ∧ St 0 s2.heap ∧ (∀ b ∈ fp, b < s2.heap.objs.size) ∧ 0 < n ∧ G s2.heap ∧
      (∀ h h' : Heap, G h → (∀ b o, b ∉ wr → b ≠ s2.heap.objs.size → h.get? b = some o → h'.get? b = some o) → G h') ∧ CmpIn prog w A.in1 G P bt ∧
      ∀ v h' tk, P (argBest bt (n - 1)) v → (∀ b o, b ∉ wr → s2.heap.get? b = some o → h'.get? b = some o) → Q v { s2 with heap := h', toks := tk }) E s) :
    wpAny (model prog w) A (call (.builtin "min") [x]) Q E s := by
  refine call_function_tree PySem.F.kind_min PySem.F.plain_min PySem.F.entry_min (PySem.F.args_min1 _) ?_
  show wpAny _ A.in1 (Builtin.Builtins.bindParams "min" ["key", "default"] 0 ⟨[], []⟩ >>= _) _ _ s; refine wpAny_bind ?_
  refine wpAny_of_eq (show Builtin.Builtins.bindParams "min" ["key", "default"] 0 ⟨[], []⟩ = pure [none, none] from rfl) ?_
  refine wpAny_bind (wpAny_pure ?_)
  refine wpAny_bind (wpAny_mono h (fun it s2 z => ?_) fun _ _ e => e)
  obtain ⟨I, fp, wr, n, P, St, bt, G, rfl, W, st, low, hn, g, stay, cmp, q⟩ := z
  refine wpAny_bind (wpAny_newObj_type ?_)
  have nf : s2.heap.objs.size ∉ fp := fun m => Nat.lt_irrefl _ (low _ m)
  rw [min_name]
  refine wpAny_pure ⟨plainId_quiet PySem.F.plain_min_loop _, min_first W bt cmp s2.heap.objs.size nf stay hn (W.frame _ _ _ st fun b _ o e => Heap.get?_push_of_some _ e) (stay _ _ g fun b o _ _ e => Heap.get?_push_of_some _ e)
    (Heap.get?_push_size _ rfl) fun v h' tk pv kp => ?_⟩
  exact q v h' tk pv fun b o nb e => kp b o nb (Nat.ne_of_lt (Heap.lt_size e)) (Heap.get?_push_of_some _ e)
end
theorem best_le {bt : Nat → Nat → Bool} : ∀ k, argBest bt k ≤ k
  | 0 => Nat.le_refl _
  | k + 1 => by
    show (if bt (k + 1) (argBest bt k) then k + 1 else argBest bt k) ≤ k + 1
    split
    · exact Nat.le_refl _
    · exact Nat.le_succ_of_le (best_le k)
/-! pairs of ints -/
def pairLt (a b : Int × Int) : Bool := if a.1 = b.1 then decide (a.2 < b.2) else decide (a.1 < b.1)
theorem lex_pair (a b : Int × Int) : HT.lexLt [a.1, a.2] [b.1, b.2] = pairLt a b := by
  show (if a.1 = b.1 then (if a.2 = b.2 then false else decide (a.2 < b.2)) else decide (a.1 < b.1)) = if a.1 = b.1 then decide (a.2 < b.2) else decide (a.1 < b.1)
  split
  · split
    · rename_i e
      exact (decide_eq_false (by omega)).symm
    · rfl
  · rfl
theorem pairLt_iff (a b : Int × Int) : pairLt a b = true ↔ a.1 < b.1 ∨ (a.1 = b.1 ∧ a.2 < b.2) := by
  unfold pairLt
  split
  · rw [decide_eq_true_iff]; omega
  · rw [decide_eq_true_iff]; omega
theorem pairLt_no (a b : Int × Int) : pairLt a b = false ↔ ¬ (a.1 < b.1 ∨ (a.1 = b.1 ∧ a.2 < b.2)) := by
  rw [← pairLt_iff]
  cases pairLt a b <;> simp
def bestOf (xs : List (Int × Int)) (k : Nat) : Nat := argBest (fun i j => pairLt (xs.getD i (0, 0)) (xs.getD j (0, 0))) k
theorem best_least (xs : List (Int × Int)) : ∀ k i, i ≤ k → pairLt (xs.getD i (0, 0)) (xs.getD (bestOf xs k) (0, 0)) = false
  | 0, i, hi => by
    have e : i = 0 := by omega
    subst e
    show pairLt (xs.getD 0 (0, 0)) (xs.getD 0 (0, 0)) = false
    rw [pairLt_no]
    omega
  | k + 1, i, hi => by
    have ih := best_least xs k
    have e : bestOf xs (k + 1) = if pairLt (xs.getD (k + 1) (0, 0)) (xs.getD (bestOf xs k) (0, 0)) = true then k + 1 else bestOf xs k := rfl
    rw [e]
    by_cases hb : pairLt (xs.getD (k + 1) (0, 0)) (xs.getD (bestOf xs k) (0, 0)) = true
    · rw [if_pos hb]
      rw [pairLt_iff] at hb
      rcases Nat.lt_or_ge k i with h | h
      · have e : i = k + 1 := by omega
        subst e
        rw [pairLt_no]
        omega
      · have := ih i h
        rw [pairLt_no] at this ⊢
        omega
    · rw [if_neg hb]
      rcases Nat.lt_or_ge k i with h | h
      · have e : i = k + 1 := by omega
        subst e
        exact Bool.eq_false_iff.mpr hb
      · exact ih i h
def PairsAt (K : PySem.W.Frag) (H : Hp) (ps : List Addr) (ms : List (Int × Int)) : Prop := Paired (fun p (u : Int × Int) => SqT K H p [.int u.1, .int u.2]) ps ms
/-- min(xs) of a list of pairs of ints: the first that none lies below -/
def rMinP (K : PySem.W.Frag) : List V → Hp → VK → Prop := fun vs H Q => ∃ (a : Addr) (ps : List Addr) (ms : List (Int × Int)), vs = [V.ref a] ∧ SqL K H a (ps.map V.ref) ∧ PairsAt K H ps ms ∧ 0 < ms.length ∧
  ∀ (j : Nat) (p : Addr) (u : Int × Int), ps[j]? = some p → ms[j]? = some u → (∀ m ∈ ms, pairLt m u = false) → Q (.ref p) H
theorem cr_minP {X : Cx} (hc : X.calm = true) (hu : X.A.units + 64 < cLine) : CallR X (.builtin "min") (rMinP X.K) := by
  intro pins s σ H vs us Q I r h
  obtain ⟨a, ps, ms, rfl, hl, hP, hn, q⟩ := h
  rw [Vals.ref1 r]
  obtain ⟨its, rv, pl, _⟩ := I.list hl
  have ei : its = ps.map Value.ref := refs_at rv
  subst ei
  have hlen : ps.length = ms.length := Paired.length hP
  -- the tuples stand in the heap
  have hT : ∀ (i : Nat) (p : Addr), ps[i]? = some p → ∃ (ob : Obj) (ws : List Value), s.heap.get? p = some ob ∧ ob.cls = .type "tuple" ∧ (∃ n, ob.data = .seq ws.toArray n) ∧ IntsAre ws [(ms.getD i (0, 0)).1, (ms.getD i (0, 0)).2] := fun i p e => by
    obtain ⟨u, hu, z⟩ := paired_get hP e
    obtain ⟨ws, rw', ⟨ob, ho, hcl, n, hd⟩, _⟩ := I.tuple z
    refine ⟨ob, ws, ho, hcl, ⟨n, hd⟩, ?_⟩
    rw [getD_of hu]
    exact intsAre_of (ns := [u.1, u.2]) rw'
  have hlt : a < s.heap.objs.size := by obtain ⟨_, e, _⟩ := pl.isList; exact Heap.lt_size e
  refine min_over (wpAny_pyIter_list pl.isList ?_)
  refine ⟨_, _, _, _, _, _, fun i j => pairLt (ms.getD i (0, 0)) (ms.getD j (0, 0)), fun h => ∀ (i : Nat) (p : Addr), ps[i]? = some p → ∃ ob, s.heap.get? p = some ob ∧ h.get? p = some ob, rfl,
    Walks.list (A := X.A.in1) (I.ok.hd hc) _ a (Nat.ne_of_lt hlt) _, ⟨⟨_, Heap.get?_push_size _ rfl, rfl, rfl⟩, pl.isList.push _⟩, ?_, ?_, ?_, ?_, ?_, ?_⟩
  · intro b hb
    show b < (s.heap.push _).objs.size
    rw [Heap.size_push]
    rcases List.mem_cons.mp hb with rfl | hb
    · exact Nat.lt_succ_self _
    · rw [List.mem_singleton.mp hb]
      exact Nat.lt_succ_of_lt hlt
  · simpa [hlen] using hn
  · intro i p e
    obtain ⟨ob, ws, ho, _⟩ := hT i p e
    exact ⟨ob, ho, Heap.get?_push_of_some _ ho⟩
  · intro h h' g k i p e
    obtain ⟨ob, ho, hg⟩ := g i p e
    have lt := Heap.lt_size ho
    refine ⟨ob, ho, k p ob (fun z => ?_) (fun z => ?_) hg⟩
    · rw [List.mem_singleton.mp z] at lt
      exact Nat.lt_irrefl _ lt
    · rw [z] at lt
      have l2 : (s.heap.push { cls := .type "list_iterator", data := .fields #[.ref a, .int 0 0] }).objs.size < s.heap.objs.size := lt
      rw [Heap.size_push] at l2
      omega
  · intro i j vi vj s1 Q1 E1 g hi hj hQ
    have get : ∀ (i : Nat) (v : Value), (ps.map Value.ref).toArray[i]? = some v → ∃ p, ps[i]? = some p ∧ v = .ref p := fun i v e => by
      simp at e
      obtain ⟨p, e1, e2⟩ := e
      exact ⟨p, e1, e2.symm⟩
    obtain ⟨p, hp, rfl⟩ := get i vi hi
    obtain ⟨p', hp', rfl⟩ := get j vj hj
    have tup : ∀ (i : Nat) (p : Addr), ps[i]? = some p → ∃ ws : List Value, IsTup s1.heap p ws.toArray ∧ IntsAre ws.toArray.toList [(ms.getD i (0, 0)).1, (ms.getD i (0, 0)).2] := fun i p e => by
      obtain ⟨ob, ws, ho, hcl, hd, hi⟩ := hT i p e
      obtain ⟨ob', ho', hg⟩ := g i p e
      rw [ho] at ho'
      cases ho'
      exact ⟨ws, ⟨ob, hg, hcl, hd⟩, hi⟩
    obtain ⟨ws, t1, i1⟩ := tup i p hp
    obtain ⟨ws', t2, i2⟩ := tup j p' hp'
    have un : X.A.in1.units < cLine := by
      show X.A.units + 1 < cLine
      omega
    refine (HT.lt_tupInts t1 t2 i1 i2 un ?_ : wpAny (model X.prog X.w) X.A.in1 (compareOp .Lt (.ref p) (.ref p')) Q1 E1 s1)
    rw [lex_pair]
    exact hQ
  · intro v h' tk hv hk
    have hsz : (ps.map Value.ref).toArray.size = ms.length := by simp [hlen]
    rw [hsz] at hv
    simp at hv
    obtain ⟨p, hp, rfl⟩ := hv
    have hb : bestOf ms (ms.length - 1) ≤ ms.length - 1 := best_le _
    have hu : ms[bestOf ms (ms.length - 1)]? = some (ms.getD (bestOf ms (ms.length - 1)) (0, 0)) := by
      rw [List.getElem?_eq_getElem (by omega), List.getD_eq_getElem?_getD, List.getElem?_eq_getElem (by omega)]
      rfl
    refine ⟨.ref p, H, I.kept fun b o e => ?_, rfl, q (bestOf ms (ms.length - 1)) p _ hp hu fun m hm => ?_⟩
    · exact hk b o (fun z => by rw [List.mem_singleton.mp z] at e; exact Nat.lt_irrefl _ (Heap.lt_size e)) (Heap.get?_push_of_some _ e)
    · obtain ⟨i, hi, e⟩ := List.getElem_of_mem hm
      have := best_least ms (ms.length - 1) i (by omega)
      rw [getD_of (List.getElem?_eq_getElem hi), e] at this
      exact this
end Fw
set_option Elab.async false
set_option linter.all false
set_option maxRecDepth 100000
set_option maxHeartbeats 2000000
namespace Fw
open PySem PySem.Spec PyProof.Rows L2
theorem szl {n : Nat} (h : n ≤ 16777216) : n ≤ sizeLine := by rw [sizeLine_eq]; exact h
theorem szlt {n : Nat} (h : n < 16777216) : n < sizeLine := by rw [sizeLine_eq]; exact h
/-- over a range with a step -/
theorem lc_rangeC {lo c : Int} {n : Nat} {g : TG} {tt : TT} {te : TE} {vs : List Nat} {σ : L2.St} {H1 : Hp} {D : Addr} {Qd : Hp → Prop} (Pv : Nat → Hp → Prop) (h0 : Pv 0 (upd H1 D (.lst [])))
    (hs : ∀ i H, i < n → Pv i H → g (.int (lo + (i : Nat) * c)) (wipe σ vs) H fun σ2 H2 => wipe σ2 vs = wipe σ vs ∧ tt σ2 H2 fun b H3 =>
      if b = true then te σ2 H3 fun y H4 => ∃ acc, H4 D = some (.lst acc) ∧ acc.length < sizeLine ∧ Pv (i + 1) (upd H4 D (.lst (acc ++ [y]))) else Pv (i + 1) H3) (hd : ∀ H, Pv n H → Qd H) :
    ∃ W : Nat → Nat → Hp → Prop, (∃ m, W 0 m (upd H1 D (.lst []))) ∧ ∀ i m H, W i m H →
      ((Itc lo c n).stop i H ∧ Qd H) ∨ ((Itc lo c n).go i H ∧ ∃ Nx : Hp → Prop, (∀ H', Nx H' → ∃ m', m' < m ∧ W (i + 1) m' H') ∧ ∀ x H', (Itc lo c n).yld i H x H' → g x (wipe σ vs) H' fun σ2 H2 => wipe σ2 vs = wipe σ vs ∧ tt σ2 H2 fun b H3 =>
        if b = true then te σ2 H3 fun y H4 => ∃ acc, H4 D = some (.lst acc) ∧ acc.length < sizeLine ∧ Nx (upd H4 D (.lst (acc ++ [y]))) else Nx H3) := by
  refine ⟨fun i m H => m = n - i ∧ i ≤ n ∧ Pv i H, ⟨n, by simp, Nat.zero_le _, h0⟩, ?_⟩
  rintro i m H ⟨rfl, hi, p⟩
  by_cases lt : i < n
  · refine .inr ⟨lt, Pv (i + 1), fun H' p' => ⟨n - (i + 1), by omega, rfl, lt, p'⟩, fun x H' y => ?_⟩
    obtain ⟨e, y⟩ := y
    subst e y
    exact hs i _ lt p
  · have e : i = n := by omega
    subst e
    exact .inl ⟨Nat.le_refl _, hd H p⟩
theorem ix_listK (K : PySem.W.Frag) {X : Cx} (h : X.K = K := by rfl) : IxR X (rIxL K) := by subst h; exact ix_list
theorem ix_tupK (K : PySem.W.Frag) {X : Cx} (h : X.K = K := by rfl) : IxR X (rIxT K) := by subst h; exact ix_tup
theorem len_seqK (K : PySem.W.Frag) {X : Cx} (h : X.K = K := by rfl) : CallR X (.builtin "len") (fun xs H Q => ∃ p ys, xs = [.ref p] ∧ (SqL K H p ys ∨ SqT K H p ys) ∧ Q (.int ys.length) H) := by subst h; exact call_len_seq
theorem pe_fldK (K : PySem.W.Frag) {X : Cx} {e : Expr} {f : Str} {pos : Pos} {ta : TE} (he : PE X e ta) (hb : attributeBase e f X.env (eval e X.env) = eval e X.env := by rfl) (h : X.K = K := by rfl) : PE X (.Attribute e f pos) (tFld K ta f) := by subst h; exact pe_fld he hb
section
variable {P : Program} {w : World} {K : PySem.W.Frag} {mg : Str → Option Value} {base : Heap}
/-! ### marks_from -/
abbrev sMarks : Stmt := top 4
abbrev nat2V (n : Nat) : V := .int (n : Int)
def spMarks (K : PySem.W.Frag) : Sp := fun vs H Q _ => ∃ (a : Addr) (ns : List Nat), vs = [.ref a] ∧ SqL K H a (ns.map nat2V) ∧ ns.length % 2 = 0 ∧ ns.length ≤ 20 ∧
  ∀ (H' : Hp) (m : Addr), H m = none → Same H H' → MarksAt K H' m (Uw35.vectors ns) → Q (.ref m) H'
theorem scMarks : FnScope ["numbers", "k"] ["numbers"] (defScope sMarks) := ⟨rfl, rfl, rfl, by decide +kernel, rfl, by decide +kernel, by decide +kernel⟩
theorem rg2s : ∀ n : Nat, n < 21 → Builtin.Range.small 0 (n : Int) 2 = true := by decide +kernel
theorem rg2 {n : Nat} (h : n ≤ 20) (h2 : n % 2 = 0) : RgC 0 (n : Int) 2 (n / 2) := by
  refine ⟨by decide, by decide, ?_, ?_⟩
  · exact rg2s n (by omega)
  · unfold Builtin.Range.rangeSize
    rw [if_pos (by decide)]
    split <;> omega
theorem ok_marks {f : Addr} {fd : FuncData} (F : Fun K "marks_from" "marks_from" sMarks f fd) (cA : CInt mg "ADDED_TO_MARKS" 10) (mr : mg "range" = none) (ml : mg "len" = none) : FnOk P w K mg base CX0 1 f fd ["numbers"] (spMarks K) := by
  refine F.ok scMarks (fun vs H Q E h => ?_) (fun cdv A outer s H vs Q E hr h => ?_)
  · obtain ⟨a, ns, rfl, _⟩ := h
    rfl
  · obtain ⟨a, ns, rfl, hL, h2, h20, q⟩ := h
    refine ⟨_, pss_one (ps_ret (pe_lc (own := [("k", 1)]) rfl scMarks.nd (pi_range3 rfl mr (pa_cons pe_int (pa_cons (pe_callB call_len_seq rfl ml PySem.boot_len (pa_cons (pv 0) pa_nil)) (pa_cons pe_int pa_nil)))) (blkOk_by (by rfl))
      (fun _ _ _ _ _ => pg_name (i := 1) scMarks.nd rfl (Or.inl rfl)) (fun _ _ _ _ _ => pts_nil)
      (fun _ _ _ _ _ => pe_tup (pa_cons (pe_op op_sub (pe_ix (ix_listK K) (pv 0) (pv 1) (fun _ _ => rfl)) (pe_cint cA rfl))
        (pa_cons (pe_op op_sub (pe_ix (ix_listK K) (pv 0) (pe_op op_add (pv 1) pe_int) (fun _ _ => rfl)) (pe_cint cA rfl)) pa_nil))))), ?_⟩
    refine ⟨_, rfl, a, _, rfl, .inl hL, 0, _, 2, ns.length / 2, rfl, (by rw [List.length_map]; exact rg2 h20 h2), fun D hD => ?_⟩
    refine lc_rangeC (fun i H' => Same H H' ∧ ∃ ps : List Addr, H' D = some (.lst (ps.map V.ref)) ∧ Paired (fun p (u : Int × Int) => H' p = some (.tup [.int u.1, .int u.2])) ps ((Uw35.vectors ns).take i)) ?_ ?_ ?_
    · exact ⟨same_new hD, [], upd_same, .nil⟩
    · rintro i H' hi ⟨sm, ps, hd, hP⟩
      have hl : 2 * i + 1 < ns.length := by omega
      have e1 : ns[2 * i]? = some ns[2 * i] := List.getElem?_eq_getElem (by omega)
      have e2 : ns[2 * i + 1]? = some ns[2 * i + 1] := List.getElem?_eq_getElem hl
      refine ⟨rfl, _, rfl, _, rfl, a, _, _, _, rfl, rfl, sm.seq hL, at_of (j := 2 * i) (by omega) (by rw [List.getElem?_map, e1]; rfl), _, _, rfl, rfl, ?_⟩
      refine ⟨_, rfl, _, rfl, _, _, rfl, rfl, a, _, _, _, rfl, rfl, sm.seq hL, at_of (j := 2 * i + 1) (by omega) (by rw [List.getElem?_map, e2]; rfl), _, _, rfl, rfl, ?_⟩
      refine ⟨szl (by show 2 ≤ 16777216; decide), fun p hp => ?_⟩
      have nDp : D ≠ p := ne_of_none hd hp
      have hv := vectors_at e1 e2
      refine ⟨_, by rw [upd_ne nDp]; exact hd, ?_, ?_, ps ++ [p], by rw [upd_same, List.map_append]; rfl, ?_⟩
      · have hpl := Paired.length hP
        rw [List.length_take] at hpl
        refine szlt ?_
        rw [List.length_map]
        omega
      · intro b o e
        rw [upd_ne (ne_of_none e hD), upd_ne (ne_of_none (sm b o e) hp)]
        exact sm b o e
      · rw [take_snoc hv]
        refine Paired.snoc (Paired.mapP hP fun p' u e => ?_) ?_
        · rw [upd_ne (ne_of e hd (by intro z; cases z)), upd_ne (ne_of_none e hp)]
          exact e
        · rw [upd_ne nDp.symm, upd_same]
    · rintro H' ⟨sm, ps, hd, hP⟩
      rw [List.take_of_length_le (by rw [vectors_len]; exact Nat.le_refl _)] at hP
      exact q H' D hD sm ⟨ps, SqL.of hd, Paired.mapP hP fun p u e => SqT.of e⟩
end
end Fw
set_option Elab.async false
set_option linter.all false
set_option maxRecDepth 100000
set_option maxHeartbeats 2000000
namespace Fw
open PySem PySem.Spec PyProof.Rows L2
section
variable {P : Program} {w : World} {K : PySem.W.Frag} {mg : Str → Option Value} {base : Heap}
/-! ### go_round -/
abbrev sGo : Stmt := top 5
def spGo (K : PySem.W.Frag) : Sp := fun vs H Q _ => ∃ (a : Addr) (ms : List (Int × Int)), vs = [.ref a] ∧ MarksAt K H a ms ∧ (∀ u ∈ ms, Small u) ∧ ms.length ≤ 100 ∧ ∀ H' : Hp, Same H H' → Q (.bl (Uw35.goodMarks ms)) H'
theorem scGo : FnScope ["marks", "i"] ["marks"] (defScope sGo) := ⟨rfl, rfl, rfl, by decide +kernel, rfl, by decide +kernel, by decide +kernel⟩
theorem ok_go {f : Addr} {fd : FuncData} (F : Fun K "go_round" "go_round" sGo f fd) (FB : Fn P w K mg base "comes_before" 2 ["first", "second"] (spBefore K)) (mr : mg "range" = none) (ml : mg "len" = none) :
    FnOk P w K mg base CX0 3 f fd ["marks"] (spGo K) := by
  refine F.ok scGo (fun vs H Q E h => ?_) (fun cdv A outer s H vs Q E hr h => ?_)
  · obtain ⟨a, ms, rfl, _⟩ := h
    rfl
  · obtain ⟨a, ms, rfl, hM, hS, h100, q⟩ := h
    refine ⟨_, pss_cons (ps_if (pt_cmpR (op_inP hr.units) (pe_tup (pa_cons pe_int (pa_cons pe_int pa_nil))) (pv 0) (by with_unfolding_all rfl)) (pss_one (ps_ret pe_bl)) pss_nil)
      (pss_cons (ps_for PassesOwn.never rfl (pi_range2 rfl mr (pa_cons pe_int (pa_cons (pe_callB call_len_seq rfl ml PySem.boot_len (pa_cons (pv 0) pa_nil)) pa_nil))) (pg_name (i := 1) scGo.nd rfl (Or.inl rfl))
        (pss_one (ps_if (pt_not (pt_val (pe_fn FB hr rfl (pa_cons (pe_ix ix_list (pv 0) (pe_op op_sub (pv 1) pe_int) (fun _ _ => rfl)) (pa_cons (pe_ix ix_list (pv 0) (pv 1) (fun _ _ => rfl)) pa_nil))))) (pss_one (ps_ret pe_bl)) pss_nil)))
      (pss_one (ps_ret pe_bl))), ?_⟩
    refine ⟨szl (by show 2 ≤ 16777216; decide), fun t ht => ?_⟩
    have sm : Same H (upd H t (.tup [.int 0, .int 0])) := same_new ht
    have hM1 := hM.same sm
    refine ⟨_, rfl, t, a, (0, 0), ms, rfl, rfl, SqT.of upd_same, hM1, _, rfl, ?_⟩
    refine ite2 (fun h => ?_) (fun h => ?_)
    · obtain ⟨m, hm, e⟩ := List.any_eq_true.mp h
      rw [of_decide_eq_true e] at hm
      rw [bad_zero hm] at q
      exact q _ sm
    · have nz : ∀ m ∈ ms, m ≠ (0, 0) := fun m hm e => h (List.any_eq_true.mpr ⟨m, hm, decide_eq_true e⟩)
      obtain ⟨ps, hL, hlen, hAt⟩ := hM1.at
      refine ⟨_, rfl, a, _, rfl, .inl hL, 1, _, rfl, ⟨by decide, by decide, by omega, ?_⟩, ?_⟩
      · rw [List.length_map, hlen]
        omega
      refine for_range (lo := 1) (fun i σ H' => ∃ v : Option V, σ = [some (.ref a), v] ∧ H' = upd H t (.tup [.int 0, .int 0]) ∧ ∀ (j : Nat) (u v : Int × Int), j < i → ms[j]? = some u → ms[j + 1]? = some v → Uw35.before u v = true) ?_ ?_ ?_
      · exact ⟨none, rfl, rfl, fun j u v hj => by omega⟩
      · rintro i σ H' hi ⟨v, rfl, rfl, hb⟩
        rw [List.length_map, hlen] at hi
        have i1 : i + 1 < ms.length := by omega
        have e1 : ms[i]? = some ms[i] := List.getElem?_eq_getElem (by omega)
        have e2 : ms[i + 1]? = some ms[i + 1] := List.getElem?_eq_getElem i1
        obtain ⟨p1, a1, t1⟩ := hAt i _ e1
        obtain ⟨p2, a2, t2⟩ := hAt (i + 1) _ e2
        refine ⟨_, rfl, _, rfl, _, _, rfl, rfl, a, _, _, _, rfl, rfl, hL, at_of (j := i) (by omega) a1, _, rfl, _, rfl, a, _, _, _, rfl, rfl, hL, at_of (j := i + 1) (by omega) a2, ?_⟩
        refine ⟨p1, p2, ms[i], ms[i + 1], rfl, t1, t2, hS _ (List.getElem_mem _), _, rfl, ?_⟩
        refine ite2 (fun hn => ?_) (fun hn => ?_)
        · rw [bad_next e1 e2 (by simpa using hn)] at q
          exact q _ sm
        · refine ⟨_, rfl, rfl, fun j u v hj hu hv => ?_⟩
          rcases Nat.lt_or_ge j i with h1 | h1
          · exact hb j u v h1 hu hv
          · have e : j = i := by omega
            subst e
            rw [e1] at hu
            rw [e2] at hv
            cases hu
            cases hv
            simpa using hn
      · rintro σ H' ⟨v, rfl, rfl, hb⟩
        have g : Uw35.goodMarks ms = true := good_of nz fun j u v hu hv => by
          have := (List.getElem?_eq_some_iff.mp hv).1
          refine hb j u v ?_ hu hv
          rw [List.length_map, hlen]
          omega
        rw [g] at q
        exact q _ sm
/-! ### sector_of -/
abbrev sSec : Stmt := top 6
def spSec (K : PySem.W.Frag) : Sp := fun vs H Q _ => ∃ (d a : Addr) (v : Int × Int) (ms : List (Int × Int)), vs = [.ref d, .ref a] ∧ SqT K H d [.int v.1, .int v.2] ∧ MarksAt K H a ms ∧ Small v ∧ ms.length ≤ 100 ∧ Q (.int (secAt v ms ms.length)) H
theorem scSec : FnScope ["direction", "marks", "sector", "i"] ["direction", "marks"] (defScope sSec) := ⟨rfl, rfl, rfl, by decide +kernel, rfl, by decide +kernel, by decide +kernel⟩
theorem ok_sec {f : Addr} {fd : FuncData} (F : Fun K "sector_of" "sector_of" sSec f fd) (FB : Fn P w K mg base "comes_before" 2 ["first", "second"] (spBefore K)) (mr : mg "range" = none) (ml : mg "len" = none) :
    FnOk P w K mg base CX0 3 f fd ["direction", "marks"] (spSec K) := by
  refine F.ok scSec (fun vs H Q E h => ?_) (fun cdv A outer s H vs Q E hr h => ?_)
  · obtain ⟨d, a, v, ms, rfl, _⟩ := h
    rfl
  · obtain ⟨d, a, v, ms, rfl, hd, hM, hS, h100, q⟩ := h
    refine ⟨_, pss_cons (ps_set (i := 2) scSec.nd rfl (Or.inl rfl) (pe_op op_sub (pe_callB call_len_seq rfl ml PySem.boot_len (pa_cons (pv 1) pa_nil)) pe_int))
      (pss_cons (ps_for PassesOwn.never rfl (pi_range1 rfl mr (pa_cons (pe_callB call_len_seq rfl ml PySem.boot_len (pa_cons (pv 1) pa_nil)) pa_nil)) (pg_name (i := 3) scSec.nd rfl (Or.inl rfl))
        (pss_one (ps_if (pt_not (pt_val (pe_fn FB hr rfl (pa_cons (pv 0) (pa_cons (pe_ix ix_list (pv 1) (pv 3) (fun _ _ => rfl)) pa_nil))))) (pss_one (ps_set (i := 2) scSec.nd rfl (Or.inl rfl) (pv 3))) pss_nil)))
      (pss_one (ps_ret (pv 2)))), ?_⟩
    obtain ⟨ps, hL, hlen, hAt⟩ := hM.at
    refine ⟨_, rfl, a, _, rfl, .inl hL, _, _, rfl, rfl, ?_⟩
    refine ⟨_, rfl, a, _, rfl, .inl hL, _, rfl, by omega, ?_, ?_⟩
    · rw [List.length_map, hlen]
      omega
    refine for_range (lo := 0) (fun i σ H' => ∃ z : Option V, σ = [some (.ref d), some (.ref a), some (.int (secAt v ms i)), z] ∧ H' = H) ?_ ?_ ?_
    · refine ⟨none, ?_, rfl⟩
      have e : ((ps.map V.ref).length : Int) - 1 = secAt v ms 0 := by rw [List.length_map, hlen]; rfl
      show [some (V.ref d), some (V.ref a), some (V.int (((ps.map V.ref).length : Int) - 1)), none] = _
      rw [e]
    · rintro i σ H' hi ⟨z, rfl, rfl⟩
      rw [List.length_map, hlen] at hi
      have i1 : i < ms.length := by omega
      have e1 : ms[i]? = some ms[i] := List.getElem?_eq_getElem i1
      obtain ⟨p1, a1, t1⟩ := hAt i _ e1
      refine ⟨_, rfl, _, rfl, _, rfl, a, _, _, _, rfl, rfl, hL, at_of (j := i) (by omega) a1, ?_⟩
      refine ⟨d, p1, v, ms[i], rfl, hd, t1, hS, _, rfl, ?_⟩
      have es : secAt v ms (i + 1) = if Uw35.before v ms[i] = true then secAt v ms i else (i : Int) := by
        show (if Uw35.before v (ms.getD i (0, 0)) = true then secAt v ms i else (i : Int)) = _
        rw [getD_of e1]
      refine ite2 (fun hn => ?_) (fun hn => ?_)
      · have hb : ¬ Uw35.before v ms[i] = true := by simpa using hn
        rw [if_neg hb] at es
        refine ⟨_, rfl, some (.int (0 + i)), ?_, rfl⟩
        rw [es]
        show [some (V.ref d), some (V.ref a), some (V.int (0 + i)), some (V.int (0 + i))] = _
        rw [Int.zero_add]
      · have hb : Uw35.before v ms[i] = true := by simpa using hn
        rw [if_pos hb] at es
        refine ⟨some (.int (0 + i)), ?_, rfl⟩
        rw [es]
        rfl
    · rintro σ H' ⟨z, rfl, rfl⟩
      have e : ((ps.map V.ref).length : Int).toNat = ms.length := by rw [List.length_map, hlen]; omega
      refine ⟨_, rfl, ?_⟩
      rw [e]
      exact q
end
end Fw
set_option Elab.async false
set_option linter.all false
set_option maxRecDepth 100000
set_option maxHeartbeats 2000000
namespace Fw
open PySem PySem.Spec PyProof.Rows L2
/-! ### towers -/
def tf (a b c d : V) : List (Str × V) := putF "marks" d (putF "far" c (putF "y" b (putF "x" a [])))
theorem tf_x (a b c d : V) : (tf a b c d).lookup ("x" : Str) = some a := by
  unfold tf
  rw [lookup_putF, if_neg (by decide +kernel), lookup_putF, if_neg (by decide +kernel), lookup_putF, if_neg (by decide +kernel), lookup_putF, if_pos rfl]
theorem tf_y (a b c d : V) : (tf a b c d).lookup ("y" : Str) = some b := by
  unfold tf
  rw [lookup_putF, if_neg (by decide +kernel), lookup_putF, if_neg (by decide +kernel), lookup_putF, if_pos rfl]
theorem tf_far (a b c d : V) : (tf a b c d).lookup ("far" : Str) = some c := by
  unfold tf
  rw [lookup_putF, if_neg (by decide +kernel), lookup_putF, if_pos rfl]
theorem tf_marks (a b c d : V) : (tf a b c d).lookup ("marks" : Str) = some d := by
  unfold tf
  rw [lookup_putF, if_pos rfl]
theorem tf_tells (a b c d : V) : (tf a b c d).lookup ("tells" : Str) = none := by
  unfold tf
  rw [lookup_putF, if_neg (by decide +kernel), lookup_putF, if_neg (by decide +kernel), lookup_putF, if_neg (by decide +kernel), lookup_putF, if_neg (by decide +kernel)]
  rfl
structure TTxt (K : PySem.W.Frag) (C : Addr) : Prop where
  cl : Cls K C
  nx : NoAttr K C "x"
  ny : NoAttr K C "y"
  nf : NoAttr K C "far"
  nm : NoAttr K C "marks"
/-- a tower stands at t -/
def TowerAt (K : PySem.W.Frag) (C : Addr) (H : Hp) (t : Addr) (tw : Uw35.Tower) : Prop := ∃ dx m, H t = some (.ins C dx (tf (.int tw.x) (.int tw.y) (.int tw.far) (.ref m))) ∧ MarksAt K H m tw.marks
theorem TowerAt.same {K : PySem.W.Frag} {C : Addr} {H H' : Hp} {t : Addr} {tw : Uw35.Tower} (e : Same H H') (h : TowerAt K C H t tw) : TowerAt K C H' t tw := by
  obtain ⟨dx, m, h1, h2⟩ := h
  exact ⟨dx, m, e _ _ h1, h2.same e⟩
/-- what tells gives -/
def tellP (tw : Uw35.Tower) (x y : Int) : Int :=
  if tw.marks.length = 0 ∨ (tw.far : Int) < (x - tw.x) * (x - tw.x) + (y - tw.y) * (y - tw.y) then (tw.marks.length : Int)
  else if x - tw.x = 0 ∧ y - tw.y = 0 then 0 else secAt (x - tw.x, y - tw.y) tw.marks tw.marks.length
/-- a tower as the document lets it be -/
structure TOk (tw : Uw35.Tower) : Prop where
  x : tw.x ≤ 8
  y : tw.y ≤ 8
  len : tw.marks.length ≤ 8
  good : Uw35.goodMarks tw.marks = true
section
variable {P : Program} {w : World} {K : PySem.W.Frag} {mg : Str → Option Value} {base : Heap}
abbrev sTI : Stmt := inClass (top 7) 0
abbrev sTells : Stmt := inClass (top 7) 1
def spTI (C : Addr) : Sp := fun vs H Q _ => ∃ (p dx : Addr) (a b c d : V), vs = [.ref p, a, b, c, d] ∧ H p = some (.ins C dx []) ∧ ∀ H' : Hp, H' p = some (.ins C dx (tf a b c d)) → (∀ q o, H q = some o → q ≠ p → H' q = some o) → (∀ q, H q = none → H' q = none) → Q .non H'
theorem scTI : FnScope ["self", "x", "y", "far", "marks"] ["self", "x", "y", "far", "marks"] (defScope sTI) := ⟨rfl, rfl, rfl, by decide +kernel, rfl, by decide +kernel, by decide +kernel⟩
theorem ok_ti {f C : Addr} {fd : FuncData} (F : Fun K "__init__" "Tower.__init__" sTI f fd) (T : TTxt K C) : FnOk P w K mg base CX0 1 f fd ["self", "x", "y", "far", "marks"] (spTI C) := by
  refine F.ok scTI (fun vs H Q E h => ?_) (fun cdv A outer s H vs Q E hr h => ?_)
  · obtain ⟨p, dx, a, b, c, d, rfl, _⟩ := h
    rfl
  · obtain ⟨p, dx, a, b, c, d, rfl, hp, k⟩ := h
    refine ⟨_, pss_cons (ps_fld (pv 0) (pv 1) rfl) (pss_cons (ps_fld (pv 0) (pv 2) rfl) (pss_cons (ps_fld (pv 0) (pv 3) rfl) (pss_one (ps_fld (pv 0) (pv 4) rfl)))), ?_⟩
    refine ⟨_, rfl, _, rfl, p, C, dx, _, rfl, hp, T.cl, T.nx, (by show 0 < 1000; decide), ?_⟩
    refine ⟨_, rfl, _, rfl, p, C, dx, _, rfl, upd_same, T.cl, T.ny, (Nat.lt_of_le_of_lt (length_putF _ _ _) (by show 1 < 1000; decide)), ?_⟩
    refine ⟨_, rfl, _, rfl, p, C, dx, _, rfl, upd_same, T.cl, T.nf, (Nat.lt_of_le_of_lt (length_putF _ _ _) (Nat.lt_of_le_of_lt (Nat.add_le_add_right (length_putF _ _ _) 1) (by show 2 < 1000; decide))), ?_⟩
    refine ⟨_, rfl, _, rfl, p, C, dx, _, rfl, upd_same, T.cl, T.nm, (Nat.lt_of_le_of_lt (length_putF _ _ _) (Nat.lt_of_le_of_lt (Nat.add_le_add_right (length_putF _ _ _) 1) (Nat.lt_of_le_of_lt (Nat.add_le_add_right (Nat.add_le_add_right (length_putF _ _ _) 1) 1) (by show 3 < 1000; decide)))), ?_⟩
    refine k _ upd_same (fun q o e hq => ?_) (fun q e => ?_)
    · rw [upd_ne hq, upd_ne hq, upd_ne hq, upd_ne hq]
      exact e
    · have hq : q ≠ p := (ne_of_none hp e).symm
      rw [upd_ne hq, upd_ne hq, upd_ne hq, upd_ne hq]
      exact e
def spTells (K : PySem.W.Frag) (C : Addr) : Sp := fun vs H Q _ => ∃ (t : Addr) (tw : Uw35.Tower) (x y : Nat), vs = [.ref t, .int x, .int y] ∧ TowerAt K C H t tw ∧ TOk tw ∧ x ≤ 100 ∧ y ≤ 100 ∧ ∀ H' : Hp, Same H H' → Q (.int (tellP tw x y)) H'
theorem scTells : FnScope ["self", "x", "y", "along_x", "along_y", "none"] ["self", "x", "y"] (defScope sTells) := ⟨rfl, rfl, rfl, by decide +kernel, rfl, by decide +kernel, by decide +kernel⟩
theorem ok_tells {f C : Addr} {fd : FuncData} (F : Fun K "tells" "Tower.tells" sTells f fd) (T : TTxt K C) (FS : Fn P w K mg base "sector_of" 3 ["direction", "marks"] (spSec K)) (ml : mg "len" = none) :
    FnOk P w K mg base CX0 4 f fd ["self", "x", "y"] (spTells K C) := by
  refine F.ok scTells (fun vs H Q E h => ?_) (fun cdv A outer s H vs Q E hr h => ?_)
  · obtain ⟨t, tw, x, y, rfl, _⟩ := h
    rfl
  · obtain ⟨t, tw, x, y, rfl, ⟨dx, m, ht, hM⟩, ok, hx, hy, q⟩ := h
    refine ⟨_, pss_cons (ps_set (i := 3) scTells.nd rfl (Or.inl rfl) (pe_op op_sub (pv 1) (pe_fld (pv 0) rfl)))
      (pss_cons (ps_set (i := 4) scTells.nd rfl (Or.inl rfl) (pe_op op_sub (pv 2) (pe_fld (pv 0) rfl)))
      (pss_cons (ps_set (i := 5) scTells.nd rfl (Or.inl rfl) (pe_callB call_len_seq rfl ml PySem.boot_len (pa_cons (pe_fld (pv 0) rfl) pa_nil)))
      (pss_cons (ps_if (PW.pt (pw_or (pt_cmpR op_eq (pv 5) pe_int (nomark _)) (pw_or1 (pt_cmpR op_gt (pe_op op_add (pe_op op_mul (pv 3) (pv 3)) (pe_op op_mul (pv 4) (pv 4))) (pe_fld (pv 0) rfl) (nomark _))))) (pss_one (ps_ret (pv 5))) pss_nil)
      (pss_cons (ps_if (PW.pt (pw_and (pt_cmpR op_eq (pv 3) pe_int (nomark _)) (pw_and1 (pt_cmpR op_eq (pv 4) pe_int (nomark _))))) (pss_one (ps_ret pe_int)) pss_nil)
      (pss_one (ps_ret (pe_fn FS hr rfl (pa_cons (pe_tup (pa_cons (pv 3) (pa_cons (pv 4) pa_nil))) (pa_cons (pe_fld (pv 0) rfl) pa_nil))))))))), ?_⟩
    have bx := ok.x
    have bY := ok.y
    obtain ⟨ps, hL, hlen, hAt⟩ := hM.at
    have eL : ((ps.map V.ref).length : Int) = tw.marks.length := by rw [List.length_map, hlen]
    refine ⟨_, rfl, _, rfl, t, C, dx, _, _, rfl, ht, T.cl, T.nx, tf_x _ _ _ _, _, _, rfl, rfl, ?_⟩
    refine ⟨_, rfl, _, rfl, t, C, dx, _, _, rfl, ht, T.cl, T.ny, tf_y _ _ _ _, _, _, rfl, rfl, ?_⟩
    refine ⟨_, rfl, t, C, dx, _, _, rfl, ht, T.cl, T.nm, tf_marks _ _ _ _, m, _, rfl, .inl hL, ?_⟩
    rw [eL]
    -- none == 0 or ..
    refine ⟨_, rfl, rfl, _, rfl, ?_⟩
    refine ite2 (fun h => ?_) (fun h => ?_)
    · rw [decide_eq_true_iff] at h
      have h0 : tw.marks.length = 0 := by have := V.int.inj h; omega
      have e : tellP tw x y = (tw.marks.length : Int) := by unfold tellP; rw [if_pos (.inl h0)]
      rw [e] at q
      refine iteT ⟨_, rfl, ?_⟩
      exact q _ (Same.refl _)
    · rw [decide_eq_true_iff] at h
      have h0 : ¬ tw.marks.length = 0 := fun z => h (by rw [z]; rfl)
      refine ⟨_, rfl, _, rfl, _, _, rfl, rfl, .inl ⟨by omega, by omega⟩, ?_⟩
      refine ⟨_, rfl, _, rfl, _, _, rfl, rfl, .inl ⟨by omega, by omega⟩, _, _, rfl, rfl, ?_⟩
      refine ⟨_, rfl, t, C, dx, _, _, rfl, ht, T.cl, T.nf, tf_far _ _ _ _, _, _, rfl, rfl, _, rfl, ?_⟩
      refine ite2 (fun h1 => ?_) (fun h1 => ?_)
      · rw [decide_eq_true_iff] at h1
        have e : tellP tw x y = (tw.marks.length : Int) := by unfold tellP; rw [if_pos (.inr h1)]
        rw [e] at q
        exact ⟨_, rfl, q _ (Same.refl _)⟩
      · rw [decide_eq_true_iff] at h1
        have n1 : ¬ (tw.marks.length = 0 ∨ (tw.far : Int) < ((x : Int) - tw.x) * ((x : Int) - tw.x) + ((y : Int) - tw.y) * ((y : Int) - tw.y)) := by
          rintro (z | z)
          · exact h0 z
          · exact h1 z
        unfold tellP at q
        rw [if_neg n1] at q
        -- along_x == 0 and along_y == 0
        have last : ¬ ((x : Int) - tw.x = 0 ∧ (y : Int) - tw.y = 0) → _ := fun hz => by
          rw [if_neg hz] at q
          exact q
        refine ⟨_, rfl, rfl, _, rfl, ?_⟩
        have fin : ¬ ((x : Int) - tw.x = 0 ∧ (y : Int) - tw.y = 0) → tRet (tCall (spSec K) [] E0 (tCons (tTup (tCons (tVar 3) (tCons (tVar 4) tNil))) (tCons (tFld K (tVar 0) "marks") tNil)))
            { nx := fun _ H' => Q .non H', rt := Q } [some (.ref t), some (.int x), some (.int y), some (.int ((x : Int) - tw.x)), some (.int ((y : Int) - tw.y)), some (.int tw.marks.length)] H := fun hz => by
          refine ⟨_, rfl, _, rfl, szl (by show 2 ≤ 16777216; decide), fun p hp => ?_⟩
          have sm : Same H (upd H p (.tup [.int ((x : Int) - tw.x), .int ((y : Int) - tw.y)])) := same_new hp
          refine ⟨_, rfl, t, C, dx, _, _, rfl, sm _ _ ht, T.cl, T.nm, tf_marks _ _ _ _, ?_⟩
          refine ⟨p, m, ((x : Int) - tw.x, (y : Int) - tw.y), tw.marks, rfl, SqT.of upd_same, hM.same sm, ⟨by show -1000 ≤ (x : Int) - tw.x; omega, by show (x : Int) - tw.x ≤ 1000; omega, by show -1000 ≤ (y : Int) - tw.y; omega, by show (y : Int) - tw.y ≤ 1000; omega⟩, by have := ok.len; omega, ?_⟩
          exact last hz _ sm
        refine ite2 (fun h2 => ?_) (fun h2 => ?_)
        · rw [decide_eq_true_iff] at h2
          refine ⟨_, rfl, rfl, _, rfl, ?_⟩
          refine ite2 (fun h3 => ?_) (fun h3 => ?_)
          · rw [decide_eq_true_iff] at h3
            rw [if_pos ⟨V.int.inj h2, V.int.inj h3⟩] at q
            exact q _ (Same.refl _)
          · rw [decide_eq_true_iff] at h3
            exact fin fun z => h3 (congrArg V.int z.2)
        · rw [decide_eq_true_iff] at h2
          exact iteF (fin fun z => h2 (congrArg V.int z.1))
end
end Fw
set_option Elab.async false
set_option linter.all false
set_option maxRecDepth 100000
set_option maxHeartbeats 2000000
namespace Fw
open PySem PySem.Spec PyProof.Rows L2
section
variable {P : Program} {w : World} {K : PySem.W.Frag} {mg : Str → Option Value} {base : Heap}
/-! ### is_side -/
abbrev sSide : Stmt := top 30
def spSide : Sp := fun vs H Q _ => ∃ n : Nat, vs = [.int n] ∧ Q (.bl (decide (2 ≤ n ∧ n ≤ 8))) H
theorem scSide : FnScope ["length"] ["length"] (defScope sSide) := ⟨rfl, rfl, rfl, by decide +kernel, rfl, by decide +kernel, by decide +kernel⟩
theorem ok_side {f : Addr} {fd : FuncData} (F : Fun K "is_side" "is_side" sSide f fd) (c1 : CInt mg "SHORTEST_SIDE" 2) (c2 : CInt mg "LONGEST_SIDE" 8) : FnOk P w K mg base CX0 1 f fd ["length"] spSide := by
  refine F.ok scSide (fun vs H Q E h => ?_) (fun cdv A outer s H vs Q E hr h => ?_)
  · obtain ⟨n, rfl, _⟩ := h
    rfl
  · obtain ⟨n, rfl, q⟩ := h
    refine ⟨_, pss_one (ps_ret (pe_and (pe_cmpR op_le (pe_cint c1 rfl) (pv 0) (nomark _)) (pe_one (pe_cmpR op_le (pv 0) (pe_cint c2 rfl) (nomark _))))), ?_⟩
    refine ⟨_, rfl, _, _, rfl, rfl, _, rfl, ?_⟩
    refine ite2 (fun h => ?_) (fun h => ?_)
    · rw [decide_eq_true_iff] at h
      refine ⟨_, rfl, _, _, rfl, rfl, ?_⟩
      have e : decide ((n : Int) ≤ 8) = decide (2 ≤ n ∧ n ≤ 8) := by
        apply decide_eq_decide.mpr
        omega
      rw [← e] at q
      exact q
    · rw [decide_eq_true_iff] at h
      rw [decide_eq_false (by omega)] at q
      exact q
/-! ### are_mark_numbers -/
abbrev sNums : Stmt := top 31
def numsOk (ns : List Nat) : Bool := decide (ns.length % 2 = 0) && decide (ns.length ≤ 16) && ns.all fun n => decide (n ≤ 20)
def spNums (K : PySem.W.Frag) : Sp := fun vs H Q _ => ∃ (a : Addr) (ns : List Nat), vs = [.ref a] ∧ SqL K H a (ns.map nat2V) ∧ ns.length ≤ 20 ∧ ∀ H' : Hp, Same H H' → Q (.bl (numsOk ns)) H'
theorem scNums : FnScope ["numbers", "number"] ["numbers"] (defScope sNums) := ⟨rfl, rfl, rfl, by decide +kernel, rfl, by decide +kernel, by decide +kernel⟩
theorem ok_nums {f : Addr} {fd : FuncData} (F : Fun K "are_mark_numbers" "are_mark_numbers" sNums f fd) (c1 : CInt mg "MOST_MARK_NUMBERS" 16) (c2 : CInt mg "HIGHEST_MARK_NUMBER" 20) (ml : mg "len" = none) (ma : mg "all" = none) :
    FnOk P w K mg base CX0 1 f fd ["numbers"] (spNums K) := by
  refine F.ok scNums (fun vs H Q E h => ?_) (fun cdv A outer s H vs Q E hr h => ?_)
  · obtain ⟨a, ns, rfl, _⟩ := h
    rfl
  · obtain ⟨a, ns, rfl, hL, h20, q⟩ := h
    refine ⟨_, pss_cons (ps_if (PW.pt (pw_or (pt_cmpR op_ne (pe_op op_mod (pe_callB call_len_seq rfl ml PySem.boot_len (pa_cons (pv 0) pa_nil)) pe_int) pe_int (nomark _))
        (pw_or1 (pt_cmpR op_gt (pe_callB call_len_seq rfl ml PySem.boot_len (pa_cons (pv 0) pa_nil)) (pe_cint c1 rfl) (nomark _))))) (pss_one (ps_ret pe_bl)) pss_nil)
      (pss_one (ps_ret (pe_callB (cr_all rfl) rfl ma boot_all (pa_cons (pe_lc (own := [("number", 1)]) rfl scNums.nd (pi_list (pv 0)) (blkOk_by (by rfl))
        (fun _ _ _ _ _ => pg_name (i := 1) scNums.nd rfl (Or.inl rfl)) (fun _ _ _ _ _ => pts_nil) (fun _ _ _ _ _ => pe_cmpR op_le (pv 1) (pe_cint c2 rfl) (nomark _))) pa_nil)))), ?_⟩
    have e1 : ((ns.map nat2V).length : Int) = ns.length := by rw [List.length_map]
    refine ⟨_, rfl, a, _, rfl, .inl hL, _, _, rfl, rfl, (by show (0 : Int) < 2; decide), rfl, _, rfl, ?_⟩
    rw [e1]
    have last : ns.length % 2 = 0 → ns.length ≤ 16 → ∀ H' : Hp, Same H H' → Q (.bl (ns.all fun n => decide (n ≤ 20))) H' := fun h1 h2 => by
      have e : numsOk ns = ns.all fun n => decide (n ≤ 20) := by
        unfold numsOk
        rw [decide_eq_true h1, decide_eq_true h2]
        rfl
      rw [e] at q
      exact q
    refine ite2 (fun h => ?_) (fun h => ?_)
    · have h' : ¬ ns.length % 2 = 0 := fun z => by
        have h3 : (!decide (V.int ((ns.length : Int) % 2) = V.int 0)) = true := h
        rw [show ((ns.length : Int) % 2) = 0 by omega] at h3
        exact absurd h3 (by decide)
      have e : numsOk ns = false := by
        unfold numsOk
        rw [decide_eq_false h']
        rfl
      rw [e] at q
      exact iteT (q _ (Same.refl _))
    · have h' : ns.length % 2 = 0 := by
        apply Classical.byContradiction
        intro z
        apply h
        simp
        omega
      refine ⟨_, rfl, a, _, rfl, .inl hL, _, _, rfl, rfl, _, rfl, ?_⟩
      rw [e1]
      refine ite2 (fun h2 => ?_) (fun h2 => ?_)
      · rw [decide_eq_true_iff] at h2
        have e : numsOk ns = false := by
          unfold numsOk
          rw [decide_eq_false (show ¬ ns.length ≤ 16 by omega), Bool.and_false]
          rfl
        rw [e] at q
        exact q _ (Same.refl _)
      · rw [decide_eq_true_iff] at h2
        refine ⟨_, rfl, a, rfl, ⟨_, hL⟩, fun D hD => ?_⟩
        refine lc_list (K := K) (a := a) (xs := ns.map nat2V) (fun i H' => Same H H' ∧ H' D = some (.lst (((ns.take i).map fun n => decide (n ≤ 20)).map V.bl))) ⟨same_new hD, upd_same⟩ (fun i H' _ z => z.1.seq hL) ?_ ?_
        · rintro i x H' hi ⟨sm, hd⟩
          obtain ⟨z, hz, rfl⟩ : ∃ z, ns[i]? = some z ∧ x = nat2V z := by
            rw [List.getElem?_map] at hi
            cases e : ns[i]? with
            | none => rw [e] at hi; cases hi
            | some z => rw [e] at hi; exact ⟨z, rfl, (Option.some.inj hi).symm⟩
          refine ⟨rfl, _, rfl, _, _, rfl, rfl, _, hd, ?_, ?_, ?_⟩
          · rw [List.length_map, List.length_map, List.length_take]
            exact szlt (by omega)
          · intro b o e
            rw [upd_ne (ne_of_none e hD)]
            exact sm b o e
          · rw [upd_same, take_snoc hz, List.map_append, List.map_append]
            have e : decide ((z : Int) ≤ 20) = decide (z ≤ 20) := by apply decide_eq_decide.mpr; omega
            show some (HO.lst (_ ++ [V.bl (decide ((z : Int) ≤ 20))])) = some (HO.lst (_ ++ [V.bl (decide (z ≤ 20))]))
            rw [e]
        · rintro H' ⟨sm, hd⟩
          rw [List.length_map, List.take_length] at hd
          refine ⟨D, _, rfl, SqL.of hd, ?_⟩
          have : ((ns.map fun n => decide (n ≤ 20)).all id) = ns.all fun n => decide (n ≤ 20) := by rw [List.all_map]; rfl
          rw [this]
          exact last h' (by omega) _ sm
/-! ### groups_told_the_same -/
abbrev sGrp : Stmt := top 32
abbrev toldAt (ts : List Int) (p : Nat) : Int := ts.getD p 0
/-- groups of cells in the heap -/
def GroupsAt (K : PySem.W.Frag) (H : Hp) (ps : List Addr) (gs : List (List Nat)) : Prop := Paired (fun p (g : List Nat) => SqL K H p (g.map nat2V)) ps gs
theorem GroupsAt.same {K : PySem.W.Frag} {H H' : Hp} {ps : List Addr} {gs : List (List Nat)} (e : Same H H') (h : GroupsAt K H ps gs) : GroupsAt K H' ps gs := Paired.mapP h fun p g q => e.seq q
def spGrp (K : PySem.W.Frag) : Sp := fun vs H Q _ => ∃ (a b : Addr) (ts : List Int) (l : List Nat), vs = [.ref a, .ref b] ∧ SqL K H a (ts.map V.int) ∧ SqL K H b (l.map nat2V) ∧ (∀ p ∈ l, p < ts.length) ∧ l.length ≤ 64 ∧
  ∀ (H' : Hp) (g : Addr) (ps : List Addr), Same H H' → H g = none → H' g = some (.lst (ps.map V.ref)) → GroupsAt K H' ps ((grps (toldAt ts) l).map (·.2)) → Q (.ref g) H'
theorem scGrp : FnScope ["told", "cells", "groups", "cell"] ["told", "cells"] (defScope sGrp) := ⟨rfl, rfl, rfl, by decide +kernel, rfl, by decide +kernel, by decide +kernel⟩
/-- the dict of the groups -/
def GRel (H0 H : Hp) (kvs : List (Key × V)) (gs : List (Int × List Nat)) : Prop := Paired (fun (kv : Key × V) (g : Int × List Nat) => kv.1 = Sum.inl g.1 ∧ ∃ p, kv.2 = .ref p ∧ H0 p = none ∧ H p = some (.lst (g.2.map nat2V))) kvs gs
theorem GRel.keys {H0 H : Hp} {kvs : List (Key × V)} {gs : List (Int × List Nat)} (h : GRel H0 H kvs gs) : kvs.map (·.1) = gs.map fun g => Sum.inl g.1 := by
  induction h with
  | nil => rfl
  | cons r _ ih => rw [List.map_cons, List.map_cons, ih, r.1]
theorem GRel.app {H0 H : Hp} {kvs : List (Key × V)} {gs : List (Int × List Nat)} {k : Int} {v : V} {c : Nat} (h : GRel H0 H kvs gs) (nd : (kvs.map (·.2)).Nodup) (hv : valV kvs (Sum.inl k) = some v) :
    ∃ p xs, v = .ref p ∧ H0 p = none ∧ H p = some (.lst xs) ∧ xs.length ≤ ((gs.map fun g => g.2.length).foldr max 0) ∧ GRel H0 (upd H p (.lst (xs ++ [nat2V c]))) kvs (grpAdd k c gs) := by
  induction h with
  | nil => rw [valV_nil] at hv; cases hv
  | @cons kv g kvs gs r t ih =>
    obtain ⟨e1, p, e2, e3, e4⟩ := r
    obtain ⟨n1, n2⟩ := List.nodup_cons.mp nd
    by_cases hk : kv.1 = Sum.inl k
    · rw [valV_pos hk] at hv
      have ev : v = .ref p := by rw [← e2]; exact (Option.some.inj hv).symm
      have ek : g.1 = k := by rw [e1] at hk; exact Sum.inl.inj hk
      refine ⟨p, _, ev, e3, e4, ?_, ?_⟩
      · rw [List.length_map, List.map_cons, List.foldr_cons]
        exact Nat.le_max_left _ _
      · show Paired _ (kv :: kvs) (if g.1 = k then (g.1, g.2 ++ [c]) :: gs else g :: grpAdd k c gs)
        rw [if_pos ek]
        refine .cons ⟨e1, p, e2, e3, by rw [upd_same, List.map_append]; rfl⟩ ?_
        have mv : ∀ kv' ∈ kvs, kv'.2 ≠ .ref p := fun kv' hm z => n1 (by show kv.2 ∈ _; rw [show kv.2 = kv'.2 by rw [e2, z]]; exact List.mem_map.mpr ⟨kv', hm, rfl⟩)
        clear ih nd n1 n2 hv e4 e1 e2
        induction t with
        | nil => exact .nil
        | @cons kv' g' kvs' gs' r' t' ih' =>
          obtain ⟨f1, p', f2, f3, f4⟩ := r'
          refine .cons ⟨f1, p', f2, f3, ?_⟩ (ih' fun x hx => mv x (List.mem_cons_of_mem _ hx))
          rw [upd_ne (fun z => mv kv' List.mem_cons_self (by rw [f2, z]))]
          exact f4
    · rw [valV_neg hk] at hv
      obtain ⟨p', xs, h1, h0, h2, h3, h4⟩ := ih n2 hv
      have ek : ¬ g.1 = k := fun z => hk (by rw [e1, z])
      refine ⟨p', xs, h1, h0, h2, ?_, ?_⟩
      · rw [List.map_cons, List.foldr_cons]
        exact Nat.le_trans h3 (Nat.le_max_right _ _)
      · show Paired _ (kv :: kvs) (if g.1 = k then (g.1, g.2 ++ [c]) :: gs else g :: grpAdd k c gs)
        rw [if_neg ek]
        refine .cons ⟨e1, p, e2, e3, ?_⟩ h4
        have hin : V.ref p' ∈ kvs.map (·.2) := by
          unfold valV at hv
          cases ef : kvs.find? (fun kv => decide (kv.1 = Sum.inl k)) with
          | none => rw [ef] at hv; cases hv
          | some z =>
            rw [ef] at hv
            have : z.2 = v := Option.some.inj hv
            rw [← h1, ← this]
            exact List.mem_map.mpr ⟨z, List.mem_of_find?_eq_some ef, rfl⟩
        rw [upd_ne (fun z => n1 (by show kv.2 ∈ _; rw [e2, z]; exact hin))]
        exact e4
end
end Fw
set_option Elab.async false
set_option linter.all false
set_option maxRecDepth 100000
set_option maxHeartbeats 2000000
namespace Fw
open PySem PySem.Spec PyProof.Rows L2
theorem foldr_le {n : Nat} : ∀ {l : List Nat}, (∀ x ∈ l, x ≤ n) → l.foldr max 0 ≤ n
  | [], _ => Nat.zero_le _
  | a :: r, h => by
    rw [List.foldr_cons]
    exact Nat.max_le.mpr ⟨h a List.mem_cons_self, foldr_le fun x hx => h x (List.mem_cons_of_mem _ hx)⟩
theorem grps_small (f : Nat → Int) (l : List Nat) : ∀ g ∈ grps f l, g.2.length ≤ l.length := by
  intro g hg
  rw [grps_eq] at hg
  obtain ⟨a, _, rfl⟩ := List.mem_map.mp hg
  exact List.length_filter_le _ _
theorem grpAdd_new {k : Int} {c : Nat} : ∀ {gs : List (Int × List Nat)}, ¬ k ∈ gs.map (·.1) → grpAdd k c (gs ++ [(k, [])]) = grpAdd k c gs
  | [], _ => by
    show (if k = k then (k, [] ++ [c]) :: [] else _) = [(k, [c])]
    rw [if_pos rfl]
    rfl
  | g :: r, h => by
    have h1 : ¬ g.1 = k := fun e => h (by rw [List.map_cons, e]; exact List.mem_cons_self)
    have h2 : ¬ k ∈ r.map (·.1) := fun e => h (List.mem_cons_of_mem _ e)
    show (if g.1 = k then (g.1, g.2 ++ [c]) :: (r ++ [(k, [])]) else g :: grpAdd k c (r ++ [(k, [])])) = if g.1 = k then (g.1, g.2 ++ [c]) :: r else g :: grpAdd k c r
    rw [if_neg h1, if_neg h1, grpAdd_new h2]
theorem GRel.refs {K : PySem.W.Frag} {H0 H : Hp} {kvs : List (Key × V)} {gs : List (Int × List Nat)} (h : GRel H0 H kvs gs) : ∃ ps : List Addr, kvs.map (·.2) = ps.map V.ref ∧ GroupsAt K H ps (gs.map (·.2)) := by
  induction h with
  | nil => exact ⟨[], rfl, .nil⟩
  | cons r _ ih =>
    obtain ⟨ps, h1, h2⟩ := ih
    obtain ⟨_, p, e2, _, e4⟩ := r
    exact ⟨p :: ps, by rw [List.map_cons, List.map_cons, h1, e2], .cons (SqL.of e4) h2⟩
theorem GRel.mapH {H0 H H' : Hp} {kvs : List (Key × V)} {gs : List (Int × List Nat)} (h : GRel H0 H kvs gs) (k : ∀ p, H0 p = none → ∀ xs, H p = some (.lst xs) → H' p = some (.lst xs)) : GRel H0 H' kvs gs :=
  Paired.mapP h fun kv g ⟨e1, p, e2, e3, e4⟩ => ⟨e1, p, e2, e3, k p e3 _ e4⟩
section
variable {P : Program} {w : World} {K : PySem.W.Frag} {mg : Str → Option Value} {base : Heap}
theorem ok_grp {f : Addr} {fd : FuncData} (F : Fun K "groups_told_the_same" "groups_told_the_same" sGrp f fd) (ml : mg "list" = none) : FnOk P w K mg base CX0 1 f fd ["told", "cells"] (spGrp K) := by
  refine F.ok scGrp (fun vs H Q E h => ?_) (fun cdv A outer s H vs Q E hr h => ?_)
  · obtain ⟨a, b, ts, l, rfl, _⟩ := h
    rfl
  · obtain ⟨a, b, ts, l, rfl, hT, hC, hin, h64, q⟩ := h
    have hu := hu_of hr
    refine ⟨_, pss_cons (ps_set (i := 2) scGrp.nd rfl (Or.inl rfl) pe_dnewK)
      (pss_cons (ps_for PassesOwn.never rfl (pi_list (pv 1)) (pg_name (i := 3) scGrp.nd rfl (Or.inl rfl))
        (pss_cons (ps_if (pt_cmp (pc_dnotin hu (pe_ix ix_list (pv 0) (pv 3) (fun _ _ => rfl)) (pv 2))) (pss_one (ps_dput hu (pv 2) (pe_ix ix_list (pv 0) (pv 3) (fun _ _ => rfl)) (pe_lst pa_nil) rfl)) pss_nil)
        (pss_one (ps_expr (pe_bm PySem.F.plainAttrs_list PySem.F.slot_list_append PySem.F.type_list_append mt_append (pe_dget hu (pv 2) (pe_ix ix_list (pv 0) (pv 3) (fun _ _ => rfl)) (fun _ _ => rfl)) (pa_cons (pv 3) pa_nil))))))
      (pss_one (ps_ret (pe_callTy (call_listV rfl) rfl ml PyProof.Rows.boot_list (pa_cons (pe_bm0 PySem.F.plainAttrs_dict PySem.F.slot_dict_values PySem.F.type_dict_values mt_values (pv 2)) pa_nil))))), ?_⟩
    intro d hd
    have s0 : Same H (upd H d (.dK [])) := same_new hd
    refine ⟨_, rfl, b, rfl, ⟨_, s0.seq hC⟩, for_list (K := K) (a := b) (xs := l.map nat2V) (fun i σ H' => ∃ (z : Option V) (kvs : List (Key × V)), σ = [some (.ref a), some (.ref b), some (.ref d), z] ∧ Same H H' ∧ H' d = some (.dK kvs) ∧
      (kvs.map (·.2)).Nodup ∧ GRel H H' kvs (grps (toldAt ts) (l.take i))) ?_ (fun i σ H' _ ⟨_, _, _, sm, _⟩ => sm.seq hC) ?_ ?_⟩
    · exact ⟨none, [], rfl, s0, upd_same, List.nodup_nil, .nil⟩
    · rintro i y σ H' hi ⟨z, kvs, rfl, sm, hk, nd, R⟩
      obtain ⟨c, hc, rfl⟩ : ∃ c, l[i]? = some c ∧ y = nat2V c := by
        rw [List.getElem?_map] at hi
        cases e : l[i]? with
        | none => rw [e] at hi; cases hi
        | some c => rw [e] at hi; exact ⟨c, rfl, (Option.some.inj hi).symm⟩
      have hlt : c < ts.length := hin c (List.mem_of_getElem? hc)
      have ec : (ts.map V.int)[c]? = some (.int (toldAt ts c)) := by
        rw [List.getElem?_map, List.getElem?_eq_getElem hlt]
        show some (V.int ts[c]) = some (V.int (ts.getD c 0))
        rw [getD_of (List.getElem?_eq_getElem hlt)]
      have eg : grps (toldAt ts) (l.take (i + 1)) = grpAdd (toldAt ts c) c (grps (toldAt ts) (l.take i)) := by rw [take_snoc hc, grps_snoc]
      have small : ∀ x ∈ (grps (toldAt ts) (l.take i)).map fun g => g.2.length, x ≤ 64 := by
        intro x hx
        obtain ⟨g, hg, rfl⟩ := List.mem_map.mp hx
        have h1 := grps_small _ _ g hg
        rw [List.length_take] at h1
        omega
      have cont : ∀ (H2 : Hp) (kvs2 : List (Key × V)) (gs2 : List (Int × List Nat)) (v : V), Same H H2 → H2 d = some (.dK kvs2) → (kvs2.map (·.2)).Nodup → GRel H H2 kvs2 gs2 → valV kvs2 (Sum.inl (toldAt ts c)) = some v → (∀ x ∈ gs2.map fun g => g.2.length, x ≤ 64) →
          grpAdd (toldAt ts c) c gs2 = grps (toldAt ts) (l.take (i + 1)) →
          (tDrop (tBM K "list" rAppend (tDGet (tVar 2) (tOp (rIxL K) (tVar 0) (tVar 3))) (tCons (tVar 3) tNil)))
            { nx := fun σ H' => ∃ (z : Option V) (kvs : List (Key × V)), σ = [some (.ref a), some (.ref b), some (.ref d), z] ∧ Same H H' ∧ H' d = some (.dK kvs) ∧ (kvs.map (·.2)).Nodup ∧ GRel H H' kvs (grps (toldAt ts) (l.take (i + 1))), rt := Q }
            [some (.ref a), some (.ref b), some (.ref d), some (nat2V c)] H2 := by
        intro H2 kvs2 gs2 v s2 hk2 nd2 R2 hv sm2 eg2
        obtain ⟨p, xs, rfl, hp0, hp, hle, R3⟩ := R2.app (c := c) nd2 hv
        have xs64 : xs.length ≤ 64 := Nat.le_trans hle (foldr_le sm2)
        refine ⟨_, rfl, _, rfl, _, rfl, a, _, _, _, rfl, rfl, s2.seq hT, at_of (j := c) rfl ec, d, .ref p, rfl, ?_, ?_⟩
        · rw [← hv]
          exact DGet.k (k := Sum.inl (toldAt ts c)) hk2
        refine ⟨.inl ⟨rfl, _, SqL.of hp⟩, _, rfl, p, _, _, rfl, rfl, hp, szlt (by omega), ?_⟩
        refine ⟨_, kvs2, rfl, fun q o e => ?_, ?_, nd2, ?_⟩
        · rw [upd_ne (ne_of_none e hp0)]
          exact s2 q o e
        · rw [upd_ne (ne_of hk2 hp (by intro z; cases z))]
          exact hk2
        · rw [← eg2]
          exact R3
      refine ⟨_, rfl, _, rfl, a, _, _, _, rfl, rfl, sm.seq hT, at_of (j := c) rfl ec, _, rfl, d, _, rfl, DGet.k (k := Sum.inl (toldAt ts c)) hk, _, rfl, ?_⟩
      cases hv : valV kvs (Sum.inl (toldAt ts c)) with
      | some v => exact iteF (cont H' kvs _ v sm hk nd R hv small eg.symm)
      | none =>
        refine iteT ⟨Nat.zero_le _, fun p hp => ?_⟩
        have np : d ≠ p := ne_of_none hk hp
        have sP : Same H (upd H' p (.lst [])) := sm.trans (same_new hp)
        have hk1 : (upd H' p (.lst [])) d = some (.dK kvs) := by rw [upd_ne np]; exact hk
        refine ⟨_, rfl, _, rfl, _, rfl, a, _, _, _, rfl, rfl, sP.seq hT, at_of (j := c) rfl ec, d, _, rfl,
          DPut.k (k := Sum.inl (toldAt ts c)) hk1 (szlt ?_), ?_⟩
        · have h1 := Paired.length R
          have h2 := grps_len (toldAt ts) (l.take i)
          rw [List.length_take] at h2
          omega
        have hp0 : H p = none := sm.free hp
        have nin : ¬ toldAt ts c ∈ (grps (toldAt ts) (l.take i)).map (·.1) := fun e => by
          refine valV_not hv ?_
          rw [R.keys]
          obtain ⟨g, hg, e⟩ := List.mem_map.mp e
          exact List.mem_map.mpr ⟨g, hg, by rw [e]⟩
        have R1 : GRel H (upd (upd H' p (.lst [])) d (.dK (putK kvs (Sum.inl (toldAt ts c)) (.ref p)))) (kvs ++ [(Sum.inl (toldAt ts c), .ref p)]) (grps (toldAt ts) (l.take i) ++ [(toldAt ts c, [])]) := by
          refine Paired.snoc (R.mapH fun p' e xs e' => ?_) ⟨rfl, p, rfl, hp0, ?_⟩
          · rw [upd_ne (ne_of e' hk (by intro z; cases z)), upd_ne (ne_of_none e' hp)]
            exact e'
          · rw [upd_ne np.symm, upd_same]
            rfl
        refine cont _ (kvs ++ [(Sum.inl (toldAt ts c), .ref p)]) _ (.ref p) (fun q o e => ?_) ?_ ?_ R1 ?_ ?_ ?_
        · rw [upd_ne (ne_of_none e hd), upd_ne (ne_of_none (sm q o e) hp)]
          exact sm q o e
        · rw [upd_same, putK_new _ hv]
        · rw [List.map_append]
          refine nd_snoc nd fun m => ?_
          obtain ⟨kv, hkv, e⟩ := List.mem_map.mp m
          obtain ⟨i', hi', e'⟩ := List.getElem_of_mem hkv
          obtain ⟨g, _, _, p', f2, _, f4⟩ := paired_get R (List.getElem?_eq_getElem hi')
          rw [e'] at f2
          rw [e] at f2
          rw [← V.ref.inj f2, hp] at f4
          cases f4
        · rw [valV_snoc _ _ _ _ hv, if_pos rfl]
        · intro x hx
          rw [List.map_append] at hx
          rcases List.mem_append.mp hx with h | h
          · exact small x h
          · have : x = 0 := by simpa using h
            omega
        · rw [grpAdd_new nin, eg]
    · rintro σ H' ⟨z, kvs, rfl, sm, hk, nd, R⟩
      rw [List.length_map, List.take_length] at R
      refine ⟨_, rfl, .inr (.inr (.inl ⟨rfl, .inl ⟨_, hk⟩⟩)), d, kvs, rfl, rfl, hk, fun v hv => ?_⟩
      refine ⟨v, d, kvs, rfl, upd_same, by rw [upd_ne (ne_of_none hk hv)]; exact hk, fun g hg => ?_⟩
      have nv : v ≠ g := by
        intro e
        rw [e, upd_same] at hg
        cases hg
      have hg' : H' g = none := by rw [upd_ne nv.symm] at hg; exact hg
      have s2 : Same H' (upd (upd H' v (.ext fun h => h.IsValuesView v d)) g (.lst (kvs.map (·.2)))) := (same_new hv).trans (same_new hg)
      obtain ⟨ps, e1, G⟩ := R.refs (K := K)
      refine q _ g ps (sm.trans s2) (sm.free hg') ?_ (G.same s2)
      rw [upd_same, e1]
/-! ### most_told_the_same -/
abbrev sMost : Stmt := top 33
def lensOf (ts : List Int) (l : List Nat) : List Int := ((grps (toldAt ts) l).map (·.2)).map fun g => (g.length : Int)
def spMost (K : PySem.W.Frag) : Sp := fun vs H Q _ => ∃ (a b : Addr) (ts : List Int) (l : List Nat), vs = [.ref a, .ref b] ∧ SqL K H a (ts.map V.int) ∧ SqL K H b (l.map nat2V) ∧ (∀ p ∈ l, p < ts.length) ∧ l.length ≤ 64 ∧ 0 < (lensOf ts l).length ∧
  ∀ (H' : Hp) (m : Int), Same H H' → m ∈ lensOf ts l → (∀ y ∈ lensOf ts l, y ≤ m) → Q (.int m) H'
theorem scMost : FnScope ["told", "cells", "group"] ["told", "cells"] (defScope sMost) := ⟨rfl, rfl, rfl, by decide +kernel, rfl, by decide +kernel, by decide +kernel⟩
theorem ok_most {f : Addr} {fd : FuncData} (F : Fun K "most_told_the_same" "most_told_the_same" sMost f fd) (FG : Fn P w K mg base "groups_told_the_same" 1 ["told", "cells"] (spGrp K)) (ml : mg "len" = none) (mm : mg "max" = none) :
    FnOk P w K mg base CX0 2 f fd ["told", "cells"] (spMost K) := by
  refine F.ok scMost (fun vs H Q E h => ?_) (fun cdv A outer s H vs Q E hr h => ?_)
  · obtain ⟨a, b, ts, l, rfl, _⟩ := h
    rfl
  · obtain ⟨a, b, ts, l, rfl, hT, hC, hin, h64, hpos, q⟩ := h
    refine ⟨_, pss_one (ps_ret (pe_callB (cr_max rfl) rfl mm PyProof.Rows.boot_max (pa_cons (pe_lc (own := [("group", 2)]) rfl scMost.nd (pi_list (pe_fn FG hr rfl (pa_cons (pv 0) (pa_cons (pv 1) pa_nil)))) (blkOk_by (by rfl))
      (fun _ _ _ _ _ => pg_name (i := 2) scMost.nd rfl (Or.inl rfl)) (fun _ _ _ _ _ => pts_nil) (fun _ _ _ _ _ => pe_callB (len_seqK K) rfl ml PySem.boot_len (pa_cons (pv 2) pa_nil))) pa_nil))), ?_⟩
    refine ⟨_, rfl, _, rfl, a, b, ts, l, rfl, hT, hC, hin, h64, fun H1 g ps s1 hg0 hg G => ?_⟩
    refine ⟨g, rfl, ⟨_, SqL.of hg⟩, fun D hD => ?_⟩
    have hps : ps.length = (grps (toldAt ts) l).length := by rw [Paired.length G, List.length_map]
    have hgl := grps_len (toldAt ts) l
    refine lc_list (K := K) (a := g) (xs := ps.map V.ref) (fun i H' => Same H1 H' ∧ H' D = some (.lst (((lensOf ts l).take i).map V.int))) ⟨same_new hD, upd_same⟩ (fun i H' _ z => SqL.of (z.1 _ _ hg)) ?_ ?_
    · rintro i x H' hi ⟨sm, hd⟩
      obtain ⟨p, hp, rfl⟩ : ∃ p, ps[i]? = some p ∧ x = V.ref p := by
        rw [List.getElem?_map] at hi
        cases e : ps[i]? with
        | none => rw [e] at hi; cases hi
        | some p => rw [e] at hi; exact ⟨p, rfl, (Option.some.inj hi).symm⟩
      obtain ⟨gr, hgr, hS⟩ := paired_get G hp
      have hz : (lensOf ts l)[i]? = some (gr.length : Int) := by
        unfold lensOf
        rw [List.getElem?_map, hgr]
        rfl
      refine ⟨rfl, _, rfl, p, _, rfl, .inl (sm.seq hS), _, hd, ?_, ?_, ?_⟩
      · rw [List.length_map, List.length_take]
        refine szlt ?_
        have : (lensOf ts l).length = (grps (toldAt ts) l).length := by unfold lensOf; rw [List.length_map, List.length_map]
        omega
      · intro q o e
        rw [upd_ne (ne_of_none e hD)]
        exact sm q o e
      · rw [upd_same, take_snoc hz, List.map_append, List.length_map]
        rfl
    · rintro H' ⟨sm, hd⟩
      have el : (ps.map V.ref).length = (lensOf ts l).length := by
        unfold lensOf
        rw [List.length_map, hps, List.length_map, List.length_map]
      rw [el, List.take_length] at hd
      exact ⟨D, lensOf ts l, rfl, SqL.of hd, hpos, fun m h1 h2 => q _ m (s1.trans sm) h1 h2⟩
end
end Fw
set_option Elab.async false
set_option linter.all false
set_option maxRecDepth 100000
set_option maxHeartbeats 2000000
namespace Fw
open PySem PySem.Spec PyProof.Rows L2
/-! ### slices -/
theorem six_nat (n d k : Nat) : HT.sIx n d (some (k : Int)) = min k n := by
  show (if (k : Int) < 0 then ((k : Int) + (n : Int)).toNat else min (k : Int).toNat n) = min k n
  rw [if_neg (by omega), Int.toNat_natCast]
theorem six_none (n d : Nat) : HT.sIx n d none = d := rfl
theorem cut_to {xs : List V} {k : Nat} (h : k ≤ xs.length) : cutV xs none (some (k : Int)) = xs.take k := by
  unfold cutV
  rw [six_nat, six_none, List.drop_zero, Nat.sub_zero, Nat.min_eq_left h]
theorem cut_from {xs : List V} {k : Nat} (h : k ≤ xs.length) : cutV xs (some (k : Int)) none = xs.drop k := by
  unfold cutV
  rw [six_nat, six_none, Nat.min_eq_left h]
  exact List.take_of_length_le (by rw [List.length_drop]; exact Nat.le_refl _)
theorem cut_mid {xs : List V} {i j : Nat} (h : i ≤ j) (h2 : j ≤ xs.length) : cutV xs (some (i : Int)) (some (j : Int)) = (xs.drop i).take (j - i) := by
  unfold cutV
  rw [six_nat, six_nat, Nat.min_eq_left h2, Nat.min_eq_left (Nat.le_trans h h2)]
theorem pair_take {α β : Type} {R : α → β → Prop} : ∀ {l1 : List α} {l2 : List β} (k : Nat), Paired R l1 l2 → Paired R (l1.take k) (l2.take k)
  | _, _, 0, _ => .nil
  | _, _, _ + 1, .nil => .nil
  | _, _, k + 1, .cons h t => .cons h (pair_take k t)
theorem pair_drop {α β : Type} {R : α → β → Prop} : ∀ {l1 : List α} {l2 : List β} (k : Nat), Paired R l1 l2 → Paired R (l1.drop k) (l2.drop k)
  | _, _, 0, h => h
  | _, _, _ + 1, .nil => .nil
  | _, _, k + 1, .cons _ t => pair_drop k t
theorem pair_app {α β : Type} {R : α → β → Prop} : ∀ {l1 m1 : List α} {l2 m2 : List β}, Paired R l1 l2 → Paired R m1 m2 → Paired R (l1 ++ m1) (l2 ++ m2)
  | _, _, _, _, .nil, h => h
  | _, _, _, _, .cons h t, g => .cons h (pair_app t g)
/-! ### the greatest -/
def maxL (l : List Nat) : Nat := l.foldl max 0
theorem fold_max_le : ∀ (l : List Nat) (a : Nat), a ≤ l.foldl max a ∧ ∀ x ∈ l, x ≤ l.foldl max a
  | [], a => ⟨Nat.le_refl _, fun x h => by cases h⟩
  | b :: r, a => by
    obtain ⟨h1, h2⟩ := fold_max_le r (max a b)
    refine ⟨Nat.le_trans (Nat.le_max_left a b) h1, fun x hx => ?_⟩
    rcases List.mem_cons.mp hx with rfl | hx
    · exact Nat.le_trans (Nat.le_max_right _ _) h1
    · exact h2 x hx
theorem fold_max_mem : ∀ (l : List Nat) (a : Nat), l.foldl max a = a ∨ l.foldl max a ∈ l
  | [], a => .inl rfl
  | b :: r, a => by
    rcases fold_max_mem r (max a b) with h | h
    · have e : (b :: r).foldl max a = max a b := h
      rw [e]
      rcases Nat.le_total a b with q | q
      · exact .inr (by rw [Nat.max_eq_right q]; exact List.mem_cons_self)
      · exact .inl (Nat.max_eq_left q)
    · exact .inr (List.mem_cons_of_mem _ h)
theorem max_is {l : List Nat} {m : Int} (h1 : m ∈ l.map fun (n : Nat) => (n : Int)) (h2 : ∀ y ∈ l.map (fun (n : Nat) => (n : Int)), y ≤ m) : m = (maxL l : Int) := by
  obtain ⟨n, hn, rfl⟩ := List.mem_map.mp h1
  have a := (fold_max_le l 0).2 n hn
  have b : maxL l ≤ n := by
    rcases fold_max_mem l 0 with h | h
    · show l.foldl max 0 ≤ n
      omega
    · have := h2 _ (List.mem_map.mpr ⟨_, h, rfl⟩)
      show l.foldl max 0 ≤ n
      omega
  have c : n ≤ maxL l := a
  omega
/-! ### what least_asked_at_worst reckons -/
def stepP (sub : List (List Int) → List Nat → Nat) (T : List (List Int)) (l : List Nat) (least k : Nat) : Nat :=
  if 1 < ((grps (toldAt (T.getD k [])) l).map (·.2)).length then
    (if least = 0 ∨ 1 + maxL (((grps (toldAt (T.getD k [])) l).map (·.2)).map fun g => sub (T.take k ++ T.drop (k + 1)) g) < least then
      1 + maxL (((grps (toldAt (T.getD k [])) l).map (·.2)).map fun g => sub (T.take k ++ T.drop (k + 1)) g) else least)
  else least
def leastAt (sub : List (List Int) → List Nat → Nat) (T : List (List Int)) (l : List Nat) : Nat → Nat
  | 0 => 0
  | i + 1 => stepP sub T l (leastAt sub T l i) i
def dP : Nat → List (List Int) → List Nat → Nat
  | 0, _, _ => 0
  | m + 1, T, l => leastAt (dP m) T l T.length
theorem dP_at (T : List (List Int)) (l : List Nat) : dP T.length T l = leastAt (dP (T.length - 1)) T l T.length := by
  cases T with
  | nil => rfl
  | cons a r => rfl
section
variable {P : Program} {w : World} {K : PySem.W.Frag} {mg : Str → Option Value} {base : Heap}
abbrev sLeast : Stmt := top 34
def ToldsAt (K : PySem.W.Frag) (H : Hp) (as : List Addr) (T : List (List Int)) : Prop := Paired (fun p (ts : List Int) => SqL K H p (ts.map V.int)) as T
theorem ToldsAt.same {K : PySem.W.Frag} {H H' : Hp} {as : List Addr} {T : List (List Int)} (e : Same H H') (h : ToldsAt K H as T) : ToldsAt K H' as T := Paired.mapP h fun p g q => e.seq q
def spLeast (K : PySem.W.Frag) (n : Nat) : Sp := fun vs H Q _ => ∃ (a b : Addr) (as : List Addr) (T : List (List Int)) (l : List Nat), vs = [.ref a, .ref b] ∧ SqL K H a (as.map V.ref) ∧ ToldsAt K H as T ∧ SqL K H b (l.map nat2V) ∧
  (∀ ts ∈ T, ∀ p ∈ l, p < ts.length) ∧ l.length ≤ 64 ∧ T.length < n ∧ T.length ≤ 100 ∧ ∀ H' : Hp, Same H H' → Q (.int (dP T.length T l : Nat)) H'
theorem scLeast : FnScope ["told_by_each", "cells", "least", "k", "groups", "others", "asked", "group"] ["told_by_each", "cells"] (defScope sLeast) := ⟨rfl, rfl, rfl, by decide +kernel, rfl, by decide +kernel, by decide +kernel⟩
theorem ok_least_step {f : Addr} {fd : FuncData} {n : Nat} (F : Fun K "least_asked_at_worst" "least_asked_at_worst" sLeast f fd) (FR : Fn P w K mg base "least_asked_at_worst" (n + 2) ["told_by_each", "cells"] (spLeast K n))
    (FG : Fn P w K mg base "groups_told_the_same" 1 ["told", "cells"] (spGrp K)) (ml : mg "len" = none) (mm : mg "max" = none) (mr : mg "range" = none) :
    FnOk P w K mg base CX0 (n + 3) f fd ["told_by_each", "cells"] (spLeast K (n + 1)) := by
  refine F.ok scLeast (fun vs H Q E h => ?_) (fun cdv A outer s H vs Q E hr h => ?_)
  · obtain ⟨a, b, as, T, l, rfl, _⟩ := h
    rfl
  · obtain ⟨a, b, as, T, l, rfl, hA, hT, hC, hin, h64, hn, h100, q⟩ := h
    have hr1 := hr.mono (show 1 ≤ n + 2 by omega)
    refine ⟨_, pss_cons (ps_set (i := 2) scLeast.nd rfl (Or.inl rfl) pe_int)
      (pss_cons (ps_for PassesOwn.never rfl (pi_range1 rfl mr (pa_cons (pe_callB call_len_seq rfl ml PySem.boot_len (pa_cons (pv 0) pa_nil)) pa_nil)) (pg_name (i := 3) scLeast.nd rfl (Or.inl rfl))
        (pss_cons (ps_set (i := 4) scLeast.nd rfl (Or.inl rfl) (pe_fn FG hr1 rfl (pa_cons (pe_ix ix_list (pv 0) (pv 3) (fun _ _ => rfl)) (pa_cons (pv 1) pa_nil))))
        (pss_one (ps_if (pt_cmpR op_gt (pe_callB call_len_seq rfl ml PySem.boot_len (pa_cons (pv 4) pa_nil)) pe_int (nomark _))
          (pss_cons (ps_set (i := 5) scLeast.nd rfl (Or.inr rfl) (pe_op op_cat (pe_slice sl_list (pv 0) po_none (po_some (pv 3))) (pe_slice sl_list (pv 0) (po_some (pe_op op_add (pv 3) pe_int)) po_none)))
          (pss_cons (ps_set (i := 6) scLeast.nd rfl (Or.inl rfl) (pe_op op_add pe_int (pe_callB (cr_max rfl) rfl mm PyProof.Rows.boot_max (pa_cons (pe_lc (own := [("group", 7)]) rfl scLeast.nd (pi_list (pv 4)) (blkOk_by (by rfl))
            (fun _ _ _ _ _ => pg_name (i := 7) scLeast.nd rfl (Or.inl rfl)) (fun _ _ _ _ _ => pts_nil) (fun _ _ _ _ _ => pe_fn FR hr rfl (pa_cons (pv 5) (pa_cons (pv 7) pa_nil)))) pa_nil))))
          (pss_one (ps_if (PW.pt (pw_or (pt_cmpR op_eq (pv 2) pe_int (nomark _)) (pw_or1 (pt_cmpR op_lt (pv 6) (pv 2) (nomark _))))) (pss_one (ps_set (i := 2) scLeast.nd rfl (Or.inl rfl) (pv 6))) pss_nil)))) pss_nil))))
      (pss_one (ps_ret (pv 2)))), ?_⟩
    have hlen : as.length = T.length := Paired.length hT
    have eL : ((as.map V.ref).length : Int) = T.length := by rw [List.length_map, hlen]
    refine ⟨_, rfl, a, _, rfl, .inl hA, _, rfl, by omega, by rw [eL]; omega, ?_⟩
    rw [show ((as.map V.ref).length : Int).toNat = T.length by omega]
    refine for_range (lo := 0) (fun i σ H' => ∃ z3 z4 z5 z6 : Option V, σ = [some (.ref a), some (.ref b), some (.int (leastAt (dP (T.length - 1)) T l i : Nat)), z3, z4, z5, z6, none] ∧ Same H H') ?_ ?_ ?_
    · exact ⟨none, none, none, none, rfl, Same.refl _⟩
    · rintro i σ H' hi ⟨z3, z4, z5, z6, rfl, sm⟩
      have eT : T[i]? = some T[i] := List.getElem?_eq_getElem hi
      have ea : as[i]? = some (as[i]'(by omega)) := List.getElem?_eq_getElem (by omega)
      obtain ⟨ts, hts, hS⟩ := paired_get hT ea
      rw [eT] at hts
      cases hts
      have eV : (as.map V.ref)[i]? = some (.ref (as[i]'(by omega))) := by rw [List.getElem?_map, ea]; rfl
      refine ⟨_, rfl, _, rfl, a, _, _, _, rfl, rfl, sm.seq hA, at_of (j := i) (by omega) eV, _, rfl, ?_⟩
      refine ⟨_, b, T[i], l, rfl, sm.seq hS, sm.seq hC, hin _ (List.getElem_mem _), h64, fun H2 g ps s2 hg0 hg G => ?_⟩
      have sm2 : Same H H2 := sm.trans s2
      have hps : ps.length = ((grps (toldAt T[i]) l).map (·.2)).length := Paired.length G
      have hgl : ((grps (toldAt T[i]) l).map (·.2)).length ≤ 64 := by
        rw [List.length_map]
        exact Nat.le_trans (grps_len _ _) h64
      have eS : leastAt (dP (T.length - 1)) T l (i + 1) = stepP (dP (T.length - 1)) T l (leastAt (dP (T.length - 1)) T l i) i := rfl
      unfold stepP at eS
      rw [getD_of eT] at eS
      generalize hL : leastAt (dP (T.length - 1)) T l i = least at eS ⊢
      refine ⟨_, rfl, g, _, rfl, .inl (SqL.of hg), _, _, rfl, rfl, _, rfl, ?_⟩
      rw [List.length_map, hps]
      refine ite2 (fun h1 => ?_) (fun h1 => ?_)
      · rw [decide_eq_true_iff] at h1
        rw [if_pos (by omega)] at eS
        refine ⟨_, rfl, _, rfl, _, rfl, a, _, rfl, sm2.seq hA, fun o1 ho1 => ?_⟩
        have sa := same_new (o := .lst (cutV (as.map V.ref) none (some (0 + (i : Int))))) ho1
        refine ⟨_, rfl, _, rfl, _, _, rfl, rfl, _, rfl, a, _, rfl, (sm2.trans sa).seq hA, fun o2 ho2 => ?_⟩
        have sb := same_new (o := .lst (cutV (as.map V.ref) (some (0 + (i : Int) + 1)) none)) ho2
        refine ⟨o1, o2, _, _, rfl, rfl, sb _ _ upd_same, upd_same, szl ?_, fun o3 ho3 => ?_⟩
        · have c1 := cutV_length (as.map V.ref) none (some (0 + (i : Int)))
          have c2 := cutV_length (as.map V.ref) (some (0 + (i : Int) + 1)) none
          rw [List.length_map] at c1 c2
          omega
        have e1 : cutV (as.map V.ref) none (some (0 + (i : Int))) = (as.take i).map V.ref := by
          rw [Int.zero_add, cut_to (by rw [List.length_map]; omega), List.map_take]
        have e2 : cutV (as.map V.ref) (some (0 + (i : Int) + 1)) none = (as.drop (i + 1)).map V.ref := by
          rw [Int.zero_add, show ((i : Int) + 1) = ((i + 1 : Nat) : Int) by omega, cut_from (by rw [List.length_map]; omega), List.map_drop]
        have sc := same_new (o := .lst (cutV (as.map V.ref) none (some (0 + (i : Int))) ++ cutV (as.map V.ref) (some (0 + (i : Int) + 1)) none)) ho3
        have s3 := (sa.trans sb).trans sc
        have eO : upd (upd (upd H2 o1 (.lst (cutV (as.map V.ref) none (some (0 + (i : Int)))))) o2 (.lst (cutV (as.map V.ref) (some (0 + (i : Int) + 1)) none))) o3 (.lst (cutV (as.map V.ref) none (some (0 + (i : Int))) ++ cutV (as.map V.ref) (some (0 + (i : Int) + 1)) none)) o3
            = some (.lst ((as.take i ++ as.drop (i + 1)).map V.ref)) := by
          rw [upd_same, e1, e2, List.map_append]
        generalize upd (upd (upd H2 o1 (.lst (cutV (as.map V.ref) none (some (0 + (i : Int)))))) o2 (.lst (cutV (as.map V.ref) (some (0 + (i : Int) + 1)) none))) o3 (.lst (cutV (as.map V.ref) none (some (0 + (i : Int))) ++ cutV (as.map V.ref) (some (0 + (i : Int) + 1)) none)) = H3 at s3 eO ⊢
        have sm3 : Same H H3 := sm2.trans s3
        have hO : ToldsAt K H3 (as.take i ++ as.drop (i + 1)) (T.take i ++ T.drop (i + 1)) := pair_app (pair_take i (hT.same sm3)) (pair_drop (i + 1) (hT.same sm3))
        have lO : (T.take i ++ T.drop (i + 1)).length = T.length - 1 := by
          rw [List.length_append, List.length_take, List.length_drop]
          omega
        -- asked = 1 + max(..)
        refine ⟨_, rfl, g, rfl, ⟨_, SqL.of (s3 _ _ hg)⟩, fun D hD => ?_⟩
        refine lc_list (K := K) (a := g) (xs := ps.map V.ref) (fun j H' => Same H3 H' ∧ H' D = some (.lst (((((grps (toldAt T[i]) l).map (·.2)).map fun gr => ((dP (T.length - 1) (T.take i ++ T.drop (i + 1)) gr : Nat) : Int)).take j).map V.int))) ⟨same_new hD, upd_same⟩
          (fun j H' _ z => SqL.of (z.1 _ _ (s3 _ _ hg))) ?_ ?_
        · rintro j x H' hj ⟨s4, hd⟩
          obtain ⟨p, hp, rfl⟩ : ∃ p, ps[j]? = some p ∧ x = V.ref p := by
            rw [List.getElem?_map] at hj
            cases e : ps[j]? with
            | none => rw [e] at hj; cases hj
            | some p => rw [e] at hj; exact ⟨p, rfl, (Option.some.inj hj).symm⟩
          obtain ⟨gr, hgr, hS2⟩ := paired_get G hp
          have mgr : gr ∈ (grps (toldAt T[i]) l).map (·.2) := List.mem_of_getElem? hgr
          have sub : ∀ p ∈ gr, p ∈ l := by
            rw [grps_parts] at mgr
            obtain ⟨z, _, rfl⟩ := List.mem_map.mp mgr
            exact fun p hp => (List.mem_filter.mp hp).1
          have gr64 : gr.length ≤ 64 := by
            obtain ⟨z, hz, rfl⟩ := List.mem_map.mp mgr
            exact Nat.le_trans (grps_small _ _ z hz) h64
          refine ⟨rfl, _, rfl, _, rfl, ?_⟩
          refine ⟨o3, p, _, T.take i ++ T.drop (i + 1), gr, rfl, SqL.of (s4 _ _ eO), hO.same s4, s4.seq (s3.seq hS2), ?_, gr64, by omega, by omega, fun H5 s5 => ?_⟩
          · intro t ht p hp
            refine hin t ?_ p (sub p hp)
            rcases List.mem_append.mp ht with h | h
            · exact List.mem_of_mem_take h
            · exact List.mem_of_mem_drop h
          rw [lO]
          have hz : (((grps (toldAt T[i]) l).map (·.2)).map fun gr => ((dP (T.length - 1) (T.take i ++ T.drop (i + 1)) gr : Nat) : Int))[j]? = some ((dP (T.length - 1) (T.take i ++ T.drop (i + 1)) gr : Nat) : Int) := by
            rw [List.getElem?_map, hgr]
            rfl
          refine ⟨_, s5 _ _ hd, ?_, ?_, ?_⟩
          · rw [List.length_map, List.length_take, List.length_map]
            exact szlt (by omega)
          · intro q' o e
            rw [upd_ne (ne_of_none e hD)]
            exact s5 _ _ (s4 q' o e)
          · rw [upd_same, take_snoc hz, List.map_append]
            rfl
        · rintro H' ⟨s4, hd⟩
          rw [List.take_of_length_le (by rw [List.length_map, List.length_map V.ref, hps]; exact Nat.le_refl _)] at hd
          refine ⟨D, _, rfl, SqL.of hd, by rw [List.length_map]; omega, fun m hm1 hm2 => ?_⟩
          have em : m = (maxL (((grps (toldAt T[i]) l).map (·.2)).map fun gr => dP (T.length - 1) (T.take i ++ T.drop (i + 1)) gr) : Int) := by
            refine max_is ?_ ?_
            · rw [List.map_map]
              exact hm1
            · rw [List.map_map]
              exact hm2
          subst em
          generalize maxL (((grps (toldAt T[i]) l).map (·.2)).map fun gr => dP (T.length - 1) (T.take i ++ T.drop (i + 1)) gr) = mx at eS ⊢
          refine ⟨_, _, rfl, rfl, ?_⟩
          refine ⟨_, rfl, rfl, _, rfl, ?_⟩
          have yes : (least = 0 ∨ 1 + mx < least) → (∃ z3 z4 z5 z6 : Option V, [some (V.ref a), some (V.ref b), some (V.int (1 + (mx : Int))), some (V.int (0 + (i : Int))), some (V.ref g), some (V.ref o3), some (V.int (1 + (mx : Int))), none]
              = [some (.ref a), some (.ref b), some (.int (leastAt (dP (T.length - 1)) T l (i + 1) : Nat)), z3, z4, z5, z6, none] ∧ Same H H') := fun hy => by
            rw [if_pos hy] at eS
            rw [eS]
            exact ⟨_, _, _, _, by rw [show ((1 + mx : Nat) : Int) = 1 + (mx : Int) by omega], sm3.trans s4⟩
          refine ite2 (fun h2 => ?_) (fun h2 => ?_)
          · rw [decide_eq_true_iff] at h2
            have l0 : least = 0 := by have := V.int.inj h2; omega
            exact iteT ⟨_, rfl, yes (.inl l0)⟩
          · rw [decide_eq_true_iff] at h2
            have l0 : ¬ least = 0 := fun z => h2 (by rw [z]; rfl)
            refine ⟨_, rfl, _, rfl, _, _, rfl, rfl, _, rfl, ?_⟩
            refine ite2 (fun h3 => ?_) (fun h3 => ?_)
            · rw [decide_eq_true_iff] at h3
              exact ⟨_, rfl, yes (.inr (by omega))⟩
            · rw [decide_eq_true_iff] at h3
              rw [if_neg (by omega)] at eS
              rw [eS]
              exact ⟨_, _, _, _, rfl, sm3.trans s4⟩
      · rw [decide_eq_true_iff] at h1
        rw [if_neg (by omega)] at eS
        rw [eS]
        exact ⟨_, _, _, _, rfl, sm2⟩
    · rintro σ H' ⟨z3, z4, z5, z6, rfl, sm⟩
      refine ⟨_, rfl, ?_⟩
      rw [← dP_at]
      exact q _ sm
theorem ok_least {f : Addr} {fd : FuncData} (F : Fun K "least_asked_at_worst" "least_asked_at_worst" sLeast f fd) (hm : mg "least_asked_at_worst" = some (.ref f)) (hb : Binds K fd ["told_by_each", "cells"] [])
    (FG : Fn P w K mg base "groups_told_the_same" 1 ["told", "cells"] (spGrp K)) (ml : mg "len" = none) (mm : mg "max" = none) (mr : mg "range" = none) :
    ∀ n, FnOk P w K mg base CX0 (n + 2) f fd ["told_by_each", "cells"] (spLeast K n)
  | 0 => ⟨fun vs H Q E h => by
      obtain ⟨a, b, as, T, l, rfl, _⟩ := h
      rfl, fun A outer s H args us vs Q E _ _ _ _ h => by
      obtain ⟨a, b, as, T, l, rfl, _, _, _, _, _, hn, _⟩ := h
      exact absurd hn (Nat.not_lt_zero _)⟩
  | n + 1 => ok_least_step F ⟨f, fd, hm, F.kp, hb, ok_least F hm hb FG ml mm mr n⟩ FG ml mm mr
end
end Fw
set_option Elab.async false
set_option linter.all false
set_option maxRecDepth 100000
set_option maxHeartbeats 2000000
namespace Fw
open PySem PySem.Spec PyProof.Rows L2
/-! ### a country, by numbers -/
def code (s : Uw35.Country) (i : Nat) (o : Option Nat) : Nat := o.getD (s.tower i).marks.length
def toldN (s : Uw35.Country) (i p : Nat) : Int := tellP (s.tower i) ((p % s.wide : Nat) : Int) ((p / s.wide : Nat) : Int)
structure COk (s : Uw35.Country) : Prop where
  w2 : 2 ≤ s.wide
  w8 : s.wide ≤ 8
  h2 : 2 ≤ s.high
  h8 : s.high ≤ 8
  tl : s.towers.length ≤ 5
  tok : ∀ tw ∈ s.towers, TOk tw
  rep : ∀ rp ∈ s.reports, rp.tower < s.towers.length ∧ ∀ k, rp.sector = some k → k < (s.tower rp.tower).marks.length
  nd : (s.reports.map (·.tower)).Nodup
  ne : s.may ≠ []
theorem cells_le {s : Uw35.Country} (ok : COk s) : s.cells ≤ 64 := by
  have h1 := Nat.mul_le_mul ok.w8 ok.h8
  exact h1
theorem tower_at {s : Uw35.Country} {i : Nat} (h : i < s.towers.length) : s.towers[i]? = some (s.tower i) := by
  unfold Uw35.Country.tower
  rw [List.getElem?_eq_getElem h, List.getD_eq_getElem?_getD, List.getElem?_eq_getElem h]
  rfl
theorem tower_ok {s : Uw35.Country} (ok : COk s) {i : Nat} (h : i < s.towers.length) : TOk (s.tower i) := ok.tok _ (List.mem_of_getElem? (tower_at h))
theorem sees_lt {s : Uw35.Country} {i p k : Nat} (h : s.sees i p = some k) : k < (s.tower i).marks.length := by
  unfold Uw35.Country.sees at h
  simp only at h
  split at h
  · cases h
  · rename_i hn
    have hm : (s.tower i).marks ≠ [] := fun e => hn (.inr e)
    split at h
    · cases h
      exact List.length_pos_iff.mpr hm
    · cases h
      exact sector_lt hm
theorem told_code {s : Uw35.Country} {i p : Nat} (hg : Uw35.goodMarks (s.tower i).marks = true) : toldN s i p = (code s i (s.sees i p) : Int) := by
  unfold toldN tellP code Uw35.Country.sees
  simp only
  by_cases h : ((s.tower i).far : Int) < (((p % s.wide : Nat) : Int) - ((s.tower i).x : Int)) * (((p % s.wide : Nat) : Int) - ((s.tower i).x : Int)) + (((p / s.wide : Nat) : Int) - ((s.tower i).y : Int)) * (((p / s.wide : Nat) : Int) - ((s.tower i).y : Int)) ∨ (s.tower i).marks = []
  · rw [if_pos h, if_pos (by rcases h with h | h; exact .inr h; exact .inl (by rw [h]; rfl))]
    rfl
  · have hm : (s.tower i).marks ≠ [] := fun e => h (.inr e)
    rw [if_neg h, if_neg (by rintro (z | z); exact hm (List.length_eq_zero_iff.mp z); exact h (.inl z))]
    split
    · rfl
    · rw [sec_ok hg hm]
      rfl
theorem code_inj {s : Uw35.Country} {i : Nat} {a b : Option Nat} (ha : ∀ k, a = some k → k < (s.tower i).marks.length) (hb : ∀ k, b = some k → k < (s.tower i).marks.length) (h : code s i a = code s i b) : a = b := by
  unfold code at h
  cases a with
  | none =>
    cases b with
    | none => rfl
    | some y =>
      have := hb y rfl
      simp at h
      omega
  | some x =>
    cases b with
    | none =>
      have := ha x rfl
      simp at h
      omega
    | some y =>
      simp at h
      rw [h]
theorem told_iff {s : Uw35.Country} {i p : Nat} {o : Option Nat} (hg : Uw35.goodMarks (s.tower i).marks = true) (ho : ∀ k, o = some k → k < (s.tower i).marks.length) : toldN s i p = (code s i o : Int) ↔ s.sees i p = o := by
  rw [told_code hg]
  constructor
  · intro h
    exact code_inj (fun k e => sees_lt e) ho (by omega)
  · intro h
    rw [h]
theorem may_lt {s : Uw35.Country} {p : Nat} (h : p ∈ s.may) : p < s.cells := List.mem_range.mp (List.mem_filter.mp h).1
theorem may_len {s : Uw35.Country} (ok : COk s) : s.may.length ≤ 64 := by
  have h : s.may.length ≤ (List.range s.cells).length := List.length_filter_le _ _
  rw [List.length_range] at h
  exact Nat.le_trans h (cells_le ok)
/-! ### a country in the heap -/
def cf (a b c d : V) : List (Str × V) := [("wide", a), ("high", b), ("towers", c), ("reports", d)]
theorem cf_wide (a b c d : V) : (cf a b c d).lookup ("wide" : Str) = some a := rfl
theorem cf_high (a b c d : V) : (cf a b c d).lookup ("high" : Str) = some b := rfl
theorem cf_towers (a b c d : V) : (cf a b c d).lookup ("towers" : Str) = some c := rfl
theorem cf_reports (a b c d : V) : (cf a b c d).lookup ("reports" : Str) = some d := rfl
theorem cf_begin (a b c d : V) : (cf a b c d).lookup ("begin" : Str) = none := rfl
theorem cf_init (a b c d : V) : putF "reports" d (putF "towers" c (putF "high" b (putF "wide" a []))) = cf a b c d := rfl
theorem cf_w (a b c d y : V) : putF "wide" y (cf a b c d) = cf y b c d := rfl
theorem cf_h (a b c d y : V) : putF "high" y (cf a b c d) = cf a y c d := rfl
theorem cf_t (a b c d y : V) : putF "towers" y (cf a b c d) = cf a b y d := rfl
theorem cf_r (a b c d y : V) : putF "reports" y (cf a b c d) = cf a b c y := rfl
end Fw
set_option Elab.async false
set_option linter.all false
set_option maxRecDepth 100000
set_option maxHeartbeats 2000000
namespace Fw
open PySem PySem.Spec PyProof.Rows L2
structure CTxt (K : PySem.W.Frag) (C : Addr) : Prop where
  cl : Cls K C
  nw : NoAttr K C "wide"
  nh : NoAttr K C "high"
  nt : NoAttr K C "towers"
  nr : NoAttr K C "reports"
/-- all but dicts is as it was -/
def SameD (H H' : Hp) : Prop := ∀ b o, H b = some o → (∀ kvs, o ≠ .dK kvs) → H' b = some o
theorem same_toD {H H' : Hp} (e : Same H H') : SameD H H' := fun b o h _ => e b o h
theorem SameD.seq {K : PySem.W.Frag} {H H' : Hp} {a : Addr} {xs : List V} (e : SameD H H') (h : SqL K H a xs) : SqL K H' a xs := by
  rcases h with (h | ⟨o, h⟩) | h
  · exact .inl (.inl (e _ _ h fun _ z => by cases z))
  · exact .inl (.inr ⟨o, e _ _ h fun _ z => by cases z⟩)
  · exact .inr h
theorem SameD.tup {K : PySem.W.Frag} {H H' : Hp} {a : Addr} {xs : List V} (e : SameD H H') (h : SqT K H a xs) : SqT K H' a xs := by
  rcases h with (h | ⟨o, h⟩) | h
  · exact .inl (.inl (e _ _ h fun _ z => by cases z))
  · exact .inl (.inr ⟨o, e _ _ h fun _ z => by cases z⟩)
  · exact .inr h
theorem MarksAt.sameD {K : PySem.W.Frag} {H H' : Hp} {m : Addr} {ms : List (Int × Int)} (e : SameD H H') (h : MarksAt K H m ms) : MarksAt K H' m ms := by
  obtain ⟨ps, h1, h2⟩ := h
  exact ⟨ps, e.seq h1, Paired.mapP h2 fun p u q => e.tup q⟩
theorem TowerAt.sameD {K : PySem.W.Frag} {C : Addr} {H H' : Hp} {t : Addr} {tw : Uw35.Tower} (e : SameD H H') (h : TowerAt K C H t tw) : TowerAt K C H' t tw := by
  obtain ⟨dx, m, h1, h2⟩ := h
  exact ⟨dx, m, e _ _ h1 (fun _ z => by cases z), h2.sameD e⟩
/-- the addresses of a country's things -/
structure CA where
  c : Addr
  dx : Addr
  t : Addr
  r : Addr
  /-- a list of the caller's -/
  l : Addr
/-- a tower of the country: its marks are a list of its own -/
def TowIn (K : PySem.W.Frag) (C : Addr) (H : Hp) (z : CA) (a : Addr) (tw : Uw35.Tower) : Prop := ∃ dx m, H a = some (.ins C dx (tf (.int tw.x) (.int tw.y) (.int tw.far) (.ref m))) ∧ MarksAt K H m tw.marks ∧ m ≠ z.t ∧ m ≠ z.l
theorem TowIn.sameD {K : PySem.W.Frag} {C : Addr} {H H' : Hp} {z : CA} {a : Addr} {tw : Uw35.Tower} (e : SameD H H') (h : TowIn K C H z a tw) : TowIn K C H' z a tw := by
  obtain ⟨dx, m, h1, h2, h3⟩ := h
  exact ⟨dx, m, e _ _ h1 (fun _ z => by cases z), h2.sameD e, h3⟩
structure Core (K : PySem.W.Frag) (CC CT : Addr) (H : Hp) (z : CA) (s : Uw35.Country) : Prop where
  obj : H z.c = some (.ins CC z.dx (cf (.int s.wide) (.int s.high) (.ref z.t) (.ref z.r)))
  lst : ∃ xs, H z.l = some (.lst xs)
  lt : z.l ≠ z.t
  tws : ∃ ts : List Addr, H z.t = some (.lst (ts.map V.ref)) ∧ Paired (fun a tw => TowIn K CT H z a tw) ts s.towers
theorem Core.sameD {K : PySem.W.Frag} {CC CT : Addr} {H H' : Hp} {z : CA} {s : Uw35.Country} (e : SameD H H') (h : Core K CC CT H z s) : Core K CC CT H' z s := by
  obtain ⟨ts, h1, h2⟩ := h.tws
  obtain ⟨xs, hx⟩ := h.lst
  exact ⟨e _ _ h.obj (fun _ z => by cases z), ⟨xs, e _ _ hx (fun _ z => by cases z)⟩, h.lt, ts, e _ _ h1 (fun _ z => by cases z), Paired.mapP h2 fun a tw q => q.sameD e⟩
theorem Core.same {K : PySem.W.Frag} {CC CT : Addr} {H H' : Hp} {z : CA} {s : Uw35.Country} (e : Same H H') (h : Core K CC CT H z s) : Core K CC CT H' z s := h.sameD (same_toD e)
theorem Core.at {K : PySem.W.Frag} {CC CT : Addr} {H : Hp} {z : CA} {s : Uw35.Country} (h : Core K CC CT H z s) : ∃ ts : List Addr, H z.t = some (.lst (ts.map V.ref)) ∧ ts.length = s.towers.length ∧
    ∀ i, i < s.towers.length → ∃ a, (ts.map V.ref)[i]? = some (.ref a) ∧ TowerAt K CT H a (s.tower i) := by
  obtain ⟨ts, h1, h2⟩ := h.tws
  refine ⟨ts, h1, Paired.length h2, fun i hi => ?_⟩
  have hl : i < ts.length := by rw [Paired.length h2]; exact hi
  obtain ⟨v, hv, q⟩ := paired_get h2 (List.getElem?_eq_getElem hl)
  rw [tower_at hi] at hv
  cases hv
  obtain ⟨dx, m, q1, q2, _⟩ := q
  exact ⟨ts[i], by rw [List.getElem?_map, List.getElem?_eq_getElem hl]; rfl, dx, m, q1, q2⟩
/-- the reports' dict -/
def repK (s : Uw35.Country) : List (Key × V) := s.reports.map fun rp => (Sum.inl (rp.tower : Int), .int (code s rp.tower rp.sector : Nat))
structure Full (K : PySem.W.Frag) (CC CT : Addr) (H : Hp) (z : CA) (s : Uw35.Country) : Prop where
  core : Core K CC CT H z s
  rep : H z.r = some (.dK (repK s))
theorem Full.same {K : PySem.W.Frag} {CC CT : Addr} {H H' : Hp} {z : CA} {s : Uw35.Country} (e : Same H H') (h : Full K CC CT H z s) : Full K CC CT H' z s := ⟨h.core.same e, e _ _ h.rep⟩
section
variable {P : Program} {w : World} {K : PySem.W.Frag} {mg : Str → Option Value} {base : Heap} {CC CT : Addr}
/-! ### told_of -/
abbrev sToldOf : Stmt := inClass (top 35) 3
def spToldOf (K : PySem.W.Frag) (CC CT : Addr) : Sp := fun vs H Q _ => ∃ (z : CA) (s : Uw35.Country) (i p : Nat), vs = [.ref z.c, .int i, .int p] ∧ Core K CC CT H z s ∧ COk s ∧ i < s.towers.length ∧ p < s.cells ∧ ∀ H' : Hp, Same H H' → Q (.int (toldN s i p)) H'
theorem scToldOf : FnScope ["self", "number", "cell"] ["self", "number", "cell"] (defScope sToldOf) := ⟨rfl, rfl, rfl, by decide +kernel, rfl, by decide +kernel, by decide +kernel⟩
theorem ok_toldOf {f : Addr} {fd : FuncData} (F : Fun K "told_of" "Country.told_of" sToldOf f fd) (T : CTxt K CC) (TT : TTxt K CT) (M : Mt P w K mg base CT "tells" 4 ["self", "x", "y"] (spTells K CT)) :
    FnOk P w K mg base CX0 5 f fd ["self", "number", "cell"] (spToldOf K CC CT) := by
  refine F.ok scToldOf (fun vs H Q E h => ?_) (fun cdv A outer s H vs Q E hr h => ?_)
  · obtain ⟨z, s, i, p, rfl, _⟩ := h
    rfl
  · obtain ⟨z, c, i, p, rfl, hC, ok, hi, hp, q⟩ := h
    refine ⟨_, pss_one (ps_ret (pe_mt (pe_ix ix_list (pe_fld (pv 0) rfl) (pv 1) (fun _ _ => rfl)) TT.cl M hr (pa_cons (pe_op op_mod (pv 2) (pe_fld (pv 0) rfl)) (pa_cons (pe_op op_fdiv (pv 2) (pe_fld (pv 0) rfl)) pa_nil)))), ?_⟩
    obtain ⟨ts, hL, hlen, hAt⟩ := hC.at
    obtain ⟨a, ha, hT⟩ := hAt i hi
    obtain ⟨dx, m, ht, hM⟩ := id hT
    have w2 := ok.w2
    have w8 := ok.w8
    have c64 := cells_le ok
    refine ⟨_, rfl, z.c, CC, z.dx, _, _, rfl, hC.obj, T.cl, T.nt, cf_towers _ _ _ _, _, rfl, z.t, _, _, _, rfl, rfl, SqL.of hL, at_of (j := i) rfl ha, a, dx, _, rfl, ht, tf_tells _ _ _ _, ?_⟩
    refine ⟨_, rfl, _, rfl, z.c, CC, z.dx, _, _, rfl, hC.obj, T.cl, T.nw, cf_wide _ _ _ _, _, _, rfl, rfl, by omega, ?_⟩
    refine ⟨_, rfl, _, rfl, z.c, CC, z.dx, _, _, rfl, hC.obj, T.cl, T.nw, cf_wide _ _ _ _, _, _, rfl, rfl, ⟨by omega, by omega⟩, ?_⟩
    have d1 : p % c.wide < c.wide := Nat.mod_lt _ (by omega)
    have d2 : p / c.wide ≤ p := Nat.div_le_self _ _
    exact ⟨a, c.tower i, p % c.wide, p / c.wide, rfl, hT, tower_ok ok hi, by omega, by omega, q⟩
/-! ### told_by -/
abbrev sToldBy : Stmt := inClass (top 35) 5
def toldsOf (s : Uw35.Country) (i : Nat) : List Int := (List.range s.cells).map (toldN s i)
def spToldBy (K : PySem.W.Frag) (CC CT : Addr) : Sp := fun vs H Q _ => ∃ (z : CA) (s : Uw35.Country) (i : Nat), vs = [.ref z.c, .int i] ∧ Core K CC CT H z s ∧ COk s ∧ i < s.towers.length ∧
  ∀ (H' : Hp) (D : Addr), Same H H' → H D = none → H' D = some (.lst ((toldsOf s i).map V.int)) → Q (.ref D) H'
theorem scToldBy : FnScope ["self", "number", "cell"] ["self", "number"] (defScope sToldBy) := ⟨rfl, rfl, rfl, by decide +kernel, rfl, by decide +kernel, by decide +kernel⟩
theorem ok_toldBy {f : Addr} {fd : FuncData} (F : Fun K "told_by" "Country.told_by" sToldBy f fd) (T : CTxt K CC) (M : Mt P w K mg base CC "told_of" 5 ["self", "number", "cell"] (spToldOf K CC CT)) (mr : mg "range" = none) :
    FnOk P w K mg base CX0 6 f fd ["self", "number"] (spToldBy K CC CT) := by
  refine F.ok scToldBy (fun vs H Q E h => ?_) (fun cdv A outer s H vs Q E hr h => ?_)
  · obtain ⟨z, s, i, rfl, _⟩ := h
    rfl
  · obtain ⟨z, c, i, rfl, hC, ok, hi, q⟩ := h
    refine ⟨_, pss_one (ps_ret (pe_lc (own := [("cell", 2)]) rfl scToldBy.nd (pi_range1 rfl mr (pa_cons (pe_op op_mul (pe_fld (pv 0) rfl) (pe_fld (pv 0) rfl)) pa_nil)) (blkOk_by (by rfl))
      (fun _ _ _ _ _ => pg_name (i := 2) scToldBy.nd rfl (Or.inl rfl)) (fun _ _ _ _ _ => pts_nil) (fun _ _ _ _ _ => pe_mt (pv 0) T.cl M hr (pa_cons (pv 1) (pa_cons (pv 2) pa_nil))))), ?_⟩
    have w8 := ok.w8
    have c64 := cells_le ok
    have ec : (c.wide : Int) * (c.high : Int) = (c.cells : Nat) := by unfold Uw35.Country.cells; omega
    refine ⟨_, rfl, z.c, CC, z.dx, _, _, rfl, hC.obj, T.cl, T.nw, cf_wide _ _ _ _, _, rfl, z.c, CC, z.dx, _, _, rfl, hC.obj, T.cl, T.nh, cf_high _ _ _ _, _, _, rfl, rfl, .inl ⟨by omega, by omega⟩, _, rfl, by rw [ec]; omega, by rw [ec]; omega, fun D hD => ?_⟩
    rw [ec, Int.toNat_natCast]
    refine lc_range (lo := 0) (fun j H' => Same H H' ∧ H' D = some (.lst ((((List.range j).map (toldN c i))).map V.int))) ⟨same_new hD, upd_same⟩ ?_ ?_
    · rintro j H' hj ⟨sm, hd⟩
      refine ⟨rfl, _, rfl, z.c, z.dx, _, rfl, sm _ _ hC.obj, rfl, _, rfl, _, rfl, ?_⟩
      have e0 : (0 : Int) + (j : Int) = (j : Nat) := by omega
      rw [e0]
      refine ⟨z, c, i, j, rfl, hC.same sm, ok, hi, hj, fun H5 s5 => ?_⟩
      refine ⟨_, s5 _ _ hd, ?_, ?_, ?_⟩
      · rw [List.length_map, List.length_map, List.length_range]
        exact szlt (by omega)
      · intro b o e
        rw [upd_ne (ne_of_none e hD)]
        exact s5 _ _ (sm b o e)
      · rw [upd_same, List.range_succ, List.map_append, List.map_append]
        rfl
    · rintro H' ⟨sm, hd⟩
      exact q H' D sm hD hd
/-! ### not_reported -/
abbrev sNotRep : Stmt := inClass (top 35) 6
def spNotRep (K : PySem.W.Frag) (CC CT : Addr) : Sp := fun vs H Q _ => ∃ (z : CA) (s : Uw35.Country), vs = [.ref z.c] ∧ Full K CC CT H z s ∧ COk s ∧
  ∀ (H' : Hp) (D : Addr), Same H H' → H D = none → H' D = some (.lst (s.still.map nat2V)) → Q (.ref D) H'
theorem scNotRep : FnScope ["self", "number"] ["self"] (defScope sNotRep) := ⟨rfl, rfl, rfl, by decide +kernel, rfl, by decide +kernel, by decide +kernel⟩
theorem rep_val (s : Uw35.Country) (i : Nat) : (valV (repK s) (Sum.inl (i : Int))).isSome = s.reports.any fun r => r.tower == i := by
  rw [← valV_any]
  unfold repK
  rw [List.any_map]
  congr 1
  funext r
  show decide ((Sum.inl (r.tower : Int) : Key) = Sum.inl (i : Int)) = (r.tower == i)
  rw [key_ll]
  by_cases h : r.tower = i
  · rw [h]
    simp
  · rw [beq_eq_false_iff_ne.mpr h, beq_eq_false_iff_ne.mpr (by omega)]
theorem ok_notRep {f : Addr} {fd : FuncData} (F : Fun K "not_reported" "Country.not_reported" sNotRep f fd) (T : CTxt K CC) (mr : mg "range" = none) (ml : mg "len" = none) :
    FnOk P w K mg base CX0 1 f fd ["self"] (spNotRep K CC CT) := by
  refine F.ok scNotRep (fun vs H Q E h => ?_) (fun cdv A outer s H vs Q E hr h => ?_)
  · obtain ⟨z, s, rfl, _⟩ := h
    rfl
  · obtain ⟨z, c, rfl, hF, ok, q⟩ := h
    have hu := hu_of hr
    have hC := hF.core
    refine ⟨_, pss_one (ps_ret (pe_lc (own := [("number", 1)]) rfl scNotRep.nd (pi_range1 rfl mr (pa_cons (pe_callB call_len_seq rfl ml PySem.boot_len (pa_cons (pe_fld (pv 0) rfl) pa_nil)) pa_nil)) (blkOk_by (by rfl))
      (fun _ _ _ _ _ => pg_name (i := 1) scNotRep.nd rfl (Or.inl rfl)) (fun _ _ _ _ _ => pts_one (pt_cmp (pc_dnotin hu (pv 1) (pe_fldK K (pv 0))))) (fun _ _ _ _ _ => pv 1))), ?_⟩
    obtain ⟨ts, hL, hlen, hAt⟩ := hC.at
    have tl := ok.tl
    have eL : ((ts.map V.ref).length : Int) = (c.towers.length : Nat) := by rw [List.length_map, hlen]
    refine ⟨_, rfl, z.c, CC, z.dx, _, _, rfl, hC.obj, T.cl, T.nt, cf_towers _ _ _ _, z.t, _, rfl, .inl (SqL.of hL), _, rfl, by omega, by omega, fun D hD => ?_⟩
    rw [eL, Int.toNat_natCast]
    refine lc_range (lo := 0) (fun j H' => Same H H' ∧ H' D = some (.lst (((List.range j).filter fun i => !c.reports.any fun r => r.tower == i).map nat2V))) ⟨same_new hD, upd_same⟩ ?_ ?_
    · rintro j H' hj ⟨sm, hd⟩
      have e0 : (0 : Int) + (j : Int) = (j : Nat) := by omega
      rw [e0]
      refine ⟨rfl, _, rfl, _, rfl, z.c, CC, z.dx, _, _, rfl, sm _ _ hC.obj, T.cl, T.nr, cf_reports _ _ _ _, z.r, _, rfl, DGet.k (k := Sum.inl (j : Int)) (sm _ _ hF.rep), _, rfl, ?_⟩
      rw [rep_val]
      refine iteB (fun h => ?_) (fun h => ?_)
      · refine ⟨_, rfl, _, hd, ?_, ?_, ?_⟩
        · have := List.length_filter_le (fun i => !c.reports.any fun r => r.tower == i) (List.range j)
          rw [List.length_range] at this
          rw [List.length_map]
          exact szlt (by omega)
        · intro b o e
          rw [upd_ne (ne_of_none e hD)]
          exact sm b o e
        · rw [upd_same, List.range_succ, List.filter_append, List.filter_cons, if_pos h, List.filter_nil, List.map_append]
          rfl
      · refine ⟨sm, ?_⟩
        rw [hd, List.range_succ, List.filter_append, List.filter_cons, if_neg (by rw [h]; exact Bool.false_ne_true), List.filter_nil, List.append_nil]
    · rintro H' ⟨sm, hd⟩
      exact q H' D sm hD hd
end
end Fw
set_option Elab.async false
set_option linter.all false
set_option maxRecDepth 100000
set_option maxHeartbeats 2000000
namespace Fw
open PySem PySem.Spec PyProof.Rows L2
/-- over a locked dict's keys -/
theorem for_keys {d : Addr} {o : Obj} {kvs : List (Key × V)} {g : TG} {tb : TS} {D : Ends} {σ : L2.St} {H : Hp} (Pv : Nat → L2.St → Hp → Prop) (h0 : Pv 0 σ H) (hl : ∀ i σ H, i ≤ kvs.length → Pv i σ H → H d = some (.frz o (.dK kvs)))
    (hs : ∀ i k v σ H, kvs[i]? = some (k, v) → Pv i σ H → g (kV k) σ H fun σ2 H2 => tb { D with nx := Pv (i + 1), ct := Pv (i + 1), bk := D.nx } σ2 H2) (hd : ∀ σ H, Pv kvs.length σ H → D.nx σ H) :
    ∃ W : Nat → Nat → L2.St → Hp → Prop, (∃ m, W 0 m σ H) ∧ ∀ i m σ H, W i m σ H →
      ((Itk d o kvs).stop i H ∧ D.nx σ H) ∨ ((Itk d o kvs).go i H ∧ ∃ N : L2.St → Hp → Prop, (∀ σ' H', N σ' H' → ∃ m', m' < m ∧ W (i + 1) m' σ' H') ∧ ∀ x H', (Itk d o kvs).yld i H x H' → g x σ H' fun σ2 H2 => tb { D with nx := N, ct := N, bk := D.nx } σ2 H2) := by
  refine ⟨fun i m σ H => m = kvs.length - i ∧ i ≤ kvs.length ∧ Pv i σ H, ⟨kvs.length, by simp, Nat.zero_le _, h0⟩, ?_⟩
  rintro i m σ H ⟨rfl, hi, p⟩
  have q := hl i σ H hi p
  by_cases lt : i < kvs.length
  · refine .inr ⟨⟨q, lt⟩, Pv (i + 1), fun σ' H' p' => ⟨kvs.length - (i + 1), by omega, rfl, lt, p'⟩, fun x H' y => ?_⟩
    obtain ⟨e, k, v, hk, rfl⟩ := y
    subst e
    exact hs i k v σ _ hk p
  · have e : i = kvs.length := by omega
    subst e
    exact .inl ⟨⟨q, Nat.le_refl _⟩, hd σ H p⟩
theorem rep_get {s : Uw35.Country} {i : Nat} {k : Key} {v : V} (h : (repK s)[i]? = some (k, v)) : ∃ rp, s.reports[i]? = some rp ∧ k = Sum.inl (rp.tower : Int) ∧ v = .int (code s rp.tower rp.sector : Nat) := by
  unfold repK at h
  rw [List.getElem?_map] at h
  cases e : s.reports[i]? with
  | none => rw [e] at h; cases h
  | some rp =>
    rw [e] at h
    have := Option.some.inj h
    exact ⟨rp, rfl, (Prod.mk.inj this).1.symm, (Prod.mk.inj this).2.symm⟩
/-- the value at a tower that has reported -/
theorem rep_at {s : Uw35.Country} (nd : (s.reports.map (·.tower)).Nodup) {i : Nat} {rp : Uw35.Report} (h : s.reports[i]? = some rp) : valV (repK s) (Sum.inl (rp.tower : Int)) = some (.int (code s rp.tower rp.sector : Nat)) := by
  have key : ∀ (l : List Uw35.Report), (l.map (·.tower)).Nodup → rp ∈ l → valV (l.map fun rp => ((Sum.inl (rp.tower : Int) : Key), V.int (code s rp.tower rp.sector : Nat))) (Sum.inl (rp.tower : Int)) = some (.int (code s rp.tower rp.sector : Nat)) := by
    intro l
    induction l with
    | nil => intro _ hm; cases hm
    | cons a l ih =>
      intro nd hm
      obtain ⟨n1, n2⟩ := List.nodup_cons.mp nd
      by_cases e : a.tower = rp.tower
      · have ea : a = rp := by
          rcases List.mem_cons.mp hm with h | h
          · exact h.symm
          · exact absurd (List.mem_map.mpr ⟨rp, h, e.symm⟩) n1
        rw [List.map_cons, ea]
        exact valV_pos rfl
      · rw [List.map_cons, valV_neg (by intro z; have z' : (Sum.inl (a.tower : Int) : Key) = Sum.inl (rp.tower : Int) := z; have := Sum.inl.inj z'; omega)]
        refine ih n2 ?_
        rcases List.mem_cons.mp hm with h | h
        · exact absurd (by rw [h]) e
        · exact h
  exact key s.reports nd (List.mem_of_getElem? h)
section
variable {P : Program} {w : World} {K : PySem.W.Frag} {mg : Str → Option Value} {base : Heap} {CC CT : Addr}
/-! ### fits_reports -/
abbrev sFits : Stmt := inClass (top 35) 4
def spFits (K : PySem.W.Frag) (CC CT : Addr) : Sp := fun vs H Q _ => ∃ (z : CA) (s : Uw35.Country) (p : Nat), vs = [.ref z.c, .int p] ∧ Full K CC CT H z s ∧ COk s ∧ p < s.cells ∧ ∀ H' : Hp, Same H H' → Q (.bl (s.fits s.reports p)) H'
theorem scFits : FnScope ["self", "cell", "number"] ["self", "cell"] (defScope sFits) := ⟨rfl, rfl, rfl, by decide +kernel, rfl, by decide +kernel, by decide +kernel⟩
theorem ok_fits {f : Addr} {fd : FuncData} (F : Fun K "fits_reports" "Country.fits_reports" sFits f fd) (T : CTxt K CC) (M : Mt P w K mg base CC "told_of" 5 ["self", "number", "cell"] (spToldOf K CC CT)) :
    FnOk P w K mg base CX0 6 f fd ["self", "cell"] (spFits K CC CT) := by
  refine F.ok scFits (fun vs H Q E h => ?_) (fun cdv A outer s H vs Q E hr h => ?_)
  · obtain ⟨z, s, p, rfl, _⟩ := h
    rfl
  · obtain ⟨z, c, p, rfl, hF, ok, hp, q⟩ := h
    have hu := hu_of hr
    have hC := hF.core
    refine ⟨_, pss_cons (ps_lock (ps_for PassesOwn.never rfl (pi_keys (pe_fld (pv 0) rfl)) (pg_name (i := 2) scFits.nd rfl (Or.inl rfl))
      (pss_one (ps_if (pt_cmpR op_ne (pe_mt (pv 0) T.cl M hr (pa_cons (pv 2) (pa_cons (pv 1) pa_nil))) (pe_dget hu (pe_fld (pv 0) rfl) (pv 2) (fun _ _ => rfl)) (nomark _)) (pss_one (ps_ret pe_bl)) pss_nil))))
      (pss_one (ps_ret pe_bl)), ?_⟩
    refine ⟨z.r, _, hF.rep, trivial, fun od => ?_⟩
    have sD : SameD H (upd H z.r (.frz od (.dK (repK c)))) := fun b o e n => by
      rw [upd_ne (ne_of e hF.rep (n _))]
      exact e
    have hC1 := hC.sameD sD
    have back : ∀ H' : Hp, Same (upd H z.r (.frz od (.dK (repK c)))) H' → Same H (upd H' z.r (.dK (repK c))) := fun H' sm b o e => by
      by_cases hb : b = z.r
      · rw [hb, upd_same, ← hF.rep, ← hb]
        exact e
      · rw [upd_ne hb]
        exact sm b o (by rw [upd_ne hb]; exact e)
    refine ⟨_, rfl, z.c, CC, z.dx, _, _, rfl, hC1.obj, T.cl, T.nr, cf_reports _ _ _ _, z.r, od, rfl, .inl ⟨repK c, upd_same, ?_⟩⟩
    refine for_keys (fun i σ H' => ∃ y : Option V, σ = [some (.ref z.c), some (.int p), y] ∧ Same (upd H z.r (.frz od (.dK (repK c)))) H' ∧ ∀ j rp, j < i → c.reports[j]? = some rp → (c.sees rp.tower p == rp.sector) = true) ?_ (fun i σ H' _ ⟨_, _, sm, _⟩ => sm _ _ upd_same) ?_ ?_
    · exact ⟨none, rfl, Same.refl _, fun j rp hj => by omega⟩
    · rintro i k v σ H' hk ⟨y, rfl, sm, hb⟩
      obtain ⟨rp, hrp, rfl, rfl⟩ := rep_get hk
      have hrl := ok.rep rp (List.mem_of_getElem? hrp)
      have hC2 := hC1.same sm
      refine ⟨_, rfl, z.c, z.dx, _, rfl, hC2.obj, rfl, _, rfl, _, rfl, z, c, rp.tower, p, rfl, hC2, ok, hrl.1, hp, fun H3 s3 => ?_⟩
      have hd3 := s3 _ _ (sm _ _ upd_same)
      refine ⟨_, rfl, z.c, CC, z.dx, _, _, rfl, s3 _ _ hC2.obj, T.cl, T.nr, cf_reports _ _ _ _, _, rfl, z.r, .int (code c rp.tower rp.sector : Nat), rfl, .inl ⟨repK c, Sum.inl (rp.tower : Int), .inr ⟨od, hd3⟩, rfl, (rep_at ok.nd hrp).symm⟩, rfl, _, rfl, ?_⟩
      have ti := told_iff (s := c) (i := rp.tower) (p := p) (o := rp.sector) (tower_ok ok hrl.1).good hrl.2
      refine ite2 (fun hn => ?_) (fun hn => ?_)
      · have ne : ¬ c.sees rp.tower p = rp.sector := fun e => by
          rw [ti.mpr e] at hn
          simp at hn
        have ff : c.fits c.reports p = false := by
          unfold Uw35.Country.fits
          rw [List.all_eq_false]
          exact ⟨rp, List.mem_of_getElem? hrp, by simpa using ne⟩
        refine ⟨hd3, ?_⟩
        rw [ff] at q
        exact q _ (back _ (sm.trans s3))
      · refine ⟨_, rfl, sm.trans s3, fun j rp' hj hr' => ?_⟩
        rcases Nat.lt_or_ge j i with h | h
        · exact hb j rp' h hr'
        · have e : j = i := by omega
          subst e
          rw [hrp] at hr'
          cases hr'
          have : c.sees rp.tower p = rp.sector := ti.mp (by
            apply Classical.byContradiction
            intro z
            apply hn
            simp [z])
          rw [this]
          exact beq_self_eq_true _
    · rintro σ H' ⟨y, rfl, sm, hb⟩
      refine ⟨sm _ _ upd_same, ?_⟩
      have ft : c.fits c.reports p = true := by
        unfold Uw35.Country.fits
        rw [List.all_eq_true]
        intro rp hrp
        obtain ⟨j, hj, e⟩ := List.getElem_of_mem hrp
        refine hb j rp ?_ (by rw [List.getElem?_eq_getElem hj, e])
        unfold repK
        rw [List.length_map]
        exact hj
      rw [ft] at q
      exact q _ (back _ sm)
/-! ### cells_left -/
abbrev sLeft : Stmt := inClass (top 35) 7
def spLeft (K : PySem.W.Frag) (CC CT : Addr) : Sp := fun vs H Q _ => ∃ (z : CA) (s : Uw35.Country), vs = [.ref z.c] ∧ Full K CC CT H z s ∧ COk s ∧
  ∀ (H' : Hp) (D : Addr), Same H H' → H D = none → H' D = some (.lst (s.may.map nat2V)) → Q (.ref D) H'
theorem scLeft : FnScope ["self", "cell"] ["self"] (defScope sLeft) := ⟨rfl, rfl, rfl, by decide +kernel, rfl, by decide +kernel, by decide +kernel⟩
theorem ok_left {f : Addr} {fd : FuncData} (F : Fun K "cells_left" "Country.cells_left" sLeft f fd) (T : CTxt K CC) (M : Mt P w K mg base CC "fits_reports" 6 ["self", "cell"] (spFits K CC CT)) (mr : mg "range" = none) :
    FnOk P w K mg base CX0 7 f fd ["self"] (spLeft K CC CT) := by
  refine F.ok scLeft (fun vs H Q E h => ?_) (fun cdv A outer s H vs Q E hr h => ?_)
  · obtain ⟨z, s, rfl, _⟩ := h
    rfl
  · obtain ⟨z, c, rfl, hF, ok, q⟩ := h
    have hC := hF.core
    refine ⟨_, pss_one (ps_ret (pe_lc (own := [("cell", 1)]) rfl scLeft.nd (pi_range1 rfl mr (pa_cons (pe_op op_mul (pe_fld (pv 0) rfl) (pe_fld (pv 0) rfl)) pa_nil)) (blkOk_by (by rfl))
      (fun _ _ _ _ _ => pg_name (i := 1) scLeft.nd rfl (Or.inl rfl)) (fun _ _ _ _ _ => pts_one (pt_val (pe_mt (pv 0) T.cl M hr (pa_cons (pv 1) pa_nil)))) (fun _ _ _ _ _ => pv 1))), ?_⟩
    have w8 := ok.w8
    have c64 := cells_le ok
    have ec : (c.wide : Int) * (c.high : Int) = (c.cells : Nat) := by unfold Uw35.Country.cells; omega
    refine ⟨_, rfl, z.c, CC, z.dx, _, _, rfl, hC.obj, T.cl, T.nw, cf_wide _ _ _ _, _, rfl, z.c, CC, z.dx, _, _, rfl, hC.obj, T.cl, T.nh, cf_high _ _ _ _, _, _, rfl, rfl, .inl ⟨by omega, by omega⟩, _, rfl, by rw [ec]; omega, by rw [ec]; omega, fun D hD => ?_⟩
    rw [ec, Int.toNat_natCast]
    refine lc_range (lo := 0) (fun j H' => Same H H' ∧ H' D = some (.lst (((List.range j).filter (c.fits c.reports)).map nat2V))) ⟨same_new hD, upd_same⟩ ?_ ?_
    · rintro j H' hj ⟨sm, hd⟩
      have e0 : (0 : Int) + (j : Int) = (j : Nat) := by omega
      rw [e0]
      refine ⟨rfl, _, rfl, z.c, z.dx, _, rfl, sm _ _ hC.obj, rfl, _, rfl, z, c, j, rfl, hF.same sm, ok, hj, fun H5 s5 => ⟨_, rfl, ?_⟩⟩
      refine iteB (fun h => ?_) (fun h => ?_)
      · refine ⟨_, rfl, _, s5 _ _ hd, ?_, ?_, ?_⟩
        · have := List.length_filter_le (c.fits c.reports) (List.range j)
          rw [List.length_range] at this
          rw [List.length_map]
          exact szlt (by omega)
        · intro b o e
          rw [upd_ne (ne_of_none e hD)]
          exact s5 _ _ (sm b o e)
        · rw [upd_same, List.range_succ, List.filter_append, List.filter_cons, if_pos h, List.filter_nil, List.map_append]
          rfl
      · refine ⟨sm.trans s5, ?_⟩
        rw [s5 _ _ hd, List.range_succ, List.filter_append, List.filter_cons, if_neg (by rw [h]; exact Bool.false_ne_true), List.filter_nil, List.append_nil]
    · rintro H' ⟨sm, hd⟩
      exact q H' D sm hD hd
end
end Fw
set_option Elab.async false
set_option linter.all false
set_option maxRecDepth 100000
set_option maxHeartbeats 2000000
namespace Fw
open PySem PySem.Spec PyProof.Rows L2
section
variable {X : Cx} {k : Nat} {m : Str} {ps : List Str} {sp : Sp} {pos apos : Pos} {o : Expr} {ta : TE} {C : Addr}
theorem pe_mt0 (he : PE X o ta) (c : Cls X.K C) (M : Mt X.prog X.w X.K X.mg X.base C m k ps sp) (hr : Room k X.A) {pl : Sem Bool}
    (ht : eval (.Call (.Attribute o m apos) [] [] pos) X.env = (do
      let ov ← eval o X.env
      standAt apos.atName
      let (f, first) ← holding [ov] (getMethod ov m pl)
      callWith pos f first (backTo pos (starEach [] X.env)) (backToKw pos (keywordEach [] X.env))) := by rfl) :
    PE X (.Call (.Attribute o m apos) [] [] pos) (tMeth C m sp [] E0 ta tNil) := by
  obtain ⟨f, fd, h1, h2, h3⟩ := M.ex
  exact pe_meth0 he c h1 h3 hr h2 .nil pass0 ht
end
theorem nodup_short : ∀ (n : Nat) (l : List Nat), l.Nodup → (∀ x ∈ l, x < n) → l.length ≤ n
  | 0, [], _, _ => Nat.le_refl _
  | 0, a :: _, _, h => absurd (h a List.mem_cons_self) (Nat.not_lt_zero _)
  | n + 1, l, nd, h => by
    have ih := nodup_short n (l.erase n) (nd.erase n) fun x hx => by
      have h1 := (nd.mem_erase_iff).mp hx
      have h2 := h x h1.2
      have h3 := h1.1
      omega
    by_cases hm : n ∈ l
    · rw [List.length_erase_of_mem hm] at ih
      omega
    · rw [List.erase_of_not_mem hm] at ih
      omega
/-! ### the report, by numbers -/
def secOf (s : Uw35.Country) (i what : Nat) : Option Nat := if what = (s.tower i).marks.length then none else some what
def withRep (s : Uw35.Country) (i what : Nat) : Uw35.Country := { s with reports := s.reports ++ [⟨i, secOf s i what⟩] }
theorem step_report (s : Uw35.Country) (i what : Nat) : Uw35.step s (.report i what) = if s.towers.length ≤ i then (s, Uw35.ok (-2)) else if (s.tower i).marks.length < what then (s, Uw35.ok (-1)) else if (s.reports.any fun r => r.tower == i) = true then (s, Uw35.ok (-4)) else
    if (withRep s i what).may = [] then (s, Uw35.ok (-6)) else (withRep s i what, Uw35.ok ((withRep s i what).may.length : Nat)) := rfl
theorem sec_code {s : Uw35.Country} {i what : Nat} : code s i (secOf s i what) = what := by
  unfold code secOf
  split
  · rename_i h
    rw [h]
    rfl
  · rfl
theorem sec_bound {s : Uw35.Country} {i what : Nat} (h : ¬ (s.tower i).marks.length < what) : ∀ k, secOf s i what = some k → k < (s.tower i).marks.length := by
  unfold secOf
  intro k e
  split at e
  · cases e
  · cases e
    omega
theorem withRep_may (s : Uw35.Country) (i what : Nat) : (withRep s i what).may = s.may.filter fun p => s.sees i p == secOf s i what := by
  unfold Uw35.Country.may
  rw [List.filter_filter]
  show (List.range s.cells).filter (fun p => (s.reports ++ [(⟨i, secOf s i what⟩ : Uw35.Report)]).all fun r => s.sees r.tower p == r.sector) = _
  congr 1
  funext p
  rw [List.all_append, Bool.and_comm]
  show ((s.sees i p == secOf s i what) && true && _) = _
  rw [Bool.and_true]
  rfl
theorem withRep_ok {s : Uw35.Country} (ok : COk s) {i what : Nat} (h1 : i < s.towers.length) (h2 : ¬ (s.tower i).marks.length < what) (h3 : ¬ (s.reports.any fun r => r.tower == i) = true) (h4 : ¬ (withRep s i what).may = []) : COk (withRep s i what) where
  w2 := ok.w2
  w8 := ok.w8
  h2 := ok.h2
  h8 := ok.h8
  tl := ok.tl
  tok := ok.tok
  rep := fun rp hrp => by
    rcases List.mem_append.mp hrp with h | h
    · exact ok.rep rp h
    · cases List.mem_singleton.mp h
      exact ⟨h1, sec_bound h2⟩
  nd := by
    show ((s.reports ++ [(⟨i, secOf s i what⟩ : Uw35.Report)]).map (·.tower)).Nodup
    rw [List.map_append]
    refine nd_snoc ok.nd fun m => h3 ?_
    obtain ⟨r, hr, e⟩ := List.mem_map.mp m
    rw [List.any_eq_true]
    exact ⟨r, hr, beq_iff_eq.mpr e⟩
  ne := h4
theorem withRep_repK (s : Uw35.Country) (i what : Nat) : repK (withRep s i what) = repK s ++ [(Sum.inl (i : Int), .int (what : Nat))] := by
  show ((s.reports ++ [(⟨i, secOf s i what⟩ : Uw35.Report)]).map fun rp => ((Sum.inl (rp.tower : Int) : Key), V.int (code s rp.tower rp.sector : Nat))) = _
  rw [List.map_append]
  show _ ++ [((Sum.inl (i : Int) : Key), V.int (code s i (secOf s i what) : Nat))] = _
  rw [sec_code]
  rfl
/-- what else stood is as it was; the country's things may be new ones -/
structure Kp (H H' : Hp) (z z' : CA) : Prop where
  c : z'.c = z.c
  l : z'.l = z.l
  kp : ∀ b o, H b = some o → b ≠ z.c → b ≠ z.t → b ≠ z.r → H' b = some o ∧ b ≠ z'.t ∧ b ≠ z'.r
theorem Kp.same {H H' : Hp} {z : CA} (e : Same H H') : Kp H H' z z := ⟨rfl, rfl, fun b o h _ ht hr => ⟨e b o h, ht, hr⟩⟩
section
variable {P : Program} {w : World} {K : PySem.W.Frag} {mg : Str → Option Value} {base : Heap} {CC CT : Addr}
/-! ### sees -/
abbrev sSees : Stmt := inClass (top 35) 9
def seesN (s : Uw35.Country) (i p : Nat) : Int := if s.towers.length ≤ i ∨ s.cells ≤ p then -2 else toldN s i p
def spSees (K : PySem.W.Frag) (CC CT : Addr) : Sp := fun vs H Q _ => ∃ (z : CA) (s : Uw35.Country) (i p : Nat), vs = [.ref z.c, .int i, .int p] ∧ Core K CC CT H z s ∧ COk s ∧ ∀ H' : Hp, Same H H' → Q (.int (seesN s i p)) H'
theorem scSees : FnScope ["self", "number", "cell"] ["self", "number", "cell"] (defScope sSees) := ⟨rfl, rfl, rfl, by decide +kernel, rfl, by decide +kernel, by decide +kernel⟩
theorem ok_sees {f : Addr} {fd : FuncData} (F : Fun K "sees" "Country.sees" sSees f fd) (T : CTxt K CC) (M : Mt P w K mg base CC "told_of" 5 ["self", "number", "cell"] (spToldOf K CC CT)) (ml : mg "len" = none) (cN : CInt mg "NOT_THERE" (-2)) :
    FnOk P w K mg base CX0 6 f fd ["self", "number", "cell"] (spSees K CC CT) := by
  refine F.ok scSees (fun vs H Q E h => ?_) (fun cdv A outer s H vs Q E hr h => ?_)
  · obtain ⟨z, s, i, p, rfl, _⟩ := h
    rfl
  · obtain ⟨z, c, i, p, rfl, hC, ok, q⟩ := h
    refine ⟨_, pss_cons (ps_if (PW.pt (pw_or (pt_cmpR op_ge (pv 1) (pe_callB call_len_seq rfl ml PySem.boot_len (pa_cons (pe_fld (pv 0) rfl) pa_nil)) (nomark _))
      (pw_or1 (pt_cmpR op_ge (pv 2) (pe_op op_mul (pe_fld (pv 0) rfl) (pe_fld (pv 0) rfl)) (nomark _))))) (pss_one (ps_ret (pe_cint cN rfl))) pss_nil)
      (pss_one (ps_ret (pe_mt (pv 0) T.cl M hr (pa_cons (pv 1) (pa_cons (pv 2) pa_nil))))), ?_⟩
    obtain ⟨ts, hL, hlen, hAt⟩ := hC.at
    have w8 := ok.w8
    have eL : ((ts.map V.ref).length : Int) = (c.towers.length : Nat) := by rw [List.length_map, hlen]
    have ec : (c.wide : Int) * (c.high : Int) = (c.cells : Nat) := by unfold Uw35.Country.cells; omega
    unfold seesN at q
    refine ⟨_, rfl, _, rfl, z.c, CC, z.dx, _, _, rfl, hC.obj, T.cl, T.nt, cf_towers _ _ _ _, z.t, _, rfl, .inl (SqL.of hL), _, _, rfl, rfl, _, rfl, ?_⟩
    rw [eL]
    refine ite2 (fun h => ?_) (fun h => ?_)
    · rw [decide_eq_true_iff] at h
      rw [if_pos (.inl (by omega))] at q
      exact iteT (q _ (Same.refl _))
    · rw [decide_eq_true_iff] at h
      refine ⟨_, rfl, _, rfl, z.c, CC, z.dx, _, _, rfl, hC.obj, T.cl, T.nw, cf_wide _ _ _ _, _, rfl, z.c, CC, z.dx, _, _, rfl, hC.obj, T.cl, T.nh, cf_high _ _ _ _, _, _, rfl, rfl, .inl ⟨by omega, by omega⟩, _, _, rfl, rfl, _, rfl, ?_⟩
      rw [ec]
      refine ite2 (fun h2 => ?_) (fun h2 => ?_)
      · rw [decide_eq_true_iff] at h2
        rw [if_pos (.inr (by omega))] at q
        exact q _ (Same.refl _)
      · rw [decide_eq_true_iff] at h2
        rw [if_neg (by omega)] at q
        exact ⟨_, rfl, z.c, z.dx, _, rfl, hC.obj, rfl, _, rfl, _, rfl, z, c, i, p, rfl, hC, ok, by omega, by omega, q⟩
/-! ### take_report -/
abbrev sTake : Stmt := inClass (top 35) 8
def spTake (K : PySem.W.Frag) (CC CT : Addr) : Sp := fun vs H Q _ => ∃ (z : CA) (s : Uw35.Country) (i what : Nat), vs = [.ref z.c, .int i, .int what] ∧ Full K CC CT H z s ∧ COk s ∧
  ∀ (H' : Hp) (z' : CA), Full K CC CT H' z' (Uw35.step s (.report i what)).1 → COk (Uw35.step s (.report i what)).1 → Kp H H' z z' → Q (.int (Uw35.step s (.report i what)).2.v) H'
theorem scTake : FnScope ["self", "number", "what", "count", "cell"] ["self", "number", "what"] (defScope sTake) := ⟨rfl, rfl, rfl, by decide +kernel, rfl, by decide +kernel, by decide +kernel⟩
theorem ok_take {f : Addr} {fd : FuncData} (F : Fun K "take_report" "Country.take_report" sTake f fd) (T : CTxt K CC) (TT : TTxt K CT) (M : Mt P w K mg base CC "told_of" 5 ["self", "number", "cell"] (spToldOf K CC CT))
    (ML : Mt P w K mg base CC "cells_left" 7 ["self"] (spLeft K CC CT)) (ml : mg "len" = none) (c1 : CInt mg "NOT_THERE" (-2)) (c2 : CInt mg "OUT_OF_BOUNDS" (-1)) (c3 : CInt mg "HAS_REPORTED" (-4)) (c4 : CInt mg "NO_CELL_LEFT" (-6)) :
    FnOk P w K mg base CX0 8 f fd ["self", "number", "what"] (spTake K CC CT) := by
  refine F.ok scTake (fun vs H Q E h => ?_) (fun cdv A outer s H vs Q E hr h => ?_)
  · obtain ⟨z, s, i, p, rfl, _⟩ := h
    rfl
  · obtain ⟨z, c, i, what, rfl, hF, ok, q⟩ := h
    have hu := hu_of hr
    have hr5 := hr.mono (show 5 ≤ 7 by omega)
    have hC := hF.core
    refine ⟨_, pss_cons (ps_if (pt_cmpR op_ge (pv 1) (pe_callB call_len_seq rfl ml PySem.boot_len (pa_cons (pe_fld (pv 0) rfl) pa_nil)) (nomark _)) (pss_one (ps_ret (pe_cint c1 rfl))) pss_nil)
      (pss_cons (ps_if (pt_cmpR op_gt (pv 2) (pe_callB call_len_seq rfl ml PySem.boot_len (pa_cons (pe_fld (pe_ix ix_list (pe_fld (pv 0) rfl) (pv 1) (fun _ _ => rfl)) rfl) pa_nil)) (nomark _)) (pss_one (ps_ret (pe_cint c2 rfl))) pss_nil)
      (pss_cons (ps_if (pt_cmp (pc_din hu (pv 1) (pe_fld (pv 0) rfl))) (pss_one (ps_ret (pe_cint c3 rfl))) pss_nil)
      (pss_cons (ps_set (i := 3) scTake.nd rfl (Or.inl rfl) (pe_callB call_len_seq rfl ml PySem.boot_len (pa_cons (pe_lc (own := [("cell", 4)]) rfl scTake.nd (pi_list (pe_mt0 (pv 0) T.cl ML hr)) (blkOk_by (by rfl))
        (fun _ _ _ _ _ => pg_name (i := 4) scTake.nd rfl (Or.inl rfl)) (fun _ _ _ _ _ => pts_one (pt_cmpR op_eq (pe_mt (pv 0) T.cl M hr5 (pa_cons (pv 1) (pa_cons (pv 4) pa_nil))) (pv 2) (nomark _))) (fun _ _ _ _ _ => pv 4)) pa_nil)))
      (pss_cons (ps_if (pt_cmpR op_eq (pv 3) pe_int (nomark _)) (pss_one (ps_ret (pe_cint c4 rfl))) pss_nil)
      (pss_cons (ps_dput hu (pe_fld (pv 0) rfl) (pv 1) (pv 2) rfl)
      (pss_one (ps_ret (pv 3)))))))), ?_⟩
    obtain ⟨ts, hL, hlen, hAt⟩ := hC.at
    have eL : ((ts.map V.ref).length : Int) = (c.towers.length : Nat) := by rw [List.length_map, hlen]
    rw [step_report] at q
    have stay : ∀ H' : Hp, Same H H' → Full K CC CT H' z c ∧ COk c ∧ Kp H H' z z := fun H' e => ⟨hF.same e, ok, Kp.same e⟩
    refine ⟨_, rfl, _, rfl, z.c, CC, z.dx, _, _, rfl, hC.obj, T.cl, T.nt, cf_towers _ _ _ _, z.t, _, rfl, .inl (SqL.of hL), _, _, rfl, rfl, _, rfl, ?_⟩
    rw [eL]
    refine ite2 (fun h => ?_) (fun h => ?_)
    · rw [decide_eq_true_iff] at h
      rw [if_pos (by omega)] at q
      exact q H z hF ok (Kp.same (Same.refl _))
    · rw [decide_eq_true_iff] at h
      have hi : i < c.towers.length := by omega
      rw [if_neg (by omega)] at q
      obtain ⟨a, ha, hT⟩ := hAt i hi
      obtain ⟨dx, m, ht, hM⟩ := id hT
      obtain ⟨ps, hmL, hml, _⟩ := hM.at
      have em : ((ps.map V.ref).length : Int) = ((c.tower i).marks.length : Nat) := by rw [List.length_map, hml]
      refine ⟨_, rfl, _, rfl, z.c, CC, z.dx, _, _, rfl, hC.obj, T.cl, T.nt, cf_towers _ _ _ _, _, rfl, z.t, _, _, _, rfl, rfl, SqL.of hL, at_of (j := i) rfl ha, a, CT, dx, _, _, rfl, ht, TT.cl, TT.nm, tf_marks _ _ _ _, m, _, rfl, .inl hmL, _, _, rfl, rfl, _, rfl, ?_⟩
      rw [em]
      refine ite2 (fun h2 => ?_) (fun h2 => ?_)
      · rw [decide_eq_true_iff] at h2
        rw [if_pos (by omega)] at q
        exact q H z hF ok (Kp.same (Same.refl _))
      · rw [decide_eq_true_iff] at h2
        have hw : ¬ (c.tower i).marks.length < what := by omega
        rw [if_neg hw] at q
        refine ⟨_, rfl, _, rfl, z.c, CC, z.dx, _, _, rfl, hC.obj, T.cl, T.nr, cf_reports _ _ _ _, z.r, _, rfl, DGet.k (k := Sum.inl (i : Int)) hF.rep, _, rfl, ?_⟩
        rw [rep_val]
        refine iteB (fun h3 => ?_) (fun h3 => ?_)
        · rw [if_pos h3] at q
          exact q H z hF ok (Kp.same (Same.refl _))
        · have h3' : ¬ (c.reports.any fun r => r.tower == i) = true := by rw [h3]; exact Bool.false_ne_true
          rw [if_neg h3'] at q
          -- count
          refine ⟨_, rfl, z.c, z.dx, _, rfl, hC.obj, rfl, z, c, rfl, hF, ok, fun H1 D1 s1 hD0 hD1 => ?_⟩
          refine ⟨D1, rfl, ⟨_, SqL.of hD1⟩, fun D hD => ?_⟩
          have ti : ∀ p, toldN c i p = (what : Int) ↔ c.sees i p = secOf c i what := fun p => by
            have := told_iff (s := c) (i := i) (p := p) (o := secOf c i what) (tower_ok ok hi).good (sec_bound hw)
            rw [sec_code] at this
            exact this
          refine lc_list (K := K) (a := D1) (xs := c.may.map nat2V) (fun j H' => Same H1 H' ∧ H' D = some (.lst (((c.may.take j).filter fun p => c.sees i p == secOf c i what).map nat2V))) ⟨same_new hD, upd_same⟩ (fun j H' _ z => SqL.of (z.1 _ _ hD1)) ?_ ?_
          · rintro j x H' hj ⟨sm, hd⟩
            obtain ⟨p, hp, rfl⟩ : ∃ p, c.may[j]? = some p ∧ x = nat2V p := by
              rw [List.getElem?_map] at hj
              cases e : c.may[j]? with
              | none => rw [e] at hj; cases hj
              | some p => rw [e] at hj; exact ⟨p, rfl, (Option.some.inj hj).symm⟩
            have hpc := may_lt (List.mem_of_getElem? hp)
            have hC2 := (hC.same s1).same sm
            refine ⟨rfl, _, rfl, z.c, z.dx, _, rfl, hC2.obj, rfl, _, rfl, _, rfl, z, c, i, p, rfl, hC2, ok, hi, hpc, fun H5 s5 => ?_⟩
            refine ⟨_, rfl, rfl, _, rfl, ?_⟩
            refine ite2 (fun h5 => ?_) (fun h5 => ?_)
            · rw [decide_eq_true_iff] at h5
              have hs := (ti p).mp (V.int.inj h5)
              refine ⟨_, rfl, _, s5 _ _ hd, ?_, ?_, ?_⟩
              · have h6 := List.length_filter_le (fun p => c.sees i p == secOf c i what) (c.may.take j)
                have h7 := may_len ok
                rw [List.length_take] at h6
                rw [List.length_map]
                exact szlt (by omega)
              · intro b o e
                rw [upd_ne (ne_of_none e hD)]
                exact s5 _ _ (sm b o e)
              · rw [upd_same, take_snoc hp, List.filter_append, List.filter_cons, if_pos (beq_iff_eq.mpr hs), List.filter_nil, List.map_append]
                rfl
            · rw [decide_eq_true_iff] at h5
              have hs : ¬ c.sees i p = secOf c i what := fun e => h5 (congrArg V.int ((ti p).mpr e))
              refine ⟨sm.trans s5, ?_⟩
              rw [s5 _ _ hd, take_snoc hp, List.filter_append, List.filter_cons, if_neg (by simpa using hs), List.filter_nil, List.append_nil]
          · rintro H' ⟨sm, hd⟩
            rw [List.length_map, List.take_length, ← withRep_may] at hd
            have sm1 : Same H H' := s1.trans sm
            refine ⟨D, _, rfl, .inl (SqL.of hd), ?_⟩
            rw [List.length_map]
            refine ⟨_, rfl, rfl, _, rfl, ?_⟩
            refine ite2 (fun h4 => ?_) (fun h4 => ?_)
            · rw [decide_eq_true_iff] at h4
              have e0 : (withRep c i what).may = [] := List.length_eq_zero_iff.mp (by have := V.int.inj h4; omega)
              rw [if_pos e0] at q
              obtain ⟨y1, y2, y3⟩ := stay _ sm1
              exact q H' z y1 y2 y3
            · rw [decide_eq_true_iff] at h4
              have e0 : ¬ (withRep c i what).may = [] := fun e => h4 (by rw [e]; rfl)
              rw [if_neg e0] at q
              have hrep := sm1 _ _ hF.rep
              refine ⟨_, rfl, _, rfl, z.c, CC, z.dx, _, _, rfl, sm1 _ _ hC.obj, T.cl, T.nr, cf_reports _ _ _ _, _, rfl, z.r, _, rfl, DPut.k (k := Sum.inl (i : Int)) hrep (szlt ?_), ?_⟩
              · have h8 : c.reports.length ≤ c.towers.length := by
                  have h9 : (c.reports.map (·.tower)).length ≤ c.towers.length := nodup_short _ _ ok.nd fun x hx => by
                    obtain ⟨r, hr', e⟩ := List.mem_map.mp hx
                    rw [← e]
                    exact (ok.rep r hr').1
                  rw [List.length_map] at h9
                  exact h9
                have := ok.tl
                unfold repK
                rw [List.length_map]
                omega
              · have hv : valV (repK c) (Sum.inl (i : Int)) = none := by
                  have := rep_val c i
                  rw [h3] at this
                  cases e : valV (repK c) (Sum.inl (i : Int)) with
                  | none => rfl
                  | some v => rw [e] at this; cases this
                have sD : SameD H' (upd H' z.r (.dK (putK (repK c) (Sum.inl (i : Int)) (.int (what : Nat))))) := fun b o e n => by
                  rw [upd_ne (ne_of e hrep (n _))]
                  exact e
                refine ⟨_, rfl, ?_⟩
                have hC3 := (hC.same sm1).sameD sD
                refine q _ z ⟨⟨hC3.obj, hC3.lst, hC3.lt, hC3.tws⟩, ?_⟩ (withRep_ok ok hi hw h3' e0) ⟨rfl, rfl, fun b o e _ ht' hr' => ⟨?_, ht', hr'⟩⟩
                · rw [upd_same, putK_new _ hv, withRep_repK]
                · rw [upd_ne hr']
                  exact sm1 b o e
end
end Fw
set_option Elab.async false
set_option linter.all false
set_option maxHeartbeats 2000000
namespace Fw
open Uw35 (Country)
/-! ### parts of cells -/
theorem partsF_cons {β : Type} [BEq β] [LawfulBEq β] (f : Nat → β) (p : Nat) (l : List Nat) : partsF f (p :: l) = (p :: l.filter fun q => f q == f p) :: partsF f (l.filter fun q => !(f q == f p)) := by
  unfold partsF
  rw [List.map_cons, List.eraseDups_cons, List.map_cons, List.filter_cons, if_pos (beq_self_eq_true _)]
  congr 1
  have e : (l.map f).filter (fun b => !(b == f p)) = (l.filter fun q => !(f q == f p)).map f := by
    rw [List.filter_map]
    rfl
  rw [e]
  refine List.map_congr_left fun a ha => ?_
  have ha' := List.mem_eraseDups.mp ha
  obtain ⟨q, hq, rfl⟩ := List.mem_map.mp ha'
  have hne : (f q == f p) = false := by simpa using (List.mem_filter.mp hq).2
  rw [List.filter_cons, if_neg (by rw [show (f p == f q) = false by rw [beq_eq_false_iff_ne]; intro z; rw [z, beq_self_eq_true] at hne; cases hne]; exact Bool.false_ne_true), List.filter_filter]
  refine List.filter_congr fun x hx => ?_
  by_cases h : f x = f q
  · rw [h, hne, beq_self_eq_true]
    rfl
  · rw [beq_eq_false_iff_ne.mpr h]
    rfl
theorem parts_congr {β γ : Type} [BEq β] [LawfulBEq β] [BEq γ] [LawfulBEq γ] (f : Nat → β) (g : Nat → γ) : ∀ (n : Nat) (l : List Nat), l.length ≤ n → (∀ p ∈ l, ∀ q ∈ l, f p = f q ↔ g p = g q) → partsF f l = partsF g l
  | _, [], _, _ => rfl
  | 0, _ :: _, h, _ => absurd h (Nat.not_succ_le_zero _)
  | n + 1, p :: l, h, k => by
    rw [partsF_cons, partsF_cons]
    have e : ∀ q ∈ l, (f q == f p) = (g q == g p) := fun q hq => by
      have := k q (List.mem_cons_of_mem _ hq) p List.mem_cons_self
      by_cases z : f q = f p
      · rw [beq_iff_eq.mpr z, beq_iff_eq.mpr (this.mp z)]
      · rw [beq_eq_false_iff_ne.mpr z, beq_eq_false_iff_ne.mpr fun y => z (this.mpr y)]
    have e1 : l.filter (fun q => f q == f p) = l.filter fun q => g q == g p := List.filter_congr e
    have e2 : l.filter (fun q => !(f q == f p)) = l.filter fun q => !(g q == g p) := List.filter_congr fun q hq => by rw [e q hq]
    rw [e1, ← e2]
    congr 1
    refine parts_congr f g n _ (Nat.le_trans (List.length_filter_le _ _) (Nat.le_of_succ_le_succ h)) fun x hx y hy => ?_
    exact k x (List.mem_cons_of_mem _ (List.mem_filter.mp hx).1) y (List.mem_cons_of_mem _ (List.mem_filter.mp hy).1)
theorem parts_is (c : Country) (i : Nat) (l : List Nat) : c.parts i l = partsF (fun p => c.sees i p) l := rfl
theorem part_sub {β : Type} [BEq β] {f : Nat → β} {l m : List Nat} (h : m ∈ partsF f l) : ∀ p ∈ m, p ∈ l := by
  obtain ⟨a, _, rfl⟩ := List.mem_map.mp h
  exact fun p hp => (List.mem_filter.mp hp).1
/-! ### asking -/
def useful (c : Country) (i : Nat) (l : List Nat) : Bool := decide (1 < (c.parts i l).length)
def Dull (c : Country) (i : Nat) (l : List Nat) : Prop := ∀ p ∈ l, ∀ q ∈ l, c.sees i p = c.sees i q
theorem dull_parts {c : Country} {i : Nat} : ∀ {l : List Nat}, l ≠ [] → Dull c i l → c.parts i l = [l]
  | [], h, _ => absurd rfl h
  | p :: l, _, d => by
    rw [parts_is, partsF_cons]
    have e : ∀ q ∈ l, (c.sees i q == c.sees i p) = true := fun q hq => beq_iff_eq.mpr (d q (List.mem_cons_of_mem _ hq) p List.mem_cons_self)
    rw [List.filter_eq_self.mpr e, List.filter_eq_nil_iff.mpr (fun q hq => by rw [e q hq]; exact Bool.false_ne_true)]
    rfl
theorem useful_iff {c : Country} {i : Nat} {l : List Nat} : useful c i l = true ↔ ¬ Dull c i l := by
  unfold useful
  rw [decide_eq_true_iff]
  constructor
  · intro h d
    cases l with
    | nil => exact absurd h (by show ¬ 1 < ([] : List (List Nat)).length; decide)
    | cons p l =>
      rw [dull_parts (by simp) d] at h
      exact absurd h (by show ¬ 1 < 1; decide)
  · intro h
    cases l with
    | nil => exact absurd (fun p hp => by cases hp) h
    | cons p l =>
      rw [parts_is, partsF_cons, List.length_cons]
      have hne : l.filter (fun q => !(c.sees i q == c.sees i p)) ≠ [] := fun e => by
        refine h fun x hx y hy => ?_
        have all : ∀ x ∈ p :: l, c.sees i x = c.sees i p := fun x hx => by
          rcases List.mem_cons.mp hx with rfl | hx
          · rfl
          · have := List.filter_eq_nil_iff.mp e x hx
            simpa using this
        rw [all x hx, all y hy]
      obtain ⟨q, r, e⟩ : ∃ q r, l.filter (fun q => !(c.sees i q == c.sees i p)) = q :: r := by
        cases e : l.filter (fun q => !(c.sees i q == c.sees i p)) with
        | nil => exact absurd e hne
        | cons q r => exact ⟨q, r, rfl⟩
      rw [e, partsF_cons, List.length_cons]
      omega
theorem dull_mono {c : Country} {i : Nat} {l m : List Nat} (d : Dull c i l) (h : ∀ p ∈ m, p ∈ l) : Dull c i m := fun p hp q hq => d p (h p hp) q (h q hq)
def least2 (a b : Nat) : Nat := if a = 0 ∨ b < a then b else a
def leastF (vs : List Nat) : Nat := vs.foldl least2 0
theorem leastF_snoc (vs : List Nat) (a : Nat) : leastF (vs ++ [a]) = least2 (leastF vs) a := by
  unfold leastF
  rw [List.foldl_append]
  rfl
theorem least_go : ∀ (vs : List Nat) (b : Nat), 1 ≤ b → (∀ a ∈ vs, 1 ≤ a) → (vs.foldl least2 b = b ∨ vs.foldl least2 b ∈ vs) ∧ vs.foldl least2 b ≤ b ∧ ∀ a ∈ vs, vs.foldl least2 b ≤ a
  | [], b, _, _ => ⟨.inl rfl, Nat.le_refl _, fun a h => by cases h⟩
  | a :: r, b, hb, h => by
    have ha := h a List.mem_cons_self
    have hr : ∀ x ∈ r, 1 ≤ x := fun x hx => h x (List.mem_cons_of_mem _ hx)
    show (r.foldl least2 (least2 b a) = b ∨ r.foldl least2 (least2 b a) ∈ a :: r) ∧ r.foldl least2 (least2 b a) ≤ b ∧ ∀ x ∈ a :: r, r.foldl least2 (least2 b a) ≤ x
    unfold least2 at *
    by_cases z : a < b
    · rw [if_pos (.inr z)]
      obtain ⟨h1, h2, h3⟩ := least_go r a ha hr
      unfold least2 at h1 h2 h3
      refine ⟨.inr ?_, by omega, fun x hx => ?_⟩
      · rcases h1 with e | e
        · rw [e]; exact List.mem_cons_self
        · exact List.mem_cons_of_mem _ e
      · rcases List.mem_cons.mp hx with rfl | hx
        · exact h2
        · exact h3 x hx
    · rw [if_neg (by omega)]
      obtain ⟨h1, h2, h3⟩ := least_go r b hb hr
      unfold least2 at h1 h2 h3
      refine ⟨?_, h2, fun x hx => ?_⟩
      · rcases h1 with e | e
        · exact .inl e
        · exact .inr (List.mem_cons_of_mem _ e)
      · rcases List.mem_cons.mp hx with rfl | hx
        · omega
        · exact h3 x hx
theorem leastF_is {vs : List Nat} (h : ∀ a ∈ vs, 1 ≤ a) (hn : vs ≠ []) : leastF vs ∈ vs ∧ ∀ a ∈ vs, leastF vs ≤ a := by
  cases vs with
  | nil => exact absurd rfl hn
  | cons a r =>
    have e : leastF (a :: r) = r.foldl least2 a := rfl
    obtain ⟨h1, h2, h3⟩ := least_go r a (h a List.mem_cons_self) fun x hx => h x (List.mem_cons_of_mem _ hx)
    rw [e]
    refine ⟨?_, fun x hx => ?_⟩
    · rcases h1 with q | q
      · rw [q]; exact List.mem_cons_self
      · exact List.mem_cons_of_mem _ q
    · rcases List.mem_cons.mp hx with rfl | hx
      · exact h2
      · exact h3 x hx
def DQ (c : Country) : Nat → List Nat → List Nat → Nat
  | 0, _, _ => 0
  | n + 1, ts, l => leastF ((ts.filter fun i => useful c i l).map fun i => 1 + maxL ((c.parts i l).map fun m => DQ c n (ts.filter fun j => j != i) m))
theorem DQ_succ (c : Country) (n : Nat) (ts l : List Nat) : DQ c (n + 1) ts l = leastF ((ts.filter fun i => useful c i l).map fun i => 1 + maxL ((c.parts i l).map fun m => DQ c n (ts.filter fun j => j != i) m)) := rfl
theorem filter_ne_comm (ts : List Nat) (i j : Nat) : (ts.filter fun x => x != i).filter (fun x => x != j) = (ts.filter fun x => x != j).filter fun x => x != i := by
  rw [List.filter_filter, List.filter_filter]
  refine List.filter_congr fun x _ => ?_
  rw [Bool.and_comm]
theorem DQ_dull (c : Country) : ∀ (n : Nat) (ts l : List Nat) (i : Nat), Dull c i l → DQ c n ts l = DQ c n (ts.filter fun j => j != i) l
  | 0, _, _, _, _ => rfl
  | n + 1, ts, l, i, d => by
    rw [DQ_succ, DQ_succ]
    have e : (ts.filter fun j => j != i).filter (fun k => useful c k l) = ts.filter fun k => useful c k l := by
      rw [List.filter_filter]
      refine List.filter_congr fun k _ => ?_
      by_cases h : useful c k l = true
      · have hk : k ≠ i := fun z => useful_iff.mp h (z ▸ d)
        rw [h, Bool.true_and, bne_iff_ne.mpr hk]
      · rw [Bool.eq_false_iff.mpr h]
        rfl
    rw [e]
    congr 1
    refine List.map_congr_left fun j hj => ?_
    congr 2
    refine List.map_congr_left fun m hm => ?_
    rw [DQ_dull c n (ts.filter fun x => x != j) m i (dull_mono d (part_sub hm)), filter_ne_comm]
theorem filter_less {ts : List Nat} {j : Nat} (h : j ∈ ts) : (ts.filter fun x => x != j).length + 1 ≤ ts.length := by
  have : (ts.filter fun x => x != j).length < ts.length := List.length_filter_lt_length_iff_exists.mpr ⟨j, h, by simp⟩
  omega
theorem DQ_nil (c : Country) (n : Nat) (l : List Nat) : DQ c n [] l = 0 := by
  cases n <;> rfl
theorem DQ_fuel (c : Country) : ∀ (n n' : Nat) (ts l : List Nat), ts.length ≤ n → ts.length ≤ n' → DQ c n ts l = DQ c n' ts l
  | 0, n', ts, l, h, _ => by
    cases List.length_eq_zero_iff.mp (Nat.le_zero.mp h)
    rw [DQ_nil, DQ_nil]
  | n + 1, 0, ts, l, _, h => by
    cases List.length_eq_zero_iff.mp (Nat.le_zero.mp h)
    rw [DQ_nil, DQ_nil]
  | n + 1, n' + 1, ts, l, h, h' => by
    rw [DQ_succ, DQ_succ]
    congr 1
    refine List.map_congr_left fun j hj => ?_
    have := filter_less (List.mem_filter.mp hj).1
    congr 2
    refine List.map_congr_left fun m _ => ?_
    exact DQ_fuel c n n' _ m (by omega) (by omega)
theorem maxL_le {l : List Nat} {n : Nat} (h : ∀ x ∈ l, x ≤ n) : maxL l ≤ n := by
  rcases fold_max_mem l 0 with e | e
  · show l.foldl max 0 ≤ n
    omega
  · exact h _ e
theorem DQ_ge (c : Country) (n : Nat) (ts l : List Nat) : ∀ a ∈ (ts.filter fun i => useful c i l).map (fun i => 1 + maxL ((c.parts i l).map fun m => DQ c n (ts.filter fun j => j != i) m)), 1 ≤ a := by
  intro a ha
  obtain ⟨i, _, rfl⟩ := List.mem_map.mp ha
  omega
theorem DQ_le (c : Country) : ∀ (n : Nat) (ts l : List Nat), DQ c n ts l ≤ ts.length
  | 0, _, _ => Nat.zero_le _
  | n + 1, ts, l => by
    rw [DQ_succ]
    by_cases hn : (ts.filter fun i => useful c i l).map (fun i => 1 + maxL ((c.parts i l).map fun m => DQ c n (ts.filter fun j => j != i) m)) = []
    · rw [hn]
      exact Nat.zero_le _
    · obtain ⟨i, hi, e⟩ := List.mem_map.mp (leastF_is (DQ_ge c n ts l) hn).1
      rw [← e]
      have h1 := filter_less (List.mem_filter.mp hi).1
      have h2 : maxL ((c.parts i l).map fun m => DQ c n (ts.filter fun j => j != i) m) ≤ (ts.filter fun j => j != i).length := maxL_le fun x hx => by
        obtain ⟨m, _, rfl⟩ := List.mem_map.mp hx
        exact DQ_le c n _ m
      omega
theorem fold_min_is : ∀ (vs : List Nat) (b : Nat), (vs.foldl min b = b ∨ vs.foldl min b ∈ vs) ∧ vs.foldl min b ≤ b ∧ ∀ a ∈ vs, vs.foldl min b ≤ a
  | [], b => ⟨.inl rfl, Nat.le_refl _, fun a h => by cases h⟩
  | a :: r, b => by
    obtain ⟨h1, h2, h3⟩ := fold_min_is r (min b a)
    show (r.foldl min (min b a) = b ∨ r.foldl min (min b a) ∈ a :: r) ∧ r.foldl min (min b a) ≤ b ∧ ∀ x ∈ a :: r, r.foldl min (min b a) ≤ x
    refine ⟨?_, by omega, fun x hx => ?_⟩
    · rcases h1 with e | e
      · rw [e]
        rcases Nat.le_total b a with z | z
        · exact .inl (Nat.min_eq_left z)
        · exact .inr (by rw [Nat.min_eq_right z]; exact List.mem_cons_self)
      · exact .inr (List.mem_cons_of_mem _ e)
    · rcases List.mem_cons.mp hx with rfl | hx
      · omega
      · exact h3 x hx
theorem alike_iff {c : Country} {ts l : List Nat} : c.alike ts l = true ↔ ∀ i ∈ ts, Dull c i l := by
  unfold Country.alike
  simp only [List.all_eq_true, beq_iff_eq]
  exact ⟨fun h i hi p hp q hq => h p hp q hq i hi, fun h p hp q hq i hi => h i hi p hp q hq⟩
theorem depth_DQ (c : Country) : ∀ (f : Nat) (ts l : List Nat), ts.length ≤ f → c.depth f ts l = DQ c f ts l
  | 0, _, _, _ => rfl
  | f + 1, ts, l, h => by
    show (if c.alike ts l = true then 0 else (ts.map fun i => ((c.parts i l).map fun m => c.depth f (ts.filter fun j => j != i) m).foldl max 0 + 1).foldl min (ts.length + 1)) = DQ c (f + 1) ts l
    by_cases ha : c.alike ts l = true
    · rw [if_pos ha, DQ_succ]
      have : (ts.filter fun i => useful c i l) = [] := by
        rw [List.filter_eq_nil_iff]
        intro i hi hu
        exact useful_iff.mp hu (alike_iff.mp ha i hi)
      rw [this]
      rfl
    · rw [if_neg ha]
      have e : (ts.map fun i => ((c.parts i l).map fun m => c.depth f (ts.filter fun j => j != i) m).foldl max 0 + 1) = ts.map fun i => 1 + maxL ((c.parts i l).map fun m => DQ c f (ts.filter fun j => j != i) m) := by
        refine List.map_congr_left fun i hi => ?_
        have h1 := filter_less hi
        rw [Nat.add_comm]
        show 1 + maxL _ = 1 + maxL _
        congr 2
        refine List.map_congr_left fun m _ => ?_
        exact depth_DQ c f _ m (by omega)
      rw [e]
      -- someone is useful
      obtain ⟨i0, hi0, hu0⟩ : ∃ i ∈ ts, useful c i l = true := by
        apply Classical.byContradiction
        intro z
        exact ha (alike_iff.mpr fun i hi => by
          apply Classical.byContradiction
          intro y
          exact z ⟨i, hi, useful_iff.mpr y⟩)
      have hne : (ts.filter fun i => useful c i l).map (fun i => 1 + maxL ((c.parts i l).map fun m => DQ c f (ts.filter fun j => j != i) m)) ≠ [] := by
        intro z
        have : i0 ∈ ts.filter fun i => useful c i l := List.mem_filter.mpr ⟨hi0, hu0⟩
        rw [List.map_eq_nil_iff.mp z] at this
        cases this
      obtain ⟨m1, m2⟩ := leastF_is (DQ_ge c f ts l) hne
      have hD : DQ c (f + 1) ts l = leastF ((ts.filter fun i => useful c i l).map fun i => 1 + maxL ((c.parts i l).map fun m => DQ c f (ts.filter fun j => j != i) m)) := rfl
      have hle := DQ_le c (f + 1) ts l
      rw [← hD] at m1 m2
      obtain ⟨n1, n2, n3⟩ := fold_min_is (ts.map fun i => 1 + maxL ((c.parts i l).map fun m => DQ c f (ts.filter fun j => j != i) m)) (ts.length + 1)
      have up : (ts.map fun i => 1 + maxL ((c.parts i l).map fun m => DQ c f (ts.filter fun j => j != i) m)).foldl min (ts.length + 1) ≤ DQ c (f + 1) ts l := by
        obtain ⟨i, hi, e2⟩ := List.mem_map.mp m1
        exact n3 _ (List.mem_map.mpr ⟨i, (List.mem_filter.mp hi).1, e2⟩)
      have down : DQ c (f + 1) ts l ≤ (ts.map fun i => 1 + maxL ((c.parts i l).map fun m => DQ c f (ts.filter fun j => j != i) m)).foldl min (ts.length + 1) := by
        rcases n1 with z | z
        · rw [z]; omega
        · obtain ⟨i, hi, e2⟩ := List.mem_map.mp z
          rw [← e2]
          by_cases hu : useful c i l = true
          · exact m2 _ (List.mem_map.mpr ⟨i, List.mem_filter.mpr ⟨hi, hu⟩, rfl⟩)
          · have d : Dull c i l := by
              apply Classical.byContradiction
              intro y
              exact hu (useful_iff.mpr y)
            have hl : l ≠ [] := fun z => by
              rw [z] at ha
              exact ha rfl
            rw [dull_parts hl d]
            have h1 := filter_less hi
            have s1 := DQ_dull c (f + 1) ts l i d
            have s2 := DQ_fuel c (f + 1) f (ts.filter fun j => j != i) l (by omega) (by omega)
            show DQ c (f + 1) ts l ≤ 1 + max 0 (DQ c f (ts.filter fun j => j != i) l)
            omega
      omega
end Fw
set_option Elab.async false
set_option linter.all false
set_option maxHeartbeats 2000000
namespace Fw
open Uw35 (Country)
theorem told_at {c : Country} {i p : Nat} (hp : p < c.cells) : toldAt (toldsOf c i) p = toldN c i p := by
  show (toldsOf c i).getD p 0 = _
  refine getD_of ?_
  unfold toldsOf
  rw [List.getElem?_map, List.getElem?_range hp]
  rfl
theorem told_len (c : Country) (i : Nat) : (toldsOf c i).length = c.cells := by
  unfold toldsOf
  rw [List.length_map, List.length_range]
theorem told_kernel {c : Country} (ok : COk c) {i p q : Nat} (hi : i < c.towers.length) (hp : p < c.cells) (hq : q < c.cells) : toldAt (toldsOf c i) p = toldAt (toldsOf c i) q ↔ c.sees i p = c.sees i q := by
  rw [told_at hp, told_at hq, told_code (tower_ok ok hi).good, told_code (tower_ok ok hi).good]
  constructor
  · intro h
    exact code_inj (fun k e => sees_lt e) (fun k e => sees_lt e) (by omega)
  · intro h
    rw [h]
theorem groups_is {c : Country} (ok : COk c) {i : Nat} (hi : i < c.towers.length) {l : List Nat} (hl : ∀ p ∈ l, p < c.cells) : (grps (toldAt (toldsOf c i)) l).map (·.2) = c.parts i l := by
  rw [grps_parts, parts_is]
  exact parts_congr _ _ l.length l (Nat.le_refl _) fun p hp q hq => told_kernel ok hi (hl p hp) (hl q hq)
theorem filter_nth : ∀ {ts : List Nat} {k i : Nat}, ts.Nodup → ts[k]? = some i → ts.filter (fun j => j != i) = ts.take k ++ ts.drop (k + 1)
  | [], k, i, _, h => by simp at h
  | a :: r, 0, i, nd, h => by
    have e : a = i := by simpa using h
    subst e
    obtain ⟨n1, _⟩ := List.nodup_cons.mp nd
    rw [List.filter_cons, if_neg (by simp)]
    show r.filter _ = r
    refine List.filter_eq_self.mpr fun x hx => ?_
    exact bne_iff_ne.mpr fun z => n1 (z ▸ hx)
  | a :: r, k + 1, i, nd, h => by
    obtain ⟨n1, n2⟩ := List.nodup_cons.mp nd
    have h' : r[k]? = some i := by simpa using h
    have ne : a ≠ i := fun z => n1 (z ▸ List.mem_of_getElem? h')
    rw [List.filter_cons, if_pos (bne_iff_ne.mpr ne), filter_nth n2 h']
    rfl
theorem dP_DQ {c : Country} (ok : COk c) : ∀ (m : Nat) (ts l : List Nat), ts.Nodup → (∀ i ∈ ts, i < c.towers.length) → (∀ p ∈ l, p < c.cells) → dP m (ts.map (toldsOf c)) l = DQ c m ts l
  | 0, _, _, _, _, _ => rfl
  | m + 1, ts, l, nd, hts, hl => by
    have key : ∀ k, k ≤ ts.length → leastAt (dP m) (ts.map (toldsOf c)) l k = leastF (((ts.take k).filter fun i => useful c i l).map fun i => 1 + maxL ((c.parts i l).map fun g => DQ c m (ts.filter fun j => j != i) g)) := by
      intro k
      induction k with
      | zero => intro _; rfl
      | succ k ih =>
        intro hk
        have e1 : ts[k]? = some ts[k] := List.getElem?_eq_getElem (by omega)
        have hi := hts _ (List.getElem_mem (show k < ts.length by omega))
        have e2 : (ts.map (toldsOf c)).getD k [] = toldsOf c ts[k] := getD_of (by rw [List.getElem?_map, e1]; rfl)
        show stepP (dP m) (ts.map (toldsOf c)) l (leastAt (dP m) (ts.map (toldsOf c)) l k) k = _
        rw [ih (by omega)]
        unfold stepP
        rw [e2, groups_is ok hi hl]
        have e3 : (ts.map (toldsOf c)).take k ++ (ts.map (toldsOf c)).drop (k + 1) = (ts.filter fun j => j != ts[k]).map (toldsOf c) := by
          rw [filter_nth nd e1, List.map_append, List.map_take, List.map_drop]
        have e4 : ((c.parts ts[k] l).map fun g => dP m ((ts.map (toldsOf c)).take k ++ (ts.map (toldsOf c)).drop (k + 1)) g) = (c.parts ts[k] l).map fun g => DQ c m (ts.filter fun j => j != ts[k]) g := by
          refine List.map_congr_left fun g hg => ?_
          rw [e3]
          refine dP_DQ ok m _ g (nd.filter _) (fun i hi' => hts i (List.mem_filter.mp hi').1) fun p hp => hl p (part_sub hg p hp)
        rw [e4, take_snoc e1, List.filter_append, List.map_append, List.filter_cons]
        by_cases hu : useful c ts[k] l = true
        · rw [if_pos (of_decide_eq_true hu), if_pos hu]
          show _ = leastF (_ ++ [_])
          rw [leastF_snoc]
          rfl
        · rw [if_neg (fun z => hu (decide_eq_true z)), if_neg hu]
          show _ = leastF (_ ++ [])
          rw [List.append_nil]
    show leastAt (dP m) (ts.map (toldsOf c)) l (ts.map (toldsOf c)).length = _
    rw [List.length_map, key ts.length (Nat.le_refl _), List.take_length]
    rfl
theorem still_nd (c : Country) : c.still.Nodup := (List.nodup_range).filter _
theorem still_lt {c : Country} : ∀ i ∈ c.still, i < c.towers.length := fun i hi => List.mem_range.mp (List.mem_filter.mp hi).1
theorem still_len {c : Country} (ok : COk c) : c.still.length ≤ 5 := by
  have h : c.still.length ≤ (List.range c.towers.length).length := List.length_filter_le _ _
  rw [List.length_range] at h
  exact Nat.le_trans h ok.tl
/-- depth, as the program reckons it -/
theorem depth_is {c : Country} (ok : COk c) : dP (c.still.map (toldsOf c)).length (c.still.map (toldsOf c)) c.may = c.depth 5 c.still c.may := by
  rw [List.length_map, dP_DQ ok _ _ _ (still_nd c) still_lt fun p hp => may_lt hp, depth_DQ c 5 _ _ (still_len ok)]
  exact DQ_fuel c _ _ _ _ (Nat.le_refl _) (still_len ok)
/-! ### whom to ask -/
theorem maxL_same {a b : List Nat} (h1 : ∀ x ∈ a, x ∈ b) (h2 : ∀ x ∈ b, x ∈ a) : maxL a = maxL b := by
  have p : maxL a ≤ maxL b := maxL_le fun x hx => (fold_max_le b 0).2 x (h1 x hx)
  have q : maxL b ≤ maxL a := maxL_le fun x hx => (fold_max_le a 0).2 x (h2 x hx)
  omega
theorem left_is (c : Country) (l : List Nat) (i : Nat) : c.left l i = maxL ((c.parts i l).map List.length) := by
  show maxL (l.map fun p => (l.filter fun q => c.sees i q == c.sees i p).length) = _
  refine maxL_same (fun x hx => ?_) fun x hx => ?_
  · obtain ⟨p, hp, rfl⟩ := List.mem_map.mp hx
    refine List.mem_map.mpr ⟨l.filter fun q => c.sees i q == c.sees i p, ?_, rfl⟩
    exact List.mem_map.mpr ⟨c.sees i p, List.mem_eraseDups.mpr (List.mem_map.mpr ⟨p, hp, rfl⟩), rfl⟩
  · obtain ⟨m, hm, rfl⟩ := List.mem_map.mp hx
    obtain ⟨a, ha, rfl⟩ := List.mem_map.mp hm
    obtain ⟨p, hp, rfl⟩ := List.mem_map.mp (List.mem_eraseDups.mp ha)
    exact List.mem_map.mpr ⟨p, hp, rfl⟩
def askStep (f : Nat → Nat) (b : Option (Nat × Nat)) (i : Nat) : Option (Nat × Nat) := match b with
  | none => some (i, f i)
  | some x => if f i < x.2 then some (i, f i) else some x
theorem ask_fold (c : Country) : c.ask = c.still.foldl (askStep fun i => c.left c.may i) none := rfl
theorem ask_go (f : Nat → Nat) : ∀ (l : List Nat) (i : Nat), (∀ x ∈ l, i < x) → l.Pairwise (· < ·) →
    ∃ j, l.foldl (askStep f) (some (i, f i)) = some (j, f j) ∧ f j ≤ f i ∧ (∀ x ∈ l, f j ≤ f x) ∧ (f j = f i → j = i) ∧ ∀ x ∈ l, f x = f j → j ≤ x
  | [], i, _, _ => ⟨i, rfl, Nat.le_refl _, fun x h => (by cases h), fun _ => rfl, fun x h => (by cases h)⟩
  | k :: r, i, hi, hp => by
    obtain ⟨p1, p2⟩ := List.pairwise_cons.mp hp
    have e : (k :: r).foldl (askStep f) (some (i, f i)) = r.foldl (askStep f) (if f k < f i then some (k, f k) else some (i, f i)) := rfl
    rw [e]
    by_cases h : f k < f i
    · rw [if_pos h]
      obtain ⟨j, h1, h2, h3, h4, h5⟩ := ask_go f r k p1 p2
      refine ⟨j, h1, by omega, fun x hx => ?_, fun z => by omega, fun x hx z => ?_⟩
      · rcases List.mem_cons.mp hx with rfl | hx
        · exact h2
        · exact h3 x hx
      · rcases List.mem_cons.mp hx with rfl | hx
        · have := h4 z.symm
          omega
        · exact h5 x hx z
    · rw [if_neg h]
      obtain ⟨j, h1, h2, h3, h4, h5⟩ := ask_go f r i (fun x hx => hi x (List.mem_cons_of_mem _ hx)) p2
      refine ⟨j, h1, h2, fun x hx => ?_, h4, fun x hx z => ?_⟩
      · rcases List.mem_cons.mp hx with rfl | hx
        · omega
        · exact h3 x hx
      · rcases List.mem_cons.mp hx with rfl | hx
        · have h6 : f j = f i := by omega
          have h7 := h4 h6
          have h8 := hi x List.mem_cons_self
          omega
        · exact h5 x hx z
theorem still_sorted (c : Country) : c.still.Pairwise (· < ·) := List.Pairwise.filter _ List.pairwise_lt_range
def askL (c : Country) : List (Int × Int) := c.still.map fun i => ((c.left c.may i : Nat), (i : Int))
theorem ask_is {c : Country} {u : Int × Int} (hu : u ∈ askL c) (hm : ∀ m ∈ askL c, pairLt m u = false) : ∃ i n : Nat, c.ask = some (i, n) ∧ u = ((n : Int), (i : Int)) := by
  obtain ⟨i, hi, rfl⟩ := List.mem_map.mp hu
  refine ⟨i, c.left c.may i, ?_, rfl⟩
  rw [ask_fold]
  have hs := still_sorted c
  have all : ∀ k ∈ c.still, ¬ ((c.left c.may k : Int) < (c.left c.may i : Int) ∨ ((c.left c.may k : Int) = (c.left c.may i : Int) ∧ (k : Int) < (i : Int))) := fun k hk => (pairLt_no _ _).mp (hm _ (List.mem_map.mpr ⟨k, hk, rfl⟩))
  cases e : c.still with
  | nil => rw [e] at hi; cases hi
  | cons a r =>
    rw [e] at hs hi all
    obtain ⟨p1, p2⟩ := List.pairwise_cons.mp hs
    obtain ⟨j, h1, h2, h3, h4, h5⟩ := ask_go (fun i => c.left c.may i) r a p1 p2
    show r.foldl (askStep _) (some (a, c.left c.may a)) = _
    rw [h1]
    have hj : j ∈ a :: r := by
      -- j is a or of r
      have : ∀ (l : List Nat) (b : Nat × Nat) (j n : Nat), l.foldl (askStep fun i => c.left c.may i) (some b) = some (j, n) → j = b.1 ∨ j ∈ l := by
        intro l
        induction l with
        | nil =>
          intro b j n h
          have h' : some b = some (j, n) := h
          rw [Option.some.inj h']
          exact .inl rfl
        | cons k l ih =>
          intro b j n h
          have h' : l.foldl (askStep fun i => c.left c.may i) (if c.left c.may k < b.2 then some (k, c.left c.may k) else some b) = some (j, n) := h
          split at h'
          · rcases ih _ j n h' with z | z
            · exact .inr (by rw [z]; exact List.mem_cons_self)
            · exact .inr (List.mem_cons_of_mem _ z)
          · rcases ih _ j n h' with z | z
            · exact .inl z
            · exact .inr (List.mem_cons_of_mem _ z)
      rcases this r _ j _ h1 with z | z
      · rw [z]; exact List.mem_cons_self
      · exact List.mem_cons_of_mem _ z
    have a1 := all j hj
    have b1 : c.left c.may j ≤ c.left c.may i := by
      rcases List.mem_cons.mp hi with rfl | hi
      · exact h2
      · exact h3 i hi
    have b2 : c.left c.may i = c.left c.may j → j ≤ i := fun z => by
      rcases List.mem_cons.mp hi with rfl | hi
      · have := h4 z.symm
        omega
      · exact h5 i hi z
    have e1 : c.left c.may j = c.left c.may i := by omega
    have e2 : j ≤ i := b2 e1.symm
    have e3 : j = i := by omega
    rw [e3]
theorem ask_none {c : Country} (h : c.still = []) : c.ask = none := by
  rw [ask_fold, h]
  rfl
end Fw
set_option Elab.async false
set_option linter.all false
set_option maxRecDepth 100000
set_option maxHeartbeats 2000000
namespace Fw
open PySem PySem.Spec PyProof.Rows L2
theorem pair_mem {α β : Type} {R S : α → β → Prop} : ∀ {l1 : List α} {l2 : List β}, Paired R l1 l2 → (∀ a ∈ l1, ∀ b, R a b → S a b) → Paired S l1 l2
  | _, _, .nil, _ => .nil
  | _, _, .cons h t, k => .cons (k _ List.mem_cons_self _ h) (pair_mem t fun a ha => k a (List.mem_cons_of_mem _ ha))
section
variable {P : Program} {w : World} {K : PySem.W.Frag} {mg : Str → Option Value} {base : Heap} {CC CT : Addr}
/-! ### whom_to_ask -/
abbrev sWhom : Stmt := inClass (top 35) 10
def askV (s : Uw35.Country) : List Int := match s.ask with
  | none => [-6]
  | some x => [(x.1 : Int), (x.2 : Int)]
def spWhom (K : PySem.W.Frag) (CC CT : Addr) : Sp := fun vs H Q _ => ∃ (z : CA) (s : Uw35.Country), vs = [.ref z.c] ∧ Full K CC CT H z s ∧ COk s ∧
  ∀ (H' : Hp) (D : Addr), Same H H' → H D = none → H' D = some (.lst ((askV s).map V.int)) → Q (.ref D) H'
theorem scWhom : FnScope ["self", "numbers", "cells", "least", "number"] ["self"] (defScope sWhom) := ⟨rfl, rfl, rfl, by decide +kernel, rfl, by decide +kernel, by decide +kernel⟩
theorem ok_whom {f : Addr} {fd : FuncData} (F : Fun K "whom_to_ask" "Country.whom_to_ask" sWhom f fd) (T : CTxt K CC) (MN : Mt P w K mg base CC "not_reported" 1 ["self"] (spNotRep K CC CT)) (ML : Mt P w K mg base CC "cells_left" 7 ["self"] (spLeft K CC CT))
    (MB : Mt P w K mg base CC "told_by" 6 ["self", "number"] (spToldBy K CC CT)) (FM : Fn P w K mg base "most_told_the_same" 2 ["told", "cells"] (spMost K)) (ml : mg "len" = none) (mm : mg "min" = none) (c1 : CInt mg "NOBODY_TO_ASK" (-6)) :
    FnOk P w K mg base CX0 8 f fd ["self"] (spWhom K CC CT) := by
  refine F.ok scWhom (fun vs H Q E h => ?_) (fun cdv A outer s H vs Q E hr h => ?_)
  · obtain ⟨z, s, rfl, _⟩ := h
    rfl
  · obtain ⟨z, c, rfl, hF, ok, q⟩ := h
    have hC := hF.core
    refine ⟨_, pss_cons (ps_set (i := 1) scWhom.nd rfl (Or.inl rfl) (pe_mt0 (pv 0) T.cl MN (hr.mono (show 1 ≤ 7 by omega))))
      (pss_cons (ps_if (pt_cmpR op_eq (pe_callB call_len_seq rfl ml PySem.boot_len (pa_cons (pv 1) pa_nil)) pe_int (nomark _)) (pss_one (ps_ret (pe_lst (pa_cons (pe_cint c1 rfl) pa_nil)))) pss_nil)
      (pss_cons (ps_set (i := 2) scWhom.nd rfl (Or.inr rfl) (pe_mt0 (pv 0) T.cl ML hr))
      (pss_cons (ps_set (i := 3) scWhom.nd rfl (Or.inl rfl) (pe_callB (cr_minP rfl hr.units) rfl mm PyProof.Rows.boot_min (pa_cons (pe_lc (own := [("number", 4)]) rfl scWhom.nd (pi_list (pv 1)) (blkOk_by (by rfl))
        (fun _ _ _ _ _ => pg_name (i := 4) scWhom.nd rfl (Or.inl rfl)) (fun _ _ _ _ _ => pts_nil)
        (fun _ _ _ _ _ => pe_tup (pa_cons (pe_fn FM (hr.mono (show 2 ≤ 7 by omega)) rfl (pa_cons (pe_mt (pv 0) T.cl MB (hr.mono (show 6 ≤ 7 by omega)) (pa_cons (pv 4) pa_nil)) (pa_cons (pv 2) pa_nil))) (pa_cons (pv 4) pa_nil)))) pa_nil)))
      (pss_one (ps_ret (pe_lst (pa_cons (pe_ix ix_tup (pv 3) pe_int (fun _ _ => rfl)) (pa_cons (pe_ix ix_tup (pv 3) pe_int (fun _ _ => rfl)) pa_nil)))))))), ?_⟩
    refine ⟨_, rfl, z.c, z.dx, _, rfl, hC.obj, rfl, z, c, rfl, hF, ok, fun H1 D1 s1 hD10 hD1 => ?_⟩
    have sl := still_len ok
    refine ⟨_, rfl, D1, _, rfl, .inl (SqL.of hD1), rfl, _, rfl, ?_⟩
    rw [List.length_map]
    refine ite2 (fun h => ?_) (fun h => ?_)
    · rw [decide_eq_true_iff] at h
      have e0 : c.still = [] := List.length_eq_zero_iff.mp (by have := V.int.inj h; omega)
      have ea : askV c = [-6] := by unfold askV; rw [ask_none e0]
      refine ⟨szl (by show 1 ≤ 16777216; decide), fun p hp => ?_⟩
      refine q _ p (s1.trans (same_new hp)) (s1.free hp) ?_
      rw [upd_same, ea]
      rfl
    · rw [decide_eq_true_iff] at h
      have e0 : c.still ≠ [] := fun e => h (by rw [e]; rfl)
      have hpos : 0 < c.still.length := List.length_pos_iff.mpr e0
      refine ⟨_, rfl, z.c, z.dx, _, rfl, s1 _ _ hC.obj, rfl, z, c, rfl, hF.same s1, ok, fun H2 D2 s2 hD20 hD2 => ?_⟩
      have s12 := s1.trans s2
      refine ⟨_, rfl, D1, rfl, ⟨_, SqL.of (s2 _ _ hD1)⟩, fun D hD => ?_⟩
      refine lc_list (K := K) (a := D1) (xs := c.still.map nat2V) (fun j H' => Same H2 H' ∧ ∃ ps : List Addr, H' D = some (.lst (ps.map V.ref)) ∧ Paired (fun p (u : Int × Int) => H' p = some (.tup [.int u.1, .int u.2])) ps ((askL c).take j)) ⟨same_new hD, [], upd_same, .nil⟩
        (fun j H' _ z => SqL.of (z.1 _ _ (s2 _ _ hD1))) ?_ ?_
      · rintro j x H' hj ⟨sm, ps, hd, hP⟩
        obtain ⟨i, hi, rfl⟩ : ∃ i, c.still[j]? = some i ∧ x = nat2V i := by
          rw [List.getElem?_map] at hj
          cases e : c.still[j]? with
          | none => rw [e] at hj; cases hj
          | some i => rw [e] at hj; exact ⟨i, rfl, (Option.some.inj hj).symm⟩
        have hit := still_lt i (List.mem_of_getElem? hi)
        have hC2 := (hC.same s12).same sm
        refine ⟨rfl, _, rfl, z.c, z.dx, _, rfl, hC2.obj, rfl, _, rfl, z, c, i, rfl, hC2, ok, hit, fun H3 D3 s3 hD30 hD3 => ?_⟩
        have hle := grps_len (toldAt (toldsOf c i)) c.may
        have hg := groups_is ok hit (l := c.may) fun p hp => may_lt hp
        have hlen : lensOf (toldsOf c i) c.may = ((c.parts i c.may).map List.length).map fun (n : Nat) => (n : Int) := by
          unfold lensOf
          rw [hg, List.map_map]
          rfl
        have hne : 0 < (lensOf (toldsOf c i) c.may).length := by
          rw [hlen, List.length_map, List.length_map]
          cases e : c.may with
          | nil => exact absurd e ok.ne
          | cons p l =>
            rw [parts_is, partsF_cons]
            exact Nat.succ_pos _
        refine ⟨_, rfl, D3, D2, toldsOf c i, c.may, rfl, SqL.of hD3, SqL.of (s3 _ _ (sm _ _ hD2)), fun p hp => by rw [told_len]; exact may_lt hp, may_len ok, hne, fun H4 mx s4 hm1 hm2 => ?_⟩
        have em : mx = (c.left c.may i : Nat) := by
          rw [left_is]
          rw [hlen] at hm1 hm2
          exact max_is hm1 hm2
        subst em
        refine ⟨_, rfl, szl (by show 2 ≤ 16777216; decide), fun p hp => ?_⟩
        have sm4 : Same H' H4 := s3.trans s4
        have hd4 := sm4 _ _ hd
        have nDp : D ≠ p := ne_of_none hd4 hp
        have hz : (askL c)[j]? = some (((c.left c.may i : Nat) : Int), (i : Int)) := by
          unfold askL
          rw [List.getElem?_map, hi]
          rfl
        refine ⟨_, by rw [upd_ne nDp]; exact hd4, ?_, ?_, ps ++ [p], by rw [upd_same, List.map_append]; rfl, ?_⟩
        · have hpl := Paired.length hP
          rw [List.length_take] at hpl
          have : (askL c).length = c.still.length := by unfold askL; rw [List.length_map]
          rw [List.length_map]
          exact szlt (by omega)
        · intro b o e
          rw [upd_ne (ne_of_none e hD), upd_ne (ne_of_none (sm4 _ _ (sm b o e)) hp)]
          exact sm4 _ _ (sm b o e)
        · rw [take_snoc hz]
          refine Paired.snoc (Paired.mapP hP fun p' u e => ?_) ?_
          · have e4 := sm4 _ _ e
            rw [upd_ne (ne_of e4 hd4 (by intro z; cases z)), upd_ne (ne_of_none e4 hp)]
            exact e4
          · rw [upd_ne nDp.symm, upd_same]
      · rintro H' ⟨sm, ps, hd, hP⟩
        have el : (c.still.map nat2V).length = (askL c).length := by unfold askL; rw [List.length_map, List.length_map]
        rw [el, List.take_length] at hP
        refine ⟨D, ps, askL c, rfl, SqL.of hd, Paired.mapP hP fun p u e => SqT.of e, by unfold askL; rw [List.length_map]; exact hpos, fun j p u hp hu hmin => ?_⟩
        obtain ⟨u', hu', hpu⟩ := paired_get hP hp
        rw [hu] at hu'
        cases hu'
        obtain ⟨i, n, ha, rfl⟩ := ask_is (List.mem_of_getElem? hu) hmin
        have ea : askV c = [(i : Int), (n : Int)] := by unfold askV; rw [ha]
        have sm1 : Same H H' := s12.trans sm
        refine ⟨_, rfl, p, _, _, _, rfl, rfl, SqT.of hpu, rfl, _, rfl, p, _, _, _, rfl, rfl, SqT.of hpu, rfl, szl (by show 2 ≤ 16777216; decide), fun D4 hD4 => ?_⟩
        refine q _ D4 (sm1.trans (same_new hD4)) (sm1.free hD4) ?_
        rw [upd_same, ea]
        rfl
/-! ### depth -/
abbrev sDepth : Stmt := inClass (top 35) 11
def spDepth (K : PySem.W.Frag) (CC CT : Addr) : Sp := fun vs H Q _ => ∃ (z : CA) (s : Uw35.Country), vs = [.ref z.c] ∧ Full K CC CT H z s ∧ COk s ∧
  ∀ H' : Hp, Same H H' → Q (.int (s.depth 5 s.still s.may : Nat)) H'
theorem scDepth : FnScope ["self", "told_by_each", "number"] ["self"] (defScope sDepth) := ⟨rfl, rfl, rfl, by decide +kernel, rfl, by decide +kernel, by decide +kernel⟩
theorem ok_depth {f : Addr} {fd : FuncData} (F : Fun K "depth" "Country.depth" sDepth f fd) (T : CTxt K CC) (MN : Mt P w K mg base CC "not_reported" 1 ["self"] (spNotRep K CC CT)) (ML : Mt P w K mg base CC "cells_left" 7 ["self"] (spLeft K CC CT))
    (MB : Mt P w K mg base CC "told_by" 6 ["self", "number"] (spToldBy K CC CT)) (FL : Fn P w K mg base "least_asked_at_worst" 8 ["told_by_each", "cells"] (spLeast K 6)) :
    FnOk P w K mg base CX0 9 f fd ["self"] (spDepth K CC CT) := by
  refine F.ok scDepth (fun vs H Q E h => ?_) (fun cdv A outer s H vs Q E hr h => ?_)
  · obtain ⟨z, s, rfl, _⟩ := h
    rfl
  · obtain ⟨z, c, rfl, hF, ok, q⟩ := h
    have hC := hF.core
    refine ⟨_, pss_cons (ps_setLc (i := 1) (own := [("number", 2)]) rfl scDepth.nd rfl rfl (sw_true rfl rfl rfl (by decide +kernel)) (pi_list (pe_mt0 (pv 0) T.cl MN (hr.mono (show 1 ≤ 8 by omega)))) (blkOk_by (by rfl))
        (fun _ _ _ _ _ => pg_name (i := 2) scDepth.nd rfl (Or.inl rfl)) (fun _ _ _ _ _ => pts_nil) (fun _ _ _ _ _ => pe_mt (pv 0) T.cl MB (hr.mono (show 6 ≤ 8 by omega)) (pa_cons (pv 2) pa_nil)))
      (pss_one (ps_ret (pe_fn FL hr rfl (pa_cons (pv 1) (pa_cons (pe_mt0 (pv 0) T.cl ML (hr.mono (show 7 ≤ 8 by omega))) pa_nil))))), ?_⟩
    refine ⟨_, rfl, z.c, z.dx, _, rfl, hC.obj, rfl, z, c, rfl, hF, ok, fun H1 D1 s1 hD10 hD1 => ?_⟩
    have sl := still_len ok
    refine ⟨D1, rfl, ⟨_, SqL.of hD1⟩, fun D hD => ?_⟩
    refine lc_list (K := K) (a := D1) (xs := c.still.map nat2V) (fun j H' => Same H1 H' ∧ ∃ ps : List Addr, H' D = some (.lst (ps.map V.ref)) ∧ D ∉ ps ∧ Paired (fun p (ts : List Int) => H' p = some (.lst (ts.map V.int))) ps ((c.still.map (toldsOf c)).take j))
      ⟨same_new hD, [], upd_same, by simp, .nil⟩ (fun j H' _ z => SqL.of (z.1 _ _ hD1)) ?_ ?_
    · rintro j x H' hj ⟨sm, ps, hd, hnD, hP⟩
      obtain ⟨i, hi, rfl⟩ : ∃ i, c.still[j]? = some i ∧ x = nat2V i := by
        rw [List.getElem?_map] at hj
        cases e : c.still[j]? with
        | none => rw [e] at hj; cases hj
        | some i => rw [e] at hj; exact ⟨i, rfl, (Option.some.inj hj).symm⟩
      have hit := still_lt i (List.mem_of_getElem? hi)
      have hC2 := (hC.same s1).same sm
      refine ⟨rfl, _, rfl, z.c, z.dx, _, rfl, hC2.obj, rfl, _, rfl, z, c, i, rfl, hC2, ok, hit, fun H3 D3 s3 hD30 hD3 => ?_⟩
      have nD3 : D ≠ D3 := ne_of_none hd hD30
      have hz : (c.still.map (toldsOf c))[j]? = some (toldsOf c i) := by rw [List.getElem?_map, hi]; rfl
      refine ⟨_, s3 _ _ hd, ?_, ?_, ps ++ [D3], by rw [upd_same, List.map_append]; rfl, ?_, ?_⟩
      · have hpl := Paired.length hP
        rw [List.length_take, List.length_map] at hpl
        rw [List.length_map]
        exact szlt (by omega)
      · intro b o e
        rw [upd_ne (ne_of_none e hD)]
        exact s3 _ _ (sm b o e)
      · intro hm
        rcases List.mem_append.mp hm with h | h
        · exact hnD h
        · exact nD3 (List.mem_singleton.mp h)
      · rw [take_snoc hz]
        have all : ∀ p ∈ ps, p ≠ D := fun p hp e => hnD (e ▸ hp)
        refine Paired.snoc ?_ (by rw [upd_ne nD3.symm]; exact hD3)
        exact pair_mem hP fun p hp ts e => by
          rw [upd_ne (all p hp)]
          exact s3 _ _ e
    · rintro H' ⟨sm, ps, hd, hnD, hP⟩
      have el : (c.still.map nat2V).length = (c.still.map (toldsOf c)).length := by rw [List.length_map, List.length_map]
      rw [el, List.take_length] at hP
      have sm1 : Same H H' := s1.trans sm
      refine ⟨_, rfl, _, rfl, z.c, z.dx, _, rfl, sm1 _ _ hC.obj, rfl, z, c, rfl, hF.same sm1, ok, fun H5 D5 s5 hD50 hD5 => ?_⟩
      refine ⟨D, D5, ps, c.still.map (toldsOf c), c.may, rfl, SqL.of (s5 _ _ hd), Paired.mapP hP fun p ts e => SqL.of (s5 _ _ e), SqL.of hD5, ?_, may_len ok, by rw [List.length_map]; omega, by rw [List.length_map]; omega, fun H6 s6 => ?_⟩
      · intro ts ht p hp
        obtain ⟨i, _, rfl⟩ := List.mem_map.mp ht
        rw [told_len]
        exact may_lt hp
      · rw [depth_is ok]
        exact q _ ((sm1.trans s5).trans s6)
end
end Fw
set_option Elab.async false
set_option linter.all false
set_option maxRecDepth 100000
set_option maxHeartbeats 2000000
namespace Fw
open PySem PySem.Spec PyProof.Rows L2
/-! ### by numbers -/
theorem begin_ok {a b : Nat} (h : ¬ (a < 2 ∨ Uw35.SIDE < a ∨ b < 2 ∨ Uw35.SIDE < b)) : COk ⟨a, b, [], []⟩ := by
  have e8 : Uw35.SIDE = 8 := rfl
  rw [e8] at h
  refine ⟨by show 2 ≤ a; omega, by show a ≤ 8; omega, by show 2 ≤ b; omega, by show b ≤ 8; omega, Nat.zero_le _, fun tw h => (by cases h), fun rp h => (by cases h), List.nodup_nil, fun e => ?_⟩
  have e' : (List.range (a * b)).filter (fun _ => true) = [] := e
  rw [List.filter_eq_self.mpr (fun _ _ => rfl)] at e'
  have h1 : (List.range (a * b)).length = 0 := by rw [e']; rfl
  rw [List.length_range] at h1
  rcases Nat.mul_eq_zero.mp h1 with z | z <;> omega
theorem init_ok : COk Uw35.init := begin_ok (a := 2) (b := 2) (by decide)
theorem vectors_small : ∀ {ns : List Nat}, (∀ n ∈ ns, n ≤ 20) → ∀ u ∈ Uw35.vectors ns, Small u
  | [], _, u, hu => by cases hu
  | [a], _, u, hu => by simp [Uw35.vectors] at hu
  | a :: b :: l, h, u, hu => by
    have ha := h a List.mem_cons_self
    have hb := h b (List.mem_cons_of_mem _ List.mem_cons_self)
    have hu' : u ∈ ((a : Int) - (Uw35.shift : Int), (b : Int) - (Uw35.shift : Int)) :: Uw35.vectors l := hu
    rcases List.mem_cons.mp hu' with rfl | hu'
    · have e : Uw35.shift = 10 := rfl
      refine ⟨?_, ?_, ?_, ?_⟩ <;> simp only [e] <;> omega
    · exact vectors_small (fun n hn => h n (List.mem_cons_of_mem _ (List.mem_cons_of_mem _ hn))) u hu'
def withTow (s : Uw35.Country) (t : Uw35.Tower) : Uw35.Country := { s with towers := s.towers ++ [t] }
theorem step_tower (s : Uw35.Country) (x y far : Nat) (l : List Nat) : Uw35.step s (.tower x y far l) = if s.wide ≤ x ∨ s.high ≤ y ∨ Uw35.FAR < far ∨ 2 * Uw35.MARKS < l.length ∨ l.length % 2 = 1 ∨ (l.all fun n => decide (n ≤ 20)) = false then (s, Uw35.ok (-1)) else
    if Uw35.goodMarks (Uw35.vectors l) = false then (s, Uw35.ok (-3)) else if Uw35.TOWERS ≤ s.towers.length then (s, Uw35.ok (-5)) else (withTow s ⟨x, y, far, Uw35.vectors l⟩, Uw35.ok (s.towers.length : Nat)) := rfl
theorem withTow_tower {s : Uw35.Country} {t : Uw35.Tower} {i : Nat} (h : i < s.towers.length) : (withTow s t).tower i = s.tower i := by
  show (s.towers ++ [t]).getD i _ = s.towers.getD i _
  rw [List.getD_eq_getElem?_getD, List.getD_eq_getElem?_getD, List.getElem?_append_left h]
theorem withTow_sees {s : Uw35.Country} {t : Uw35.Tower} {i p : Nat} (h : i < s.towers.length) : (withTow s t).sees i p = s.sees i p := by
  unfold Uw35.Country.sees
  rw [withTow_tower h]
  rfl
theorem withTow_may {s : Uw35.Country} (ok : COk s) (t : Uw35.Tower) : (withTow s t).may = s.may := by
  show (List.range s.cells).filter ((withTow s t).fits s.reports) = (List.range s.cells).filter (s.fits s.reports)
  refine List.filter_congr fun p _ => ?_
  unfold Uw35.Country.fits
  refine Bool.eq_iff_iff.mpr ?_
  rw [List.all_eq_true, List.all_eq_true]
  constructor
  · intro h r hr
    rw [← withTow_sees (t := t) (ok.rep r hr).1]
    exact h r hr
  · intro h r hr
    rw [withTow_sees (ok.rep r hr).1]
    exact h r hr
theorem withTow_ok {s : Uw35.Country} (ok : COk s) {t : Uw35.Tower} (h : TOk t) (hl : ¬ Uw35.TOWERS ≤ s.towers.length) : COk (withTow s t) where
  w2 := ok.w2
  w8 := ok.w8
  h2 := ok.h2
  h8 := ok.h8
  tl := by
    show (s.towers ++ [t]).length ≤ 5
    have e : Uw35.TOWERS = 5 := rfl
    rw [List.length_append, List.length_singleton]
    omega
  tok := fun tw htw => by
    rcases List.mem_append.mp htw with z | z
    · exact ok.tok tw z
    · cases List.mem_singleton.mp z
      exact h
  rep := fun rp hrp => by
    obtain ⟨h1, h2⟩ := ok.rep rp hrp
    refine ⟨?_, ?_⟩
    · show rp.tower < (s.towers ++ [t]).length
      rw [List.length_append]
      omega
    · rw [withTow_tower h1]
      exact h2
  nd := ok.nd
  ne := by
    rw [withTow_may ok]
    exact ok.ne
theorem withTow_repK {s : Uw35.Country} (ok : COk s) (t : Uw35.Tower) : repK (withTow s t) = repK s := by
  show (s.reports.map fun rp => ((Sum.inl (rp.tower : Int) : Key), V.int (code (withTow s t) rp.tower rp.sector : Nat))) = _
  refine List.map_congr_left fun rp hrp => ?_
  unfold code
  rw [withTow_tower (ok.rep rp hrp).1]
/-- a list is written that is no list of the country's towers' marks -/
theorem TowIn.upd {K : PySem.W.Frag} {C : Addr} {H : Hp} {z : CA} {a b : Addr} {tw : Uw35.Tower} {xs ys : List V} (h : TowIn K C H z a tw) (hb : H b = some (.lst xs)) (hz : b = z.t ∨ b = z.l) : TowIn K C (upd H b (.lst ys)) z a tw := by
  obtain ⟨dx, m, h1, ⟨ps, h2, h3⟩, h4, h5⟩ := h
  have nm : m ≠ b := by
    rcases hz with e | e
    · rw [e]; exact h4
    · rw [e]; exact h5
  refine ⟨dx, m, by rw [upd_ne (ne_of h1 hb (by intro z; cases z))]; exact h1, ⟨ps, ?_, Paired.mapP h3 fun p u q => ?_⟩, h4, h5⟩
  · rcases h2 with (h | ⟨o, h⟩) | h
    · exact .inl (.inl (by rw [upd_ne nm]; exact h))
    · exact .inl (.inr ⟨o, by rw [upd_ne nm]; exact h⟩)
    · exact .inr h
  · rcases q with (h | ⟨o, h⟩) | h
    · exact .inl (.inl (by rw [upd_ne (ne_of h hb (by intro z; cases z))]; exact h))
    · exact .inl (.inr ⟨o, by rw [upd_ne (ne_of h hb (by intro z; cases z))]; exact h⟩)
    · exact .inr h
section
variable {P : Program} {w : World} {K : PySem.W.Frag} {mg : Str → Option Value} {base : Heap} {CC CT : Addr}
/-! ### Country.__init__ -/
abbrev sCI : Stmt := inClass (top 35) 0
def spCI (CC : Addr) : Sp := fun vs H Q _ => ∃ (p dx : Addr), vs = [.ref p] ∧ H p = some (.ins CC dx []) ∧
  ∀ (H' : Hp) (t r : Addr), H' p = some (.ins CC dx (cf (.int 2) (.int 2) (.ref t) (.ref r))) → H' t = some (.lst []) → H' r = some (.dK []) → (∀ b o, H b = some o → b ≠ p → H' b = some o) → Q .non H'
theorem scCI : FnScope ["self"] ["self"] (defScope sCI) := ⟨rfl, rfl, rfl, by decide +kernel, rfl, by decide +kernel, by decide +kernel⟩
theorem ok_ci {f : Addr} {fd : FuncData} (F : Fun K "__init__" "Country.__init__" sCI f fd) (T : CTxt K CC) (c1 : CInt mg "SHORTEST_SIDE" 2) : FnOk P w K mg base CX0 1 f fd ["self"] (spCI CC) := by
  refine F.ok scCI (fun vs H Q E h => ?_) (fun cdv A outer s H vs Q E hr h => ?_)
  · obtain ⟨p, dx, rfl, _⟩ := h
    rfl
  · obtain ⟨p, dx, rfl, hp, k⟩ := h
    refine ⟨_, pss_cons (ps_fld (pv 0) (pe_cint c1 rfl) rfl) (pss_cons (ps_fld (pv 0) (pe_cint c1 rfl) rfl) (pss_cons (ps_fld (pv 0) (pe_lst pa_nil) rfl) (pss_one (ps_fld (pv 0) pe_dnewK rfl)))), ?_⟩
    refine ⟨_, rfl, p, CC, dx, _, rfl, hp, T.cl, T.nw, (by show 0 < 1000; decide), ?_⟩
    refine ⟨_, rfl, p, CC, dx, _, rfl, upd_same, T.cl, T.nh, (by show 1 < 1000; decide), ?_⟩
    refine ⟨Nat.zero_le _, fun t ht => ?_⟩
    have npt : p ≠ t := ne_of_none upd_same ht
    refine ⟨_, rfl, p, CC, dx, _, rfl, (by rw [upd_ne npt, upd_same]), T.cl, T.nt, (by show 2 < 1000; decide), ?_⟩
    intro r hr'
    have npr : p ≠ r := ne_of_none upd_same hr'
    have ntr : t ≠ r := fun e => by
      rw [← e, upd_ne npt.symm, upd_same] at hr'
      cases hr'
    refine ⟨_, rfl, p, CC, dx, _, rfl, (by rw [upd_ne npr, upd_same]), T.cl, T.nr, (by show 3 < 1000; decide), ?_⟩
    refine k _ t r ?_ ?_ ?_ fun b o e hb => ?_
    · rw [upd_same]
      rfl
    · rw [upd_ne npt.symm, upd_ne ntr, upd_ne npt.symm, upd_same]
    · rw [upd_ne npr.symm, upd_same]
    · have h1 : upd (upd H p (.ins CC dx (putF "wide" (.int 2) []))) p (.ins CC dx (putF "high" (.int 2) (putF "wide" (.int 2) []))) b = some o := by rw [upd_ne hb, upd_ne hb]; exact e
      have h2 : b ≠ t := ne_of_none h1 ht
      have h3 : upd (upd (upd (upd H p (.ins CC dx (putF "wide" (.int 2) []))) p (.ins CC dx (putF "high" (.int 2) (putF "wide" (.int 2) [])))) t (.lst [])) p (.ins CC dx (putF "towers" (.ref t) (putF "high" (.int 2) (putF "wide" (.int 2) [])))) b = some o := by
        rw [upd_ne hb, upd_ne h2]
        exact h1
      rw [upd_ne hb, upd_ne (ne_of_none h3 hr')]
      exact h3
/-! ### begin -/
abbrev sBegin : Stmt := inClass (top 35) 1
def spBegin (K : PySem.W.Frag) (CC CT : Addr) : Sp := fun vs H Q _ => ∃ (z : CA) (s : Uw35.Country) (a b : Nat), vs = [.ref z.c, .int a, .int b] ∧ Full K CC CT H z s ∧ COk s ∧
  ∀ (H' : Hp) (z' : CA), Full K CC CT H' z' (Uw35.step s (.begins a b)).1 → COk (Uw35.step s (.begins a b)).1 → Kp H H' z z' → Q (.int (Uw35.step s (.begins a b)).2.v) H'
theorem scBegin : FnScope ["self", "wide", "high"] ["self", "wide", "high"] (defScope sBegin) := ⟨rfl, rfl, rfl, by decide +kernel, rfl, by decide +kernel, by decide +kernel⟩
theorem step_begins (s : Uw35.Country) (a b : Nat) : Uw35.step s (.begins a b) = if a < 2 ∨ Uw35.SIDE < a ∨ b < 2 ∨ Uw35.SIDE < b then (s, Uw35.ok (-1)) else (⟨a, b, [], []⟩, Uw35.ok 0) := rfl
theorem ok_begin {f : Addr} {fd : FuncData} (F : Fun K "begin" "Country.begin" sBegin f fd) (T : CTxt K CC) (FS : Fn P w K mg base "is_side" 1 ["length"] spSide) (c1 : CInt mg "OUT_OF_BOUNDS" (-1)) :
    FnOk P w K mg base CX0 2 f fd ["self", "wide", "high"] (spBegin K CC CT) := by
  refine F.ok scBegin (fun vs H Q E h => ?_) (fun cdv A outer s H vs Q E hr h => ?_)
  · obtain ⟨z, s, a, b, rfl, _⟩ := h
    rfl
  · obtain ⟨z, c, a, b, rfl, hF, ok, q⟩ := h
    have hC := hF.core
    refine ⟨_, pss_cons (ps_if (PW.pt (pw_or (pt_not (pt_val (pe_fn FS hr rfl (pa_cons (pv 1) pa_nil)))) (pw_or1 (pt_not (pt_val (pe_fn FS hr rfl (pa_cons (pv 2) pa_nil))))))) (pss_one (ps_ret (pe_cint c1 rfl))) pss_nil)
      (pss_cons (ps_fld (pv 0) (pv 1) rfl) (pss_cons (ps_fld (pv 0) (pv 2) rfl) (pss_cons (ps_fld (pv 0) (pe_lst pa_nil) rfl) (pss_cons (ps_fld (pv 0) pe_dnewK rfl) (pss_one (ps_ret pe_int)))))), ?_⟩
    rw [step_begins] at q
    have e8 : Uw35.SIDE = 8 := rfl
    refine ⟨_, rfl, a, rfl, _, rfl, ?_⟩
    refine ite2 (fun h => ?_) (fun h => ?_)
    · have h' : ¬ (2 ≤ a ∧ a ≤ 8) := by simp at h; omega
      rw [if_pos (by rw [e8]; omega)] at q
      exact iteT (q H z hF ok (Kp.same (Same.refl _)))
    · have h' : 2 ≤ a ∧ a ≤ 8 := by simpa using h
      refine ⟨_, rfl, b, rfl, _, rfl, ?_⟩
      refine ite2 (fun h2 => ?_) (fun h2 => ?_)
      · have h2' : ¬ (2 ≤ b ∧ b ≤ 8) := by simp at h2; omega
        rw [if_pos (by rw [e8]; omega)] at q
        exact q H z hF ok (Kp.same (Same.refl _))
      · have h2' : 2 ≤ b ∧ b ≤ 8 := by simpa using h2
        have hn : ¬ (a < 2 ∨ Uw35.SIDE < a ∨ b < 2 ∨ Uw35.SIDE < b) := by rw [e8]; omega
        rw [if_neg hn] at q
        refine ⟨_, rfl, _, rfl, z.c, CC, z.dx, _, rfl, hC.obj, T.cl, T.nw, (by show 4 < 1000; decide), ?_⟩
        rw [cf_w]
        refine ⟨_, rfl, _, rfl, z.c, CC, z.dx, _, rfl, upd_same, T.cl, T.nh, (by show 4 < 1000; decide), ?_⟩
        rw [cf_h, upd_upd]
        refine ⟨Nat.zero_le _, fun t ht => ?_⟩
        have npt : z.c ≠ t := ne_of_none upd_same ht
        refine ⟨_, rfl, z.c, CC, z.dx, _, rfl, (by rw [upd_ne npt, upd_same]), T.cl, T.nt, (by show 4 < 1000; decide), ?_⟩
        rw [cf_t]
        intro r hr'
        have npr : z.c ≠ r := ne_of_none upd_same hr'
        have ntr : t ≠ r := fun e => by
          rw [← e, upd_ne npt.symm, upd_same] at hr'
          cases hr'
        refine ⟨_, rfl, z.c, CC, z.dx, _, rfl, (by rw [upd_ne npr, upd_same]), T.cl, T.nr, (by show 4 < 1000; decide), ?_⟩
        rw [cf_r]
        have kept : ∀ b' o, H b' = some o → b' ≠ z.c → b' ≠ t ∧ b' ≠ r := fun b' o e hb => by
          have h1 : upd H z.c (.ins CC z.dx (cf (.int a) (.int b) (.ref z.t) (.ref z.r))) b' = some o := by rw [upd_ne hb]; exact e
          have h2 : b' ≠ t := ne_of_none h1 ht
          refine ⟨h2, ?_⟩
          have h3 : upd (upd (upd H z.c (.ins CC z.dx (cf (.int a) (.int b) (.ref z.t) (.ref z.r)))) t (.lst [])) z.c (.ins CC z.dx (cf (.int a) (.int b) (.ref t) (.ref z.r))) b' = some o := by
            rw [upd_ne hb, upd_ne h2]
            exact h1
          exact ne_of_none h3 hr'
        obtain ⟨xs, hx⟩ := hC.lst
        have nlc : z.l ≠ z.c := ne_of hx hC.obj (by intro z; cases z)
        have kl := kept _ _ hx nlc
        refine q _ ⟨z.c, z.dx, t, r, z.l⟩ ⟨⟨upd_same, ⟨xs, ?_⟩, kl.1, [], ?_, .nil⟩, ?_⟩ (begin_ok hn) ⟨rfl, rfl, fun b' o e h1 h2 h3 => ⟨?_, (kept b' o e h1).1, (kept b' o e h1).2⟩⟩
        · show (upd _ z.c _) z.l = _
          rw [upd_ne nlc, upd_ne kl.2, upd_ne nlc, upd_ne kl.1, upd_ne nlc]
          exact hx
        · show (upd _ z.c _) t = _
          rw [upd_ne npt.symm, upd_ne ntr, upd_ne npt.symm, upd_same]
          rfl
        · show (upd _ z.c _) r = _
          rw [upd_ne npr.symm, upd_same]
          rfl
        · rw [upd_ne h1, upd_ne (kept b' o e h1).2, upd_ne h1, upd_ne (kept b' o e h1).1, upd_ne h1]
          exact e
end
end Fw
set_option Elab.async false
set_option linter.all false
set_option maxRecDepth 100000
set_option maxHeartbeats 2000000
namespace Fw
open PySem PySem.Spec PyProof.Rows L2
section
variable {P : Program} {w : World} {K : PySem.W.Frag} {mg : Str → Option Value} {base : Heap} {CC CT : Addr}
/-- a class of the text that can be made -/
structure Kl (P : Program) (w : World) (K : PySem.W.Frag) (mg : Str → Option Value) (base : Heap) (x : Str) (C : Addr) (k : Nat) (ps : List Str) (sp : Sp) : Prop where
  ex : ∃ f fd, mg x = some (.ref C) ∧ Mk K C f ∧ Binds K fd ps [] ∧ FnOk P w K mg base CX0 k f fd ps sp
theorem pe_kl {X : Cx} {k : Nat} {x : Str} {ps : List Str} {sp : Sp} {p pos : Pos} {e : Expr} {es : List Expr} {t : TA} {C : Addr} (M : Kl X.prog X.w X.K X.mg X.base x C k ps sp) (hr : Room (k + 1) X.A) (hg : Gl X x) (ha : PA X (e :: es) t) (hdb : (x == ("__debug__" : Str)) = false := by decide)
    (he : starEach (e :: es) X.env = (false, eval e X.env) :: starEach es X.env := by rfl) (hpl : (backTo pos (starEach es X.env)).any (·.1) = false := by rfl) :
    PE X (.Call (.Name x p) (e :: es) [] pos) (tMake C sp [] E0 t) := by
  obtain ⟨f, fd, h1, h2, h3, h4⟩ := M.ex
  exact pe_make h2 h4 hr hg h1 h3 .nil pass0 ha hdb he hpl
theorem pe_kl0 {X : Cx} {k : Nat} {x : Str} {ps : List Str} {sp : Sp} {p pos : Pos} {C : Addr} (M : Kl X.prog X.w X.K X.mg X.base x C k ps sp) (hr : Room (k + 1) X.A) (hg : Gl X x) (hdb : (x == ("__debug__" : Str)) = false := by decide) :
    PE X (.Call (.Name x p) [] [] pos) (tMake C sp [] E0 tNil) := by
  obtain ⟨f, fd, h1, h2, h3, h4⟩ := M.ex
  exact pe_make0 h2 h4 hr hg h1 h3 .nil pass0 hdb
/-! ### add_tower -/
abbrev sAdd : Stmt := inClass (top 35) 2
def spAdd (K : PySem.W.Frag) (CC CT : Addr) : Sp := fun vs H Q _ => ∃ (z : CA) (s : Uw35.Country) (x y far : Nat) (a : Addr) (ns : List Nat), vs = [.ref z.c, .int x, .int y, .int far, .ref a] ∧ SqL K H a (ns.map nat2V) ∧ ns.length ≤ 20 ∧ Full K CC CT H z s ∧ COk s ∧
  ∀ (H' : Hp) (z' : CA), Full K CC CT H' z' (Uw35.step s (.tower x y far ns)).1 → COk (Uw35.step s (.tower x y far ns)).1 → Kp H H' z z' → Q (.int (Uw35.step s (.tower x y far ns)).2.v) H'
theorem scAdd : FnScope ["self", "x", "y", "far", "numbers", "marks"] ["self", "x", "y", "far", "numbers"] (defScope sAdd) := ⟨rfl, rfl, rfl, by decide +kernel, rfl, by decide +kernel, by decide +kernel⟩
theorem ok_add {f : Addr} {fd : FuncData} (F : Fun K "add_tower" "Country.add_tower" sAdd f fd) (T : CTxt K CC) (FN : Fn P w K mg base "are_mark_numbers" 1 ["numbers"] (spNums K)) (FM : Fn P w K mg base "marks_from" 1 ["numbers"] (spMarks K))
    (FG : Fn P w K mg base "go_round" 3 ["marks"] (spGo K)) (MT : Kl P w K mg base "Tower" CT 1 ["self", "x", "y", "far", "marks"] (spTI CT)) (ml : mg "len" = none)
    (c1 : CInt mg "FARTHEST" 200) (c2 : CInt mg "OUT_OF_BOUNDS" (-1)) (c3 : CInt mg "MARKS_NOT_ROUND" (-3)) (c4 : CInt mg "MOST_TOWERS" 5) (c5 : CInt mg "TOO_MANY_TOWERS" (-5)) :
    FnOk P w K mg base CX0 4 f fd ["self", "x", "y", "far", "numbers"] (spAdd K CC CT) := by
  refine F.ok scAdd (fun vs H Q E h => ?_) (fun cdv A outer s H vs Q E hr h => ?_)
  · obtain ⟨z, s, x, y, far, a, ns, rfl, _⟩ := h
    rfl
  · obtain ⟨z, c, x, y, far, a, ns, rfl, hL, h20, hF, ok, q⟩ := h
    have hC := hF.core
    have hr1 := hr.mono (show 1 ≤ 3 by omega)
    refine ⟨_, pss_cons (ps_if (PW.pt (pw_or (pt_cmpR op_ge (pv 1) (pe_fld (pv 0) rfl) (nomark _)) (pw_or (pt_cmpR op_ge (pv 2) (pe_fld (pv 0) rfl) (nomark _)) (pw_or (pt_cmpR op_gt (pv 3) (pe_cint c1 rfl) (nomark _))
        (pw_or1 (pt_not (pt_val (pe_fn FN hr1 rfl (pa_cons (pv 4) pa_nil))))))))) (pss_one (ps_ret (pe_cint c2 rfl))) pss_nil)
      (pss_cons (ps_set (i := 5) scAdd.nd rfl (Or.inl rfl) (pe_fn FM hr1 rfl (pa_cons (pv 4) pa_nil)))
      (pss_cons (ps_if (pt_not (pt_val (pe_fn FG hr rfl (pa_cons (pv 5) pa_nil)))) (pss_one (ps_ret (pe_cint c3 rfl))) pss_nil)
      (pss_cons (ps_if (pt_cmpR op_ge (pe_callB call_len_seq rfl ml PySem.boot_len (pa_cons (pe_fld (pv 0) rfl) pa_nil)) (pe_cint c4 rfl) (nomark _)) (pss_one (ps_ret (pe_cint c5 rfl))) pss_nil)
      (pss_cons (ps_expr (pe_bm PySem.F.plainAttrs_list PySem.F.slot_list_append PySem.F.type_list_append mt_append (pe_fld (pv 0) rfl) (pa_cons (pe_kl MT (hr.mono (show 2 ≤ 3 by omega)) rfl (pa_cons (pv 1) (pa_cons (pv 2) (pa_cons (pv 3) (pa_cons (pv 5) pa_nil))))) pa_nil)))
      (pss_one (ps_ret (pe_op op_sub (pe_callB call_len_seq rfl ml PySem.boot_len (pa_cons (pe_fld (pv 0) rfl) pa_nil)) pe_int))))))), ?_⟩
    rw [step_tower] at q
    have e200 : Uw35.FAR = 200 := rfl
    have e8 : Uw35.MARKS = 8 := rfl
    have e5 : Uw35.TOWERS = 5 := rfl
    obtain ⟨ts, hTL, hTP⟩ := hC.tws
    have hlen : ts.length = c.towers.length := Paired.length hTP
    have eL : ((ts.map V.ref).length : Int) = (c.towers.length : Nat) := by rw [List.length_map, hlen]
    have bad : (c.wide ≤ x ∨ c.high ≤ y ∨ Uw35.FAR < far ∨ 2 * Uw35.MARKS < ns.length ∨ ns.length % 2 = 1 ∨ (ns.all fun n => decide (n ≤ 20)) = false) → ∀ H' : Hp, Same H H' → Q (.int (-1)) H' := fun hb H' sm => by
      rw [if_pos hb] at q
      exact q H' z (hF.same sm) ok (Kp.same sm)
    refine ⟨_, rfl, _, rfl, z.c, CC, z.dx, _, _, rfl, hC.obj, T.cl, T.nw, cf_wide _ _ _ _, _, _, rfl, rfl, _, rfl, ?_⟩
    refine ite2 (fun h => ?_) (fun h => ?_)
    · rw [decide_eq_true_iff] at h
      exact iteT (bad (.inl (by omega)) _ (Same.refl _))
    rw [decide_eq_true_iff] at h
    refine ⟨_, rfl, _, rfl, z.c, CC, z.dx, _, _, rfl, hC.obj, T.cl, T.nh, cf_high _ _ _ _, _, _, rfl, rfl, _, rfl, ?_⟩
    refine ite2 (fun h2 => ?_) (fun h2 => ?_)
    · rw [decide_eq_true_iff] at h2
      exact iteT (bad (.inr (.inl (by omega))) _ (Same.refl _))
    rw [decide_eq_true_iff] at h2
    refine ⟨_, rfl, _, _, rfl, rfl, _, rfl, ?_⟩
    refine ite2 (fun h3 => ?_) (fun h3 => ?_)
    · rw [decide_eq_true_iff] at h3
      exact iteT (bad (.inr (.inr (.inl (by omega)))) _ (Same.refl _))
    rw [decide_eq_true_iff] at h3
    refine ⟨_, rfl, a, ns, rfl, hL, h20, fun H1 s1 => ⟨_, rfl, ?_⟩⟩
    refine ite2 (fun h4 => ?_) (fun h4 => ?_)
    · have h4' : numsOk ns = false := by simpa using h4
      refine bad (.inr (.inr (.inr ?_))) _ s1
      unfold numsOk at h4'
      rw [Bool.and_eq_false_iff, Bool.and_eq_false_iff, decide_eq_false_iff_not, decide_eq_false_iff_not] at h4'
      rcases h4' with (z | z) | z
      · exact .inr (.inl (by omega))
      · exact .inl (by omega)
      · exact .inr (.inr z)
    have h4' : numsOk ns = true := by simpa using h4
    unfold numsOk at h4'
    rw [Bool.and_eq_true, Bool.and_eq_true, decide_eq_true_iff, decide_eq_true_iff] at h4'
    obtain ⟨⟨h41, h42⟩, h43⟩ := h4'
    have hn1 : ¬ (c.wide ≤ x ∨ c.high ≤ y ∨ Uw35.FAR < far ∨ 2 * Uw35.MARKS < ns.length ∨ ns.length % 2 = 1 ∨ (ns.all fun n => decide (n ≤ 20)) = false) := by
      rintro (z | z | z | z | z | z)
      · omega
      · omega
      · omega
      · omega
      · omega
      · rw [h43] at z; cases z
    rw [if_neg hn1] at q
    have small := vectors_small (ns := ns) fun n hn => of_decide_eq_true (List.all_eq_true.mp h43 n hn)
    have vlen : (Uw35.vectors ns).length ≤ 8 := by rw [vectors_len]; omega
    refine ⟨_, rfl, a, ns, rfl, s1.seq hL, h41, h20, fun H2 m hm0 s2 hM => ?_⟩
    have s12 := s1.trans s2
    refine ⟨_, rfl, m, Uw35.vectors ns, rfl, hM, small, by omega, fun H3 s3 => ⟨_, rfl, ?_⟩⟩
    have s13 := s12.trans s3
    refine ite2 (fun h5 => ?_) (fun h5 => ?_)
    · have h5' : Uw35.goodMarks (Uw35.vectors ns) = false := by simpa using h5
      rw [if_pos h5'] at q
      exact q H3 z (hF.same s13) ok (Kp.same s13)
    have h5' : Uw35.goodMarks (Uw35.vectors ns) = true := by simpa using h5
    rw [if_neg (by rw [h5']; exact fun z => by cases z)] at q
    refine ⟨_, rfl, z.c, CC, z.dx, _, _, rfl, s13 _ _ hC.obj, T.cl, T.nt, cf_towers _ _ _ _, z.t, _, rfl, .inl (SqL.of (s13 _ _ hTL)), _, _, rfl, rfl, _, rfl, ?_⟩
    rw [eL]
    refine ite2 (fun h6 => ?_) (fun h6 => ?_)
    · rw [decide_eq_true_iff] at h6
      rw [if_pos (by omega)] at q
      exact q H3 z (hF.same s13) ok (Kp.same s13)
    rw [decide_eq_true_iff] at h6
    have h6' : ¬ Uw35.TOWERS ≤ c.towers.length := by omega
    rw [if_neg h6'] at q
    refine ⟨_, rfl, z.c, CC, z.dx, _, _, rfl, s13 _ _ hC.obj, T.cl, T.nt, cf_towers _ _ _ _, .inl ⟨rfl, _, SqL.of (s13 _ _ hTL)⟩, _, rfl, _, rfl, _, rfl, _, rfl, ?_⟩
    intro o dx ho hdx hne
    refine ⟨o, dx, _, _, _, _, rfl, upd_same, fun H4 h4o h4k h4n => ⟨rfl, ?_⟩⟩
    have s4 : Same H3 H4 := Same.made ho hdx h4k
    have s14 := s13.trans s4
    have hT4 := s14 _ _ hTL
    have tow : TOk ⟨x, y, far, Uw35.vectors ns⟩ := ⟨by show x ≤ 8; have := ok.w8; omega, by show y ≤ 8; have := ok.h8; omega, vlen, h5'⟩
    have no : z.t ≠ o := ne_of hT4 h4o (by intro z; cases z)
    refine ⟨z.t, _, _, rfl, rfl, hT4, szlt (by have := ok.tl; rw [List.length_map]; omega), ?_⟩
    have nc : z.c ≠ z.t := ne_of hC.obj hTL (by intro z; cases z)
    have nr : z.r ≠ z.t := ne_of hF.rep hTL (by intro z; cases z)
    obtain ⟨xs, hx⟩ := hC.lst
    have mt : m ≠ z.t := (ne_of_none (s1 _ _ hTL) hm0).symm
    have mL : m ≠ z.l := (ne_of_none (s1 _ _ hx) hm0).symm
    have hobj5 : upd H4 z.t (.lst (ts.map V.ref ++ [.ref o])) z.c = some (.ins CC z.dx (cf (.int c.wide) (.int c.high) (.ref z.t) (.ref z.r))) := by rw [upd_ne nc]; exact s14 _ _ hC.obj
    refine ⟨_, rfl, z.c, CC, z.dx, _, _, rfl, hobj5, T.cl, T.nt, cf_towers _ _ _ _, z.t, _, rfl, .inl (SqL.of upd_same), _, _, rfl, rfl, ?_⟩
    have ev : (((ts.map V.ref ++ [V.ref o]).length : Int) - 1) = (c.towers.length : Nat) := by
      rw [List.length_append, List.length_map, List.length_singleton, hlen]
      omega
    show Q (.int (((ts.map V.ref ++ [V.ref o]).length : Int) - 1)) _
    rw [ev]
    have newT : TowIn K CT H4 z o ⟨x, y, far, Uw35.vectors ns⟩ := ⟨dx, m, h4o, (hM.same s3).same s4, mt, mL⟩
    have oldT : Paired (fun a tw => TowIn K CT H4 z a tw) ts c.towers := Paired.mapP hTP fun a tw h => h.sameD (same_toD s14)
    refine q _ z ⟨⟨hobj5, ⟨xs, by rw [upd_ne hC.lt]; exact s14 _ _ hx⟩, hC.lt, ts ++ [o], by rw [upd_same, List.map_append]; rfl, ?_⟩, ?_⟩ (withTow_ok ok tow h6') ⟨rfl, rfl, fun b o' e h1 h2 h3 => ⟨?_, h2, h3⟩⟩
    · exact Paired.snoc (Paired.mapP oldT fun a tw h => h.upd hT4 (.inl rfl)) (newT.upd hT4 (.inl rfl))
    · show upd H4 z.t _ z.r = some (.dK (repK (withTow c _)))
      rw [withTow_repK ok, upd_ne nr]
      exact s14 _ _ hF.rep
    · rw [upd_ne h2]
      exact s14 b o' e
end
end Fw
set_option Elab.async false
set_option linter.all false
set_option maxHeartbeats 2000000
namespace Fw
open Uw35 (Country Call)
/-! ### a call as numbers -/
def nums : Call → List Nat
  | .begins a b => [0, a, b]
  | .tower x y f l => 1 :: x :: y :: f :: l.length :: l
  | .report i s => [2, i, s]
  | .may => [3]
  | .sees i p => [4, i, p]
  | .ask => [5]
  | .depth => [6]
/-- as the document has it: no count -/
def plainN : Call → List Nat
  | .begins a b => [0, a, b]
  | .tower x y f l => 1 :: x :: y :: f :: l
  | .report i s => [2, i, s]
  | .may => [3]
  | .sees i p => [4, i, p]
  | .ask => [5]
  | .depth => [6]
/-- lists are short -/
def Fit : Call → Prop
  | .tower _ _ _ l => l.length ≤ 20
  | _ => True
def castL (l : List Nat) : List Int := l.map fun (n : Nat) => (n : Int)
def low (n : Nat) : Prop := n < 4294967296
theorem castL_nat {l : List Nat} (h : ∀ n ∈ l, low n) : (castL l).all Uw35Neutral.nat = true := by
  rw [List.all_eq_true]
  intro z hz
  obtain ⟨n, hn, rfl⟩ := List.mem_map.mp hz
  have := h n hn
  unfold low at this
  unfold Uw35Neutral.nat
  rw [Bool.and_eq_true, decide_eq_true_iff, decide_eq_true_iff]
  omega
theorem castL_back (l : List Nat) : (castL l).map Int.toNat = l := by
  unfold castL
  rw [List.map_map]
  induction l with
  | nil => rfl
  | cons a r ih =>
    rw [List.map_cons, ih]
    rfl
theorem callOf_plain {x : Call} (h : ∀ n ∈ plainN x, low n) (hf : Fit x) : Uw35Neutral.callOf (castL (plainN x)) = some x := by
  unfold Uw35Neutral.callOf
  rw [if_neg (by rw [castL_nat h]; exact fun z => by cases z), castL_back]
  cases x with
  | tower a b f l =>
    show (if l.length ≤ 20 then some (Call.tower a b f l) else none) = _
    rw [if_pos (show l.length ≤ 20 from hf)]
  | _ => rfl
/-- a line of calls, played -/
def play : Country → List Call → List (List Int)
  | _, [] => []
  | s, x :: r => Uw35Neutral.out (Uw35.step s x).2 :: play (Uw35.step s x).1 r
theorem nat_of {z : Int} (h : PyInside.within 0 4294967295 z = true) : ∃ n : Nat, z = (n : Int) ∧ low n := by
  unfold PyInside.within at h
  rw [Bool.and_eq_true, decide_eq_true_iff, decide_eq_true_iff] at h
  exact ⟨z.toNat, by omega, by unfold low; omega⟩
theorem nats_of : ∀ {l : List Int}, l.all (PyInside.within 0 4294967295) = true → ∃ ns : List Nat, l = castL ns ∧ ∀ n ∈ ns, low n
  | [], _ => ⟨[], rfl, fun n h => by cases h⟩
  | z :: l, h => by
    rw [List.all_cons, Bool.and_eq_true] at h
    obtain ⟨n, e, hn⟩ := nat_of h.1
    obtain ⟨ns, e', hns⟩ := nats_of h.2
    refine ⟨n :: ns, by rw [e, e']; rfl, fun m hm => ?_⟩
    rcases List.mem_cons.mp hm with rfl | hm
    · exact hn
    · exact hns m hm
/-- one call is read -/
theorem call_read {l : List Int} {c : List (List Int)} {t : List Int} (h : PyFlat.call PyUw35.shape l = some (c, t)) (hb : PyInside.call PyUw35.bound c = true) :
    ∃ x : Call, l = castL (nums x) ++ t ∧ (PyUw35.whole c).headD [] = castL (plainN x) ∧ (∀ n ∈ plainN x, low n) ∧ Fit x := by
  cases l with
  | nil => cases h
  | cons p r =>
    have h' : (match PyUw35.shape p with
      | none => none
      | some (n, k) => if r.length < n then none else match PyFlat.rows k (r.drop n) with
        | none => none
        | some (xs, t) => some ((p :: r.take n) :: xs, t)) = some (c, t) := h
    have two : ∀ (q : Int), (if r.length < 2 then none else match PyFlat.rows 0 (r.drop 2) with
        | none => none
        | some (xs, t) => some ((q :: r.take 2) :: xs, t)) = some (c, t) → ∃ a b : Int, r = a :: b :: t ∧ c = [[q, a, b]] := fun q e => by
      match r, e with
      | [], e => cases e
      | [_], e => cases e
      | a :: b :: r', e =>
        have e2 : some ([[q, a, b]], r') = some (c, t) := e
        have e3 := Prod.mk.inj (Option.some.inj e2)
        exact ⟨a, b, by rw [e3.2], e3.1.symm⟩
    have zero : ∀ (q : Int), (if r.length < 0 then none else match PyFlat.rows 0 (r.drop 0) with
        | none => none
        | some (xs, t) => some ((q :: r.take 0) :: xs, t)) = some (c, t) → r = t ∧ c = [[q]] := fun q e => by
      have e2 : some ([[q]], r) = some (c, t) := e
      have e3 := Prod.mk.inj (Option.some.inj e2)
      exact ⟨e3.2, e3.1.symm⟩
    have pair : ∀ {a b : Int}, PyInside.within 0 4294967295 a = true ∧ PyInside.within 0 4294967295 b = true → ∃ m n : Nat, a = m ∧ b = n ∧ low m ∧ low n := fun h => by
      obtain ⟨m, e1, l1⟩ := nat_of h.1
      obtain ⟨n, e2, l2⟩ := nat_of h.2
      exact ⟨m, n, e1, e2, l1, l2⟩
    unfold PyUw35.shape at h'
    by_cases p0 : p = 0
    · subst p0
      obtain ⟨a, b, e1, e2⟩ := two 0 h'
      subst e2
      have hb' : ((PyInside.within 0 4294967295 a && (PyInside.within 0 4294967295 b && true)) && true) = true := hb
      simp only [Bool.and_true, Bool.and_eq_true] at hb'
      obtain ⟨m, n, rfl, rfl, l1, l2⟩ := pair hb'
      refine ⟨.begins m n, by rw [e1]; rfl, rfl, fun k hk => ?_, trivial⟩
      have hk' : k ∈ [0, m, n] := hk
      simp at hk'
      rcases hk' with rfl | rfl | rfl
      · unfold low; omega
      · exact l1
      · exact l2
    rw [if_neg p0] at h'
    by_cases p1 : p = 1
    · subst p1
      rw [if_pos rfl] at h'
      match r, h' with
      | [], e => cases e
      | [_], e => cases e
      | [_, _], e => cases e
      | [a, b, f], e => cases e
      | a :: b :: f :: n :: r', e =>
        by_cases hn : 0 ≤ n ∧ n.toNat ≤ r'.length
        · have er : PyFlat.rows 1 (n :: r') = some ([r'.take n.toNat], r'.drop n.toNat) := by
            show (match (if 0 ≤ n ∧ n.toNat ≤ r'.length then some (r'.take n.toNat, r'.drop n.toNat) else none) with
              | none => none
              | some (x, s) => match PyFlat.rows 0 s with
                | none => none
                | some (xs, t) => some (x :: xs, t)) = _
            rw [if_pos hn]
            rfl
          have e1 : (match PyFlat.rows 1 (n :: r') with
              | none => none
              | some (xs, t) => some (([1, a, b, f] : List Int) :: xs, t)) = some (c, t) := e
          rw [er] at e1
          have e3 := Prod.mk.inj (Option.some.inj e1)
          have ec : c = [[1, a, b, f], r'.take n.toNat] := e3.1.symm
          subst ec
          have hb' : ((PyInside.within 0 4294967295 a && (PyInside.within 0 4294967295 b && (PyInside.within 0 4294967295 f && true))) && (decide (0 ≤ (r'.take n.toNat).length) && decide ((r'.take n.toNat).length ≤ 20) && (r'.take n.toNat).all (PyInside.within 0 4294967295) && true)) = true := hb
          simp only [Bool.and_true, Bool.and_eq_true, decide_eq_true_iff] at hb'
          obtain ⟨⟨ha, hbb, hf⟩, ⟨_, h20⟩, hall⟩ := hb'
          obtain ⟨m1, rfl, l1⟩ := nat_of ha
          obtain ⟨m2, rfl, l2⟩ := nat_of hbb
          obtain ⟨m3, rfl, l3⟩ := nat_of hf
          obtain ⟨ns, en, hns⟩ := nats_of hall
          have hlen : (r'.take n.toNat).length = n.toNat := by rw [List.length_take]; omega
          have hl2 : ns.length = n.toNat := by
            rw [← hlen, en]
            unfold castL
            rw [List.length_map]
          refine ⟨.tower m1 m2 m3 ns, ?_, ?_, fun k hk => ?_, ?_⟩
          · have e4 : r' = castL ns ++ t := by rw [← en, ← e3.2, List.take_append_drop]
            have e5 : n = ((ns.length : Nat) : Int) := by omega
            rw [e4, e5]
            rfl
          · rw [en]
            show [1] ++ [(m1 : Int)] ++ [(m2 : Int)] ++ [(m3 : Int)] ++ castL ns = _
            rfl
          · have hk' : k ∈ 1 :: m1 :: m2 :: m3 :: ns := hk
            simp at hk'
            rcases hk' with rfl | rfl | rfl | rfl | hk'
            · unfold low; omega
            · exact l1
            · exact l2
            · exact l3
            · exact hns k hk'
          · show ns.length ≤ 20
            omega
        · have er : PyFlat.rows 1 (n :: r') = none := by
            show (match (if 0 ≤ n ∧ n.toNat ≤ r'.length then some (r'.take n.toNat, r'.drop n.toNat) else none) with
              | none => none
              | some (x, s) => match PyFlat.rows 0 s with
                | none => none
                | some (xs, t) => some (x :: xs, t)) = _
            rw [if_neg hn]
          have e1 : (match PyFlat.rows 1 (n :: r') with
              | none => none
              | some (xs, t) => some (([1, a, b, f] : List Int) :: xs, t)) = some (c, t) := e
          rw [er] at e1
          cases e1
    rw [if_neg p1] at h'
    by_cases p2 : p = 2
    · subst p2
      obtain ⟨a, b, e1, e2⟩ := two 2 h'
      subst e2
      have hb' : ((PyInside.within 0 4294967295 a && (PyInside.within 0 4294967295 b && true)) && true) = true := hb
      simp only [Bool.and_true, Bool.and_eq_true] at hb'
      obtain ⟨m, n, rfl, rfl, l1, l2⟩ := pair hb'
      refine ⟨.report m n, by rw [e1]; rfl, rfl, fun k hk => ?_, trivial⟩
      have hk' : k ∈ [2, m, n] := hk
      simp at hk'
      rcases hk' with rfl | rfl | rfl
      · unfold low; omega
      · exact l1
      · exact l2
    rw [if_neg p2] at h'
    by_cases p3 : p = 3
    · subst p3
      obtain ⟨e1, e2⟩ := zero 3 h'
      subst e2
      refine ⟨.may, by rw [e1]; rfl, rfl, fun k hk => ?_, trivial⟩
      have hk' : k ∈ [3] := hk
      simp at hk'
      unfold low; omega
    rw [if_neg p3] at h'
    by_cases p4 : p = 4
    · subst p4
      obtain ⟨a, b, e1, e2⟩ := two 4 h'
      subst e2
      have hb' : ((PyInside.within 0 4294967295 a && (PyInside.within 0 4294967295 b && true)) && true) = true := hb
      simp only [Bool.and_true, Bool.and_eq_true] at hb'
      obtain ⟨m, n, rfl, rfl, l1, l2⟩ := pair hb'
      refine ⟨.sees m n, by rw [e1]; rfl, rfl, fun k hk => ?_, trivial⟩
      have hk' : k ∈ [4, m, n] := hk
      simp at hk'
      rcases hk' with rfl | rfl | rfl
      · unfold low; omega
      · exact l1
      · exact l2
    rw [if_neg p4] at h'
    by_cases p5 : p = 5
    · subst p5
      obtain ⟨e1, e2⟩ := zero 5 h'
      subst e2
      refine ⟨.ask, by rw [e1]; rfl, rfl, fun k hk => ?_, trivial⟩
      have hk' : k ∈ [5] := hk
      simp at hk'
      unfold low; omega
    rw [if_neg p5] at h'
    by_cases p6 : p = 6
    · subst p6
      obtain ⟨e1, e2⟩ := zero 6 h'
      subst e2
      refine ⟨.depth, by rw [e1]; rfl, rfl, fun k hk => ?_, trivial⟩
      have hk' : k ∈ [6] := hk
      simp at hk'
      unfold low; omega
    rw [if_neg p6] at h'
    cases h'
def flatN (xs : List Call) : List Int := (xs.map fun x => castL (nums x)).flatten
theorem calls_read : ∀ (f : Nat) (l : List Int) (raw : List (List (List Int))), PyFlat.calls PyUw35.shape f l = some raw → PyInside.calls PyUw35.bound raw = true →
    ∃ xs : List Call, l = flatN xs ∧ (∀ s : Country, PyFlat.played (fun s c => Uw35Neutral.step s (c.headD [])) s (raw.map PyUw35.whole) = play s xs) ∧ ∀ x ∈ xs, Fit x
  | _, [], raw, h, _ => by
    have h' : some [] = some raw := by
      rw [← h]
      cases ‹Nat› <;> rfl
    cases Option.some.inj h'
    exact ⟨[], rfl, fun s => rfl, fun x h => by cases h⟩
  | 0, _ :: _, raw, h, _ => by cases h
  | f + 1, p :: r, raw, h, hb => by
    have h' : (match PyFlat.call PyUw35.shape (p :: r) with
      | none => none
      | some (c, t) => match PyFlat.calls PyUw35.shape f t with
        | none => none
        | some cs => some (c :: cs)) = some raw := h
    cases e1 : PyFlat.call PyUw35.shape (p :: r) with
    | none => rw [e1] at h'; cases h'
    | some q =>
      obtain ⟨c, t⟩ := q
      rw [e1] at h'
      have h2 : (match PyFlat.calls PyUw35.shape f t with
        | none => none
        | some cs => some (c :: cs)) = some raw := h'
      cases e2 : PyFlat.calls PyUw35.shape f t with
      | none => rw [e2] at h2; cases h2
      | some cs =>
        rw [e2] at h2
        have e3 : c :: cs = raw := Option.some.inj h2
        subst e3
        have hb' : (PyInside.call PyUw35.bound c && PyInside.calls PyUw35.bound cs) = true := hb
        rw [Bool.and_eq_true] at hb'
        obtain ⟨x, ex, ew, hl, hf⟩ := call_read e1 hb'.1
        obtain ⟨xs, exs, ep, hfs⟩ := calls_read f t cs e2 hb'.2
        refine ⟨x :: xs, ?_, fun s => ?_, fun y hy => ?_⟩
        · rw [ex, exs]
          rfl
        · have st : Uw35Neutral.step s ((PyUw35.whole c).headD []) = ((Uw35.step s x).1, Uw35Neutral.out (Uw35.step s x).2) := by
            unfold Uw35Neutral.step
            rw [ew, callOf_plain hl hf]
          show (Uw35Neutral.step s ((PyUw35.whole c).headD [])).2 :: PyFlat.played _ (Uw35Neutral.step s ((PyUw35.whole c).headD [])).1 (cs.map PyUw35.whole) = _
          rw [st, ep]
          rfl
        · rcases List.mem_cons.mp hy with rfl | hy
          · exact hf
          · exact hfs y hy
theorem asked_read {l : List Int} (h : PyUw35.answers_asked l = true) : ∃ xs : List Call, l = flatN xs ∧ PyUw35.answers l = PyFlat.told (play Uw35.init xs) ∧ (∀ x ∈ xs, Fit x) ∧ (PyUw35.answers l).length ≤ 10000000 := by
  unfold PyUw35.answers_asked at h
  cases e : PyFlat.calls PyUw35.shape l.length l with
  | none => rw [e] at h; cases h
  | some raw =>
    rw [e] at h
    simp only [Bool.and_eq_true] at h
    obtain ⟨⟨⟨_, hb⟩, _⟩, hs⟩ := h
    obtain ⟨xs, e1, e2, e3⟩ := calls_read _ _ _ e hb
    refine ⟨xs, e1, ?_, e3, of_decide_eq_true hs⟩
    unfold PyUw35.answers PyUw35.calls
    rw [e]
    show PyFlat.told (PyFlat.played (fun s c => Uw35Neutral.step s (c.headD [])) Uw35Neutral.start (raw.map PyUw35.whole)) = _
    rw [e2]
    rfl
end Fw
set_option Elab.async false
set_option linter.all false
set_option maxRecDepth 100000
set_option maxHeartbeats 2000000
namespace Fw
open PySem PySem.Spec PyProof.Rows L2
open Uw35 (Call)
def kindN (x : Call) : Nat := (nums x).headD 0
theorem nums_kind (x : Call) : (nums x)[0]? = some (kindN x) := by cases x <;> rfl
theorem kind_le (x : Call) : kindN x ≤ 6 := by
  cases x with
  | begins a b => show 0 ≤ 6; omega
  | tower a b f l => show 1 ≤ 6; omega
  | report i s => show 2 ≤ 6; omega
  | may => show 3 ≤ 6; omega
  | sees i p => show 4 ≤ 6; omega
  | ask => show 5 ≤ 6; omega
  | depth => show 6 ≤ 6; omega
theorem len_three {x : Call} (h : kindN x = 0 ∨ kindN x = 2 ∨ kindN x = 4) : (nums x).length = 3 := by
  cases x with
  | begins a b => rfl
  | tower a b f l => exact absurd h (by show ¬ (1 = 0 ∨ 1 = 2 ∨ 1 = 4); omega)
  | report i s => rfl
  | may => exact absurd h (by show ¬ (3 = 0 ∨ 3 = 2 ∨ 3 = 4); omega)
  | sees i p => rfl
  | ask => exact absurd h (by show ¬ (5 = 0 ∨ 5 = 2 ∨ 5 = 4); omega)
  | depth => exact absurd h (by show ¬ (6 = 0 ∨ 6 = 2 ∨ 6 = 4); omega)
theorem len_tower {x : Call} (h : kindN x = 1) : ∃ n, (nums x)[4]? = some n ∧ (nums x).length = 5 + n := by
  cases x with
  | begins a b => exact absurd h (by show ¬ 0 = 1; omega)
  | tower a b f l => exact ⟨l.length, rfl, by show l.length + 1 + 1 + 1 + 1 + 1 = 5 + l.length; omega⟩
  | report i s => exact absurd h (by show ¬ 2 = 1; omega)
  | may => exact absurd h (by show ¬ 3 = 1; omega)
  | sees i p => exact absurd h (by show ¬ 4 = 1; omega)
  | ask => exact absurd h (by show ¬ 5 = 1; omega)
  | depth => exact absurd h (by show ¬ 6 = 1; omega)
theorem len_one {x : Call} (h : kindN x = 3 ∨ kindN x = 5 ∨ kindN x = 6) : (nums x).length = 1 := by
  cases x with
  | begins a b => exact absurd h (by show ¬ (0 = 3 ∨ 0 = 5 ∨ 0 = 6); omega)
  | tower a b f l => exact absurd h (by show ¬ (1 = 3 ∨ 1 = 5 ∨ 1 = 6); omega)
  | report i s => exact absurd h (by show ¬ (2 = 3 ∨ 2 = 5 ∨ 2 = 6); omega)
  | may => rfl
  | sees i p => exact absurd h (by show ¬ (4 = 3 ∨ 4 = 5 ∨ 4 = 6); omega)
  | ask => rfl
  | depth => rfl
theorem get_mid {pre post : List Int} {ns : List Nat} {j n : Nat} (h : ns[j]? = some n) : ((pre ++ (castL ns ++ post)).map V.int)[pre.length + j]? = some (.int (n : Int)) := by
  have hj : j < ns.length := (List.getElem?_eq_some_iff.mp h).1
  rw [List.getElem?_map, List.getElem?_append_right (by omega), show pre.length + j - pre.length = j by omega, List.getElem?_append_left (by unfold castL; rw [List.length_map]; exact hj)]
  unfold castL
  rw [List.getElem?_map, h]
  rfl
theorem inV3 {k a b c : Int} : inV (.int k) [.int a, .int b, .int c] = true ↔ a = k ∨ b = k ∨ c = k := by
  show ((a == k) || ((b == k) || ((c == k) || false))) = true ↔ _
  simp
section
variable {P : Program} {w : World} {K : PySem.W.Frag} {mg : Str → Option Value} {base : Heap} {CC CT : Addr}
structure Kinds (mg : Str → Option Value) : Prop where
  k0 : CInt mg "BEGINS" 0
  k1 : CInt mg "TOWER" 1
  k2 : CInt mg "REPORT" 2
  k3 : CInt mg "MAY" 3
  k4 : CInt mg "SEES" 4
  k5 : CInt mg "ASK" 5
  k6 : CInt mg "DEPTH" 6
/-! ### call_length -/
abbrev sCL : Stmt := top 36
def spCL (K : PySem.W.Frag) : Sp := fun vs H Q _ => ∃ (a : Addr) (pre post : List Int) (x : Call), vs = [.ref a, .int pre.length] ∧ SqL K H a ((pre ++ (castL (nums x) ++ post)).map V.int) ∧ ∀ H' : Hp, Same H H' → Q (.int (nums x).length) H'
theorem scCL : FnScope ["calls", "start", "kind"] ["calls", "start"] (defScope sCL) := ⟨rfl, rfl, rfl, by decide +kernel, rfl, by decide +kernel, by decide +kernel⟩
theorem ok_cl {f : Addr} {fd : FuncData} (F : Fun K "call_length" "call_length" sCL f fd) (k : Kinds mg) : FnOk P w K mg base CX0 1 f fd ["calls", "start"] (spCL K) := by
  refine F.ok scCL (fun vs H Q E h => ?_) (fun cdv A outer s H vs Q E hr h => ?_)
  · obtain ⟨a, pre, post, x, rfl, _⟩ := h
    rfl
  · obtain ⟨a, pre, post, x, rfl, hL, q⟩ := h
    refine ⟨_, pss_cons (ps_set (i := 2) scCL.nd rfl (Or.inl rfl) (pe_ix ix_list (pv 0) (pv 1) (fun _ _ => rfl)))
      (pss_cons (ps_if (pt_cmpR op_in_seq (pv 2) (pe_tup (pa_cons (pe_cint k.k0 rfl) (pa_cons (pe_cint k.k2 rfl) (pa_cons (pe_cint k.k4 rfl) pa_nil)))) (by with_unfolding_all rfl)) (pss_one (ps_ret pe_int)) pss_nil)
      (pss_cons (ps_if (pt_cmpR op_eq (pv 2) (pe_cint k.k1 rfl) (nomark _)) (pss_one (ps_ret (pe_op op_add pe_int (pe_ix ix_list (pv 0) (pe_op op_add (pv 1) pe_int) (fun _ _ => rfl))))) pss_nil)
      (pss_cons (ps_if (pt_cmpR op_in_seq (pv 2) (pe_tup (pa_cons (pe_cint k.k3 rfl) (pa_cons (pe_cint k.k5 rfl) (pa_cons (pe_cint k.k6 rfl) pa_nil)))) (by with_unfolding_all rfl)) (pss_one (ps_ret pe_int)) pss_nil)
      (pss_one ps_never)))), ?_⟩
    have g0 := get_mid (pre := pre) (post := post) (nums_kind x)
    have kl := kind_le x
    refine ⟨_, rfl, _, rfl, a, _, _, _, rfl, rfl, hL, at_of (j := pre.length + 0) (by omega) g0, ?_⟩
    refine ⟨_, rfl, szl (by show 3 ≤ 16777216; decide), fun t ht => ?_⟩
    have s1 : Same H (upd H t (.tup [.int 0, .int 2, .int 4])) := same_new ht
    refine ⟨t, _, rfl, .inr (SqT.of upd_same), rfl, rfl, _, rfl, ?_⟩
    refine ite2 (fun h => ?_) (fun h => ?_)
    · have h' : inV (.int (kindN x : Int)) [.int 0, .int 2, .int 4] = true := h
      rw [inV3] at h'
      rw [len_three (by omega)] at q
      exact q _ s1
    have h' : ¬ inV (.int (kindN x : Int)) [.int 0, .int 2, .int 4] = true := h
    rw [inV3] at h'
    refine ⟨_, rfl, rfl, _, rfl, ?_⟩
    refine ite2 (fun h2 => ?_) (fun h2 => ?_)
    · rw [decide_eq_true_iff] at h2
      obtain ⟨n, e1, e2⟩ := len_tower (x := x) (by have := V.int.inj h2; omega)
      rw [e2] at q
      refine ⟨_, rfl, _, rfl, _, _, rfl, rfl, a, _, _, _, rfl, rfl, s1.seq hL, at_of (j := pre.length + 4) (by omega) (get_mid e1), _, _, rfl, rfl, ?_⟩
      have : (5 : Int) + (n : Int) = ((5 + n : Nat) : Int) := by omega
      show Q (.int ((5 : Int) + (n : Int))) _
      rw [this]
      exact q _ s1
    rw [decide_eq_true_iff] at h2
    have h2' : ¬ (kindN x : Int) = 1 := fun e => h2 (congrArg V.int e)
    refine ⟨_, rfl, szl (by show 3 ≤ 16777216; decide), fun t2 ht2 => ?_⟩
    have s2 := same_new (o := .tup [.int 3, .int 5, .int 6]) ht2
    refine ⟨t2, _, rfl, .inr (SqT.of upd_same), rfl, rfl, _, rfl, ?_⟩
    refine ite2 (fun h3 => ?_) (fun h3 => ?_)
    · have h3' : inV (.int (kindN x : Int)) [.int 3, .int 5, .int 6] = true := h3
      rw [inV3] at h3'
      rw [len_one (by omega)] at q
      exact q _ (s1.trans s2)
    · exfalso
      have h3' : ¬ inV (.int (kindN x : Int)) [.int 3, .int 5, .int 6] = true := h3
      rw [inV3] at h3'
      omega
/-! ### answer -/
abbrev sAns : Stmt := top 37
def outN (x : Uw35.Ans) : List Int := Uw35Neutral.out x
def spAns (K : PySem.W.Frag) (CC CT : Addr) : Sp := fun vs H Q _ => ∃ (z : CA) (s : Uw35.Country) (a : Addr) (x : Call), vs = [.ref z.c, .ref a] ∧ SqL K H a ((nums x).map nat2V) ∧ Fit x ∧ Full K CC CT H z s ∧ COk s ∧
  ∀ (H' : Hp) (z' : CA) (D : Addr), Full K CC CT H' z' (Uw35.step s x).1 → COk (Uw35.step s x).1 → Kp H H' z z' → D ≠ z.l → H' D = some (.lst ((outN (Uw35.step s x).2).map V.int)) → Q (.ref D) H'
theorem scAns : FnScope ["country", "call", "kind", "cells"] ["country", "call"] (defScope sAns) := ⟨rfl, rfl, rfl, by decide +kernel, rfl, by decide +kernel, by decide +kernel⟩
theorem ite_eqT {a b : Int} {A B : Prop} (e : a = b) (h : A) : if decide (V.int a = V.int b) = true then A else B := by
  rw [if_pos (decide_eq_true (congrArg V.int e))]
  exact h
theorem ite_eqF {a b : Int} {A B : Prop} (e : a ≠ b) (h : B) : if decide (V.int a = V.int b) = true then A else B := by
  rw [if_neg (by rw [decide_eq_true_iff]; exact fun z => e (V.int.inj z))]
  exact h
theorem full_new {K : PySem.W.Frag} {CC CT : Addr} {H : Hp} {z : CA} {s : Uw35.Country} {p : Addr} {o : HO} (h : Full K CC CT H z s) (hp : H p = none) : Full K CC CT (upd H p o) z s := h.same (same_new hp)
/-- behind a kept rest a new thing is laid -/
theorem Kp.new {H H' : Hp} {z z' : CA} (k : Kp H H' z z') {p : Addr} {o : HO} (hp : H' p = none) : Kp H (upd H' p o) z z' :=
  ⟨k.c, k.l, fun b ob e h1 h2 h3 => ⟨same_new hp _ _ (k.kp b ob e h1 h2 h3).1, (k.kp b ob e h1 h2 h3).2⟩⟩
/-- what is new is not the caller's list -/
theorem Kp.ne {K : PySem.W.Frag} {CC CT : Addr} {H H' : Hp} {z z' : CA} {s' : Uw35.Country} (k : Kp H H' z z') (hF' : Full K CC CT H' z' s') {p : Addr} (hp : H' p = none) : p ≠ z.l := by
  obtain ⟨xs, hx⟩ := hF'.core.lst
  rw [k.l] at hx
  exact (ne_of_none hx hp).symm
theorem ok_ans {f : Addr} {fd : FuncData} (F : Fun K "answer" "answer" sAns f fd) (T : CTxt K CC) (k : Kinds mg) (ml : mg "len" = none)
    (M0 : Mt P w K mg base CC "begin" 2 ["self", "wide", "high"] (spBegin K CC CT)) (M1 : Mt P w K mg base CC "add_tower" 4 ["self", "x", "y", "far", "numbers"] (spAdd K CC CT)) (M2 : Mt P w K mg base CC "take_report" 8 ["self", "number", "what"] (spTake K CC CT))
    (M3 : Mt P w K mg base CC "cells_left" 7 ["self"] (spLeft K CC CT)) (M4 : Mt P w K mg base CC "sees" 6 ["self", "number", "cell"] (spSees K CC CT)) (M5 : Mt P w K mg base CC "whom_to_ask" 8 ["self"] (spWhom K CC CT)) (M6 : Mt P w K mg base CC "depth" 9 ["self"] (spDepth K CC CT)) :
    FnOk P w K mg base CX0 10 f fd ["country", "call"] (spAns K CC CT) := by
  refine F.ok scAns (fun vs H Q E h => ?_) (fun cdv A outer s H vs Q E hr h => ?_)
  · obtain ⟨z, s, a, x, rfl, _⟩ := h
    rfl
  · obtain ⟨z, c, a, x, rfl, hL, hfit, hF, ok, q⟩ := h
    have hC := hF.core
    refine ⟨_, pss_cons (ps_set (i := 2) scAns.nd rfl (Or.inl rfl) (pe_ix ix_list (pv 1) pe_int (fun _ _ => rfl)))
      (pss_cons (ps_if (pt_cmpR op_eq (pv 2) (pe_cint k.k0 rfl) (nomark _)) (pss_one (ps_ret (pe_lst (pa_cons (pe_mt (pv 0) T.cl M0 (hr.mono (show 2 ≤ 9 by omega)) (pa_cons (pe_ix ix_list (pv 1) pe_int (fun _ _ => rfl)) (pa_cons (pe_ix ix_list (pv 1) pe_int (fun _ _ => rfl)) pa_nil))) pa_nil)))) pss_nil)
      (pss_cons (ps_if (pt_cmpR op_eq (pv 2) (pe_cint k.k1 rfl) (nomark _)) (pss_one (ps_ret (pe_lst (pa_cons (pe_mt (pv 0) T.cl M1 (hr.mono (show 4 ≤ 9 by omega)) (pa_cons (pe_ix ix_list (pv 1) pe_int (fun _ _ => rfl)) (pa_cons (pe_ix ix_list (pv 1) pe_int (fun _ _ => rfl))
          (pa_cons (pe_ix ix_list (pv 1) pe_int (fun _ _ => rfl)) (pa_cons (pe_slice sl_list (pv 1) (po_some pe_int) po_none) pa_nil))))) pa_nil)))) pss_nil)
      (pss_cons (ps_if (pt_cmpR op_eq (pv 2) (pe_cint k.k2 rfl) (nomark _)) (pss_one (ps_ret (pe_lst (pa_cons (pe_mt (pv 0) T.cl M2 (hr.mono (show 8 ≤ 9 by omega)) (pa_cons (pe_ix ix_list (pv 1) pe_int (fun _ _ => rfl)) (pa_cons (pe_ix ix_list (pv 1) pe_int (fun _ _ => rfl)) pa_nil))) pa_nil)))) pss_nil)
      (pss_cons (ps_if (pt_cmpR op_eq (pv 2) (pe_cint k.k3 rfl) (nomark _)) (pss_cons (ps_set (i := 3) scAns.nd rfl (Or.inl rfl) (pe_mt0 (pv 0) T.cl M3 (hr.mono (show 7 ≤ 9 by omega))))
          (pss_one (ps_ret (pe_op op_cat (pe_lst (pa_cons (pe_callB call_len_seq rfl ml PySem.boot_len (pa_cons (pv 3) pa_nil)) pa_nil)) (pv 3))))) pss_nil)
      (pss_cons (ps_if (pt_cmpR op_eq (pv 2) (pe_cint k.k4 rfl) (nomark _)) (pss_one (ps_ret (pe_lst (pa_cons (pe_mt (pv 0) T.cl M4 (hr.mono (show 6 ≤ 9 by omega)) (pa_cons (pe_ix ix_list (pv 1) pe_int (fun _ _ => rfl)) (pa_cons (pe_ix ix_list (pv 1) pe_int (fun _ _ => rfl)) pa_nil))) pa_nil)))) pss_nil)
      (pss_cons (ps_if (pt_cmpR op_eq (pv 2) (pe_cint k.k5 rfl) (nomark _)) (pss_one (ps_ret (pe_mt0 (pv 0) T.cl M5 (hr.mono (show 8 ≤ 9 by omega))))) pss_nil)
      (pss_one (ps_ret (pe_lst (pa_cons (pe_mt0 (pv 0) T.cl M6 hr) pa_nil)))))))))), ?_⟩
    have kind : ((nums x).map nat2V)[0]? = some (.int (kindN x : Int)) := by rw [List.getElem?_map, nums_kind]; rfl
    refine ⟨_, rfl, a, _, _, _, rfl, rfl, hL, at_of (j := 0) rfl kind, ?_⟩
    have one : 1 ≤ sizeLine := szl (by decide)
    cases x with
    | begins m n =>
      refine ⟨_, rfl, rfl, _, rfl, ite_eqT rfl ?_⟩
      refine ⟨_, rfl, z.c, z.dx, _, rfl, hC.obj, rfl, _, rfl, a, _, _, _, rfl, rfl, hL, at_of (j := 1) rfl rfl, _, rfl, a, _, _, _, rfl, rfl, hL, at_of (j := 2) rfl rfl, ?_⟩
      refine ⟨z, c, m, n, rfl, hF, ok, fun H' z' f' ok' kp => ⟨one, fun D hD => ?_⟩⟩
      refine q _ z' D (full_new f' hD) ok' (kp.new hD) (kp.ne f' hD) ?_
      rw [upd_same, step_begins]
      split <;> rfl
    | tower x y far l =>
      refine ⟨_, rfl, rfl, _, rfl, ite_eqF (by show ((1 : Nat) : Int) ≠ 0; decide) ?_⟩
      refine ⟨_, rfl, rfl, _, rfl, ite_eqT rfl ?_⟩
      refine ⟨_, rfl, z.c, z.dx, _, rfl, hC.obj, rfl, _, rfl, a, _, _, _, rfl, rfl, hL, at_of (j := 1) rfl rfl, _, rfl, a, _, _, _, rfl, rfl, hL, at_of (j := 2) rfl rfl, _, rfl, a, _, _, _, rfl, rfl, hL, at_of (j := 3) rfl rfl, ?_⟩
      refine ⟨_, rfl, _, rfl, a, _, rfl, hL, fun b hb => ?_⟩
      have ec : cutV ((nums (.tower x y far l)).map nat2V) (some (5 : Int)) none = l.map nat2V := cut_from (k := 5) (by rw [List.length_map]; show 5 ≤ l.length + 1 + 1 + 1 + 1 + 1; omega)
      have s1 := same_new (o := .lst (cutV ((nums (.tower x y far l)).map nat2V) (some (5 : Int)) none)) hb
      refine ⟨z, c, x, y, far, b, l, rfl, SqL.of (by rw [upd_same, ec]), hfit, hF.same s1, ok, fun H' z' f' ok' kp => ⟨one, fun D hD => ?_⟩⟩
      have kp0 : Kp H H' z z' := ⟨kp.c, kp.l, fun b' o e h1 h2 h3 => kp.kp b' o (s1 _ _ e) h1 h2 h3⟩
      refine q _ z' D (full_new f' hD) ok' (kp0.new hD) (kp.ne f' hD) ?_
      rw [upd_same, step_tower]
      split
      · rfl
      · split
        · rfl
        · split <;> rfl
    | report i what =>
      refine ⟨_, rfl, rfl, _, rfl, ite_eqF (by show ((2 : Nat) : Int) ≠ 0; decide) ?_⟩
      refine ⟨_, rfl, rfl, _, rfl, ite_eqF (by show ((2 : Nat) : Int) ≠ 1; decide) ?_⟩
      refine ⟨_, rfl, rfl, _, rfl, ite_eqT rfl ?_⟩
      refine ⟨_, rfl, z.c, z.dx, _, rfl, hC.obj, rfl, _, rfl, a, _, _, _, rfl, rfl, hL, at_of (j := 1) rfl rfl, _, rfl, a, _, _, _, rfl, rfl, hL, at_of (j := 2) rfl rfl, ?_⟩
      refine ⟨z, c, i, what, rfl, hF, ok, fun H' z' f' ok' kp => ⟨one, fun D hD => ?_⟩⟩
      refine q _ z' D (full_new f' hD) ok' (kp.new hD) (kp.ne f' hD) ?_
      rw [upd_same, step_report]
      split
      · rfl
      · split
        · rfl
        · split
          · rfl
          · split <;> rfl
    | may =>
      refine ⟨_, rfl, rfl, _, rfl, ite_eqF (by show ((3 : Nat) : Int) ≠ 0; decide) ?_⟩
      refine ⟨_, rfl, rfl, _, rfl, ite_eqF (by show ((3 : Nat) : Int) ≠ 1; decide) ?_⟩
      refine ⟨_, rfl, rfl, _, rfl, ite_eqF (by show ((3 : Nat) : Int) ≠ 2; decide) ?_⟩
      refine ⟨_, rfl, rfl, _, rfl, ite_eqT rfl ?_⟩
      refine ⟨_, rfl, z.c, z.dx, _, rfl, hC.obj, rfl, z, c, rfl, hF, ok, fun H1 D1 s1 hD10 hD1 => ?_⟩
      refine ⟨_, rfl, D1, _, rfl, .inl (SqL.of hD1), one, fun D2 hD2 => ?_⟩
      have s2 := same_new (o := .lst [V.int ((c.may.map nat2V).length : Int)]) hD2
      refine ⟨_, rfl, D2, D1, _, _, rfl, rfl, upd_same, s2 _ _ hD1, szl ?_, fun D3 hD3 => ?_⟩
      · have := may_len ok
        rw [List.length_map]
        show 1 + c.may.length ≤ 16777216
        omega
      have s3 := (s1.trans s2).trans (same_new (o := .lst ([V.int ((c.may.map nat2V).length : Int)] ++ c.may.map nat2V)) hD3)
      refine q _ z D3 (hF.same s3) ok (Kp.same s3) ?_ ?_
      · exact (Kp.same ((s1.trans s2))).ne (hF.same (s1.trans s2)) hD3
      · rw [upd_same]
        show some (HO.lst (V.int ((c.may.map nat2V).length : Int) :: c.may.map nat2V)) = some (HO.lst (V.int (c.may.length : Int) :: ((c.may.map fun (n : Nat) => (n : Int)).map V.int)))
        rw [List.length_map, List.map_map]
        rfl
    | sees i p =>
      refine ⟨_, rfl, rfl, _, rfl, ite_eqF (by show ((4 : Nat) : Int) ≠ 0; decide) ?_⟩
      refine ⟨_, rfl, rfl, _, rfl, ite_eqF (by show ((4 : Nat) : Int) ≠ 1; decide) ?_⟩
      refine ⟨_, rfl, rfl, _, rfl, ite_eqF (by show ((4 : Nat) : Int) ≠ 2; decide) ?_⟩
      refine ⟨_, rfl, rfl, _, rfl, ite_eqF (by show ((4 : Nat) : Int) ≠ 3; decide) ?_⟩
      refine ⟨_, rfl, rfl, _, rfl, ite_eqT rfl ?_⟩
      refine ⟨_, rfl, z.c, z.dx, _, rfl, hC.obj, rfl, _, rfl, a, _, _, _, rfl, rfl, hL, at_of (j := 1) rfl rfl, _, rfl, a, _, _, _, rfl, rfl, hL, at_of (j := 2) rfl rfl, ?_⟩
      refine ⟨z, c, i, p, rfl, hC, ok, fun H' s1 => ⟨one, fun D hD => ?_⟩⟩
      have e : Uw35.step c (.sees i p) = if c.towers.length ≤ i ∨ c.cells ≤ p then (c, Uw35.ok (-2)) else (c, Uw35.ok (((c.sees i p).getD (c.tower i).marks.length : Nat) : Int)) := rfl
      have s2 := s1.trans (same_new (o := .lst [V.int (seesN c i p)]) hD)
      have f2 : Full K CC CT (upd H' D (.lst [V.int (seesN c i p)])) z (Uw35.step c (.sees i p)).1 := by
        rw [e]
        split <;> exact hF.same s2
      have o2 : COk (Uw35.step c (.sees i p)).1 := by
        rw [e]
        split <;> exact ok
      refine q _ z D f2 o2 (Kp.same s2) ((Kp.same s1).ne (hF.same s1) hD) ?_
      rw [upd_same, e]
      unfold seesN
      split
      · rfl
      · rename_i hn
        rw [told_code (tower_ok ok (by omega)).good]
        rfl
    | ask =>
      refine ⟨_, rfl, rfl, _, rfl, ite_eqF (by show ((5 : Nat) : Int) ≠ 0; decide) ?_⟩
      refine ⟨_, rfl, rfl, _, rfl, ite_eqF (by show ((5 : Nat) : Int) ≠ 1; decide) ?_⟩
      refine ⟨_, rfl, rfl, _, rfl, ite_eqF (by show ((5 : Nat) : Int) ≠ 2; decide) ?_⟩
      refine ⟨_, rfl, rfl, _, rfl, ite_eqF (by show ((5 : Nat) : Int) ≠ 3; decide) ?_⟩
      refine ⟨_, rfl, rfl, _, rfl, ite_eqF (by show ((5 : Nat) : Int) ≠ 4; decide) ?_⟩
      refine ⟨_, rfl, rfl, _, rfl, ite_eqT rfl ?_⟩
      refine ⟨_, rfl, z.c, z.dx, _, rfl, hC.obj, rfl, z, c, rfl, hF, ok, fun H1 D1 s1 hD10 hD1 => ?_⟩
      refine q _ z D1 (hF.same s1) ok (Kp.same s1) ((Kp.same (Same.refl H)).ne hF hD10) ?_
      rw [hD1]
      have e : (Uw35.step c .ask).2 = (match c.ask with
        | none => Uw35.ok (-6)
        | some x => ⟨(x.1 : Nat), [x.2]⟩) := rfl
      rw [e]
      unfold askV
      cases c.ask <;> rfl
    | depth =>
      refine ⟨_, rfl, rfl, _, rfl, ite_eqF (by show ((6 : Nat) : Int) ≠ 0; decide) ?_⟩
      refine ⟨_, rfl, rfl, _, rfl, ite_eqF (by show ((6 : Nat) : Int) ≠ 1; decide) ?_⟩
      refine ⟨_, rfl, rfl, _, rfl, ite_eqF (by show ((6 : Nat) : Int) ≠ 2; decide) ?_⟩
      refine ⟨_, rfl, rfl, _, rfl, ite_eqF (by show ((6 : Nat) : Int) ≠ 3; decide) ?_⟩
      refine ⟨_, rfl, rfl, _, rfl, ite_eqF (by show ((6 : Nat) : Int) ≠ 4; decide) ?_⟩
      refine ⟨_, rfl, rfl, _, rfl, ite_eqF (by show ((6 : Nat) : Int) ≠ 5; decide) ?_⟩
      refine ⟨_, rfl, z.c, z.dx, _, rfl, hC.obj, rfl, z, c, rfl, hF, ok, fun H' s1 => ⟨one, fun D hD => ?_⟩⟩
      have s2 := s1.trans (same_new (o := .lst [V.int (c.depth 5 c.still c.may : Nat)]) hD)
      refine q _ z D (hF.same s2) ok (Kp.same s2) ((Kp.same s1).ne (hF.same s1) hD) ?_
      rw [upd_same]
      rfl
end
end Fw
set_option Elab.async false
set_option linter.all false
set_option maxRecDepth 100000
set_option maxHeartbeats 2000000
namespace Fw
open PySem PySem.Spec PyProof.Rows L2
open Uw35 (Call)
/-! ### a line of calls -/
def runS (s : Uw35.Country) : List Call → Uw35.Country
  | [] => s
  | x :: r => runS (Uw35.step s x).1 r
theorem runS_snoc : ∀ (l : List Call) (s : Uw35.Country) (x : Call), runS s (l ++ [x]) = (Uw35.step (runS s l) x).1
  | [], _, _ => rfl
  | y :: l, s, x => runS_snoc l (Uw35.step s y).1 x
theorem play_app : ∀ (l r : List Call) (s : Uw35.Country), play s (l ++ r) = play s l ++ play (runS s l) r
  | [], _, _ => rfl
  | y :: l, r, s => by
    show _ :: play (Uw35.step s y).1 (l ++ r) = _
    rw [play_app l r]
    rfl
theorem told_app (a b : List (List Int)) : PyFlat.told (a ++ b) = PyFlat.told a ++ PyFlat.told b := List.flatMap_append
theorem told_snoc (s : Uw35.Country) (l : List Call) (x : Call) : PyFlat.told (play s (l ++ [x])) = PyFlat.told (play s l) ++ (((outN (Uw35.step (runS s l) x).2).length : Int) :: outN (Uw35.step (runS s l) x).2) := by
  rw [play_app, told_app]
  congr 1
  show PyFlat.told [outN (Uw35.step (runS s l) x).2] = _
  unfold PyFlat.told
  rw [List.flatMap_cons, List.flatMap_nil, List.append_nil]
theorem flat_app (a b : List Call) : flatN (a ++ b) = flatN a ++ flatN b := by
  unfold flatN
  rw [List.map_append, List.flatten_append]
theorem flat_cons (x : Call) (b : List Call) : flatN (x :: b) = castL (nums x) ++ flatN b := rfl
theorem nums_pos (x : Call) : 0 < (nums x).length := (List.getElem?_eq_some_iff.mp (nums_kind x)).1
theorem castL_len (l : List Nat) : (castL l).length = l.length := by
  unfold castL
  rw [List.length_map]
/-- the list that was handed in -/
def Frz (K : PySem.W.Frag) (H : Hp) (a : Addr) (xs : List V) : Prop := (∃ o, H a = some (.frz o (.lst xs))) ∨ ∃ (o : Obj) (its : Array Value) (n : Nat), K.lookup a = some o ∧ o.cls = .type "list" ∧ o.dict = none ∧ o.data = .seq its n ∧ its.size ≤ sizeLine ∧ Vals xs its.toList
theorem Frz.seq {K : PySem.W.Frag} {H : Hp} {a : Addr} {xs : List V} (h : Frz K H a xs) : SqL K H a xs := by
  rcases h with ⟨o, h⟩ | h
  · exact .inl (.inr ⟨o, h⟩)
  · exact .inr h
theorem Frz.keep {K : PySem.W.Frag} {H H' : Hp} {a : Addr} {xs : List V} (h : Frz K H a xs) (k : ∀ o, H a = some (.frz o (.lst xs)) → H' a = some (.frz o (.lst xs))) : Frz K H' a xs := by
  rcases h with ⟨o, h⟩ | h
  · exact .inl ⟨o, k o h⟩
  · exact .inr h
theorem Full.updL {K : PySem.W.Frag} {CC CT : Addr} {H : Hp} {z : CA} {s : Uw35.Country} (h : Full K CC CT H z s) (ys : List V) : Full K CC CT (upd H z.l (.lst ys)) z s := by
  obtain ⟨xs, hx⟩ := h.core.lst
  obtain ⟨ts, h1, h2⟩ := h.core.tws
  refine ⟨⟨?_, ⟨ys, upd_same⟩, h.core.lt, ts, ?_, Paired.mapP h2 fun a tw q => q.upd hx (.inr rfl)⟩, ?_⟩
  · rw [upd_ne (ne_of h.core.obj hx (by intro z; cases z))]
    exact h.core.obj
  · rw [upd_ne (fun e => h.core.lt e.symm)]
    exact h1
  · rw [upd_ne (ne_of h.rep hx (by intro z; cases z))]
    exact h.rep
section
variable {P : Program} {w : World} {K : PySem.W.Frag} {mg : Str → Option Value} {base : Heap} {CC CT : Addr}
abbrev sAll : Stmt := top 38
def spAll (K : PySem.W.Frag) : Sp := fun vs H Q _ => ∃ (a : Addr) (ns : List Int), vs = [.ref a] ∧ Frz K H a (ns.map V.int) ∧ PyUw35.answers_asked ns = true ∧ ∀ (H' : Hp) (p : Addr), H' p = some (.lst ((PyUw35.answers ns).map V.int)) → Q (.ref p) H'
theorem scAll : FnScope ["calls", "country", "answered", "start", "end", "numbers"] ["calls"] (defScope sAll) := ⟨rfl, rfl, rfl, by decide +kernel, rfl, by decide +kernel, by decide +kernel⟩
theorem ok_all {f : Addr} {fd : FuncData} (F : Fun K "answers" "answers" sAll f fd) (MC : Kl P w K mg base "Country" CC 1 ["self"] (spCI CC)) (FC : Fn P w K mg base "call_length" 1 ["calls", "start"] (spCL K))
    (FA : Fn P w K mg base "answer" 10 ["country", "call"] (spAns K CC CT)) (ml : mg "len" = none) : FnOk P w K mg base CX0 11 f fd ["calls"] (spAll K) := by
  refine F.ok scAll (fun vs H Q E h => ?_) (fun cdv A outer s H vs Q E hr h => ?_)
  · obtain ⟨a, ns, rfl, _⟩ := h
    rfl
  · obtain ⟨a, ns, rfl, hA, hask, q⟩ := h
    obtain ⟨xs, exs, eans, hfit, hshort⟩ := asked_read hask
    refine ⟨_, pss_cons (ps_set (i := 1) scAll.nd rfl (Or.inl rfl) (pe_kl0 MC (hr.mono (show 2 ≤ 10 by omega)) rfl))
      (pss_cons (ps_set (i := 2) scAll.nd rfl (Or.inl rfl) (pe_lst pa_nil))
      (pss_cons (ps_set (i := 3) scAll.nd rfl (Or.inl rfl) pe_int)
      (pss_cons (ps_while PassesOwn.never (pt_cmpR op_lt (pv 3) (pe_callB call_len_seq rfl ml PySem.boot_len (pa_cons (pv 0) pa_nil)) (nomark _))
        (pss_cons (ps_set (i := 4) scAll.nd rfl (Or.inl rfl) (pe_op op_add (pv 3) (pe_fn FC (hr.mono (show 1 ≤ 10 by omega)) rfl (pa_cons (pv 0) (pa_cons (pv 3) pa_nil)))))
        (pss_cons (ps_set (i := 5) scAll.nd rfl (Or.inl rfl) (pe_fn FA hr rfl (pa_cons (pv 1) (pa_cons (pe_slice sl_list (pv 0) (po_some (pv 3)) (po_some (pv 4))) pa_nil))))
        (pss_cons (ps_expr (pe_bm PySem.F.plainAttrs_list PySem.F.slot_list_append PySem.F.type_list_append mt_append (pv 2) (pa_cons (pe_callB call_len_seq rfl ml PySem.boot_len (pa_cons (pv 5) pa_nil)) pa_nil)))
        (pss_cons (ps_expr (pe_bm PySem.F.plainAttrs_list PySem.F.slot_list_extend PySem.F.type_list_extend mt_extend (pv 2) (pa_cons (pv 5) pa_nil)))
        (pss_one (ps_set (i := 3) scAll.nd rfl (Or.inl rfl) (pv 4))))))))
      (pss_one (ps_ret (pv 2)))))), ?_⟩
    intro c dx hc hdx hne
    refine ⟨c, dx, rfl, upd_same, fun H1 t r h1 h2 h3 hk => ⟨rfl, ?_⟩⟩
    have s1 : Same H H1 := Same.made hc hdx hk
    refine ⟨Nat.zero_le _, fun l hl => ?_⟩
    have s2 := s1.trans (same_new (o := .lst []) hl)
    have f0 : Full K CC CT (upd H1 l (.lst [])) ⟨c, dx, t, r, l⟩ Uw35.init := by
      refine ⟨⟨same_new hl _ _ h1, ⟨_, upd_same⟩, (ne_of_none h2 hl).symm, [], same_new hl _ _ h2, .nil⟩, same_new hl _ _ h3⟩
    refine ⟨fun m σ H' => ∃ (done rest : List Call) (z : CA) (y4 y5 : Option V), m = rest.length ∧ xs = done ++ rest ∧ σ = [some (.ref a), some (.ref z.c), some (.ref z.l), some (.int ((flatN done).length : Nat)), y4, y5] ∧
      Full K CC CT H' z (runS Uw35.init done) ∧ COk (runS Uw35.init done) ∧ Frz K H' a (ns.map V.int) ∧ H' z.l = some (.lst ((PyFlat.told (play Uw35.init done)).map V.int)), ?_, ?_⟩
    · exact ⟨xs.length, [], xs, ⟨c, dx, t, r, l⟩, none, none, rfl, rfl, rfl, f0, init_ok, hA.keep fun o e => s2 _ _ e, upd_same⟩
    · rintro m σ H2 ⟨done, rest, z, y4, y5, rfl, exd, rfl, hF, ok, hA2, hl2⟩
      have ens : ns = flatN done ++ flatN rest := by rw [exs, exd, flat_app]
      have eln : ((ns.map V.int).length : Int) = (ns.length : Nat) := by rw [List.length_map]
      refine ⟨_, rfl, _, rfl, a, _, rfl, .inl hA2.seq, _, _, rfl, rfl, _, rfl, ?_⟩
      rw [eln]
      refine ite2 (fun h => ?_) (fun h => ?_)
      · rw [decide_eq_true_iff] at h
        cases rest with
        | nil =>
          exfalso
          have : ns.length = (flatN done).length := by
            rw [ens]
            show (flatN done ++ []).length = _
            rw [List.append_nil]
          omega
        | cons x rest =>
          have ens2 : ns = flatN done ++ (castL (nums x) ++ flatN rest) := ens
          have nl : ns.length = (flatN done).length + ((nums x).length + (flatN rest).length) := by rw [ens2, List.length_append, List.length_append, castL_len]
          refine ⟨fun σ' H' => ∃ (done rest' : List Call) (z : CA) (y4 y5 : Option V), rest.length = rest'.length ∧ xs = done ++ rest' ∧ σ' = [some (.ref a), some (.ref z.c), some (.ref z.l), some (.int ((flatN done).length : Nat)), y4, y5] ∧
            Full K CC CT H' z (runS Uw35.init done) ∧ COk (runS Uw35.init done) ∧ Frz K H' a (ns.map V.int) ∧ H' z.l = some (.lst ((PyFlat.told (play Uw35.init done)).map V.int)), fun σ' H' ⟨d', r', z', y4', y5', e1, e2⟩ => ⟨rest.length, Nat.lt_succ_self _, d', r', z', y4', y5', e1, e2⟩, ?_⟩
          -- end = start + call_length(calls, start)
          refine ⟨_, rfl, _, rfl, _, rfl, a, flatN done, flatN rest, x, rfl, by rw [← ens2]; exact hA2.seq, fun H3 s3 => ⟨_, _, rfl, rfl, ?_⟩⟩
          have hA3 : Frz K H3 a (ns.map V.int) := hA2.keep fun o e => s3 _ _ e
          -- numbers = answer(country, calls[start:end])
          refine ⟨_, rfl, _, rfl, _, rfl, _, rfl, _, rfl, _, rfl, a, _, rfl, hA3.seq, fun b hb => ?_⟩
          have ecut : cutV (ns.map V.int) (some (((flatN done).length : Nat) : Int)) (some ((((flatN done).length : Nat) : Int) + (((nums x).length : Nat) : Int))) = (nums x).map nat2V := by
            rw [show ((((flatN done).length : Nat) : Int) + (((nums x).length : Nat) : Int)) = (((flatN done).length + (nums x).length : Nat) : Int) by omega, cut_mid (by omega) (by rw [List.length_map]; omega), ens2, List.map_append, List.map_append]
            rw [List.drop_append_of_le_length (by rw [List.length_map]; exact Nat.le_refl _), List.drop_of_length_le (by rw [List.length_map]; exact Nat.le_refl _), List.nil_append,
              List.take_append_of_le_length (by rw [List.length_map, castL_len]; omega), List.take_of_length_le (by rw [List.length_map, castL_len]; omega)]
            unfold castL
            rw [List.map_map]
            rfl
          have s4 := s3.trans (same_new (o := .lst (cutV (ns.map V.int) (some (((flatN done).length : Nat) : Int)) (some ((((flatN done).length : Nat) : Int) + (((nums x).length : Nat) : Int))))) hb)
          refine ⟨z, runS Uw35.init done, b, x, rfl, SqL.of (by rw [upd_same]; exact congrArg (fun q => some (HO.lst q)) ecut), hfit x (by rw [exd]; exact List.mem_append_right _ List.mem_cons_self), hF.same s4, ok, fun H5 z' D f5 ok5 kp hDl hD => ?_⟩
          have hl4 := s4 _ _ hl2
          have F4 := hF.same s4
          have nlc : z.l ≠ z.c := ne_of hl4 F4.core.obj (by intro q; cases q)
          have nlr : z.l ≠ z.r := ne_of hl4 F4.rep (by intro q; cases q)
          have hl5 := (kp.kp _ _ hl4 nlc F4.core.lt nlr).1
          have hA5 : Frz K H5 a (ns.map V.int) := (hA3.keep fun o e => same_new hb _ _ e).keep fun o e => by
            obtain ⟨ts, ht, _⟩ := F4.core.tws
            exact (kp.kp a _ e (ne_of e F4.core.obj (by intro q; cases q)) (ne_of e ht (by intro q; cases q)) (ne_of e F4.rep (by intro q; cases q))).1
          have etold := told_snoc Uw35.init done x
          have hle : (PyFlat.told (play Uw35.init (done ++ [x]))).length ≤ 10000000 := by
            have e1 : PyUw35.answers ns = PyFlat.told (play Uw35.init (done ++ [x])) ++ PyFlat.told (play (runS Uw35.init (done ++ [x])) rest) := by
              rw [eans, exd, ← told_app, ← play_app, List.append_assoc]
              rfl
            rw [e1, List.length_append] at hshort
            omega
          rw [etold, List.length_append, List.length_cons] at hle
          generalize hO : outN (Uw35.step (runS Uw35.init done) x).2 = out at hD etold hle
          -- answered.append(len(numbers))
          refine ⟨_, rfl, .inl ⟨rfl, _, SqL.of hl5⟩, _, rfl, D, _, rfl, .inl (SqL.of hD), z.l, _, _, rfl, rfl, hl5, szlt (by rw [List.length_map]; omega), ?_⟩
          -- answered.extend(numbers)
          have hD6 : upd H5 z.l (.lst ((PyFlat.told (play Uw35.init done)).map V.int ++ [V.int ((out.map V.int).length : Int)])) D = some (.lst (out.map V.int)) := by rw [upd_ne hDl]; exact hD
          refine ⟨_, rfl, .inl ⟨rfl, _, SqL.of upd_same⟩, _, rfl, z.l, D, _, _, rfl, rfl, upd_same, hD6, szl (by rw [List.length_append, List.length_map, List.length_map, List.length_singleton]; omega), ?_⟩
          rw [upd_upd]
          -- start = end
          refine ⟨_, rfl, done ++ [x], rest, z', some (.int ((((flatN done).length : Nat) : Int) + (((nums x).length : Nat) : Int))), some (.ref D), rfl, by rw [exd, List.append_assoc]; rfl, ?_, ?_, ?_, ?_, ?_⟩
          · rw [kp.c, kp.l]
            have e9 : ((((flatN done).length : Nat) : Int) + (((nums x).length : Nat) : Int)) = ((flatN (done ++ [x])).length : Nat) := by
              rw [flat_app, List.length_append, flat_cons, List.length_append, castL_len]
              show _ = ((((flatN done).length + ((nums x).length + 0)) : Nat) : Int)
              omega
            rw [← e9]
            rfl
          · rw [runS_snoc, ← kp.l]
            exact f5.updL _
          · rw [runS_snoc]
            exact ok5
          · exact hA5.keep fun o e => by rw [upd_ne (ne_of e hl5 (by intro q; cases q))]; exact e
          · rw [kp.l, upd_same, etold, List.map_append, List.length_map, List.append_assoc]
            rfl
      · rw [decide_eq_true_iff] at h
        have rnil : rest = [] := by
          cases rest with
          | nil => rfl
          | cons x rest =>
            exfalso
            have nl : ns.length = (flatN done).length + ((nums x).length + (flatN rest).length) := by rw [ens, flat_cons, List.length_append, List.length_append, castL_len]
            have := nums_pos x
            omega
        subst rnil
        rw [List.append_nil] at exd
        subst exd
        refine ⟨_, rfl, q H2 z.l ?_⟩
        rw [eans]
        exact hl2
end
end Fw
set_option Elab.async false
set_option linter.all false
set_option maxRecDepth 100000
set_option maxHeartbeats 4000000
namespace Fw
open PySem PySem.Spec PyProof.Rows L2
/-! ### what the top has written -/
theorem all_mk {P : Program} {w : World} {K : PySem.W.Frag} {h : Heap} {mg : Str → Option Value} {fa CC CT : Addr} (X : K.In h) (G : h.Ns mainGlobals mg) (hfa : mg "answers" = some (.ref fa))
    {f0 : Addr} {od0 an0 : Option Addr} {sl0 : Array (Option Value)} {oc0 kV0 dc0 pm0 cd0 ct0 : Value}
    {f1 : Addr} {od1 an1 : Option Addr} {sl1 : Array (Option Value)} {oc1 kV1 dc1 pm1 cd1 ct1 : Value}
    {f2 : Addr} {od2 an2 : Option Addr} {sl2 : Array (Option Value)} {oc2 kV2 dc2 pm2 cd2 ct2 : Value}
    {f3 : Addr} {od3 an3 : Option Addr} {sl3 : Array (Option Value)} {oc3 kV3 dc3 pm3 cd3 ct3 : Value}
    {f4 : Addr} {od4 an4 : Option Addr} {sl4 : Array (Option Value)} {oc4 kV4 dc4 pm4 cd4 ct4 : Value}
    {f5 : Addr} {od5 an5 : Option Addr} {sl5 : Array (Option Value)} {oc5 kV5 dc5 pm5 cd5 ct5 : Value}
    {f6 : Addr} {od6 an6 : Option Addr} {sl6 : Array (Option Value)} {oc6 kV6 dc6 pm6 cd6 ct6 : Value}
    {f7 : Addr} {od7 an7 : Option Addr} {sl7 : Array (Option Value)} {oc7 kV7 dc7 pm7 cd7 ct7 : Value}
    {f8 : Addr} {od8 an8 : Option Addr} {sl8 : Array (Option Value)} {oc8 kV8 dc8 pm8 cd8 ct8 : Value}
    {f9 : Addr} {od9 an9 : Option Addr} {sl9 : Array (Option Value)} {oc9 kV9 dc9 pm9 cd9 ct9 : Value}
    {f10 : Addr} {od10 an10 : Option Addr} {sl10 : Array (Option Value)} {oc10 kV10 dc10 pm10 cd10 ct10 : Value}
    {f11 : Addr} {od11 an11 : Option Addr} {sl11 : Array (Option Value)} {oc11 kV11 dc11 pm11 cd11 ct11 : Value}
    {f12 : Addr} {od12 an12 : Option Addr} {sl12 : Array (Option Value)} {oc12 kV12 dc12 pm12 cd12 ct12 : Value}
    {f13 : Addr} {od13 an13 : Option Addr} {sl13 : Array (Option Value)} {oc13 kV13 dc13 pm13 cd13 ct13 : Value}
    {f14 : Addr} {od14 an14 : Option Addr} {sl14 : Array (Option Value)} {oc14 kV14 dc14 pm14 cd14 ct14 : Value}
    {f15 : Addr} {od15 an15 : Option Addr} {sl15 : Array (Option Value)} {oc15 kV15 dc15 pm15 cd15 ct15 : Value}
    {f16 : Addr} {od16 an16 : Option Addr} {sl16 : Array (Option Value)} {oc16 kV16 dc16 pm16 cd16 ct16 : Value}
    {f17 : Addr} {od17 an17 : Option Addr} {sl17 : Array (Option Value)} {oc17 kV17 dc17 pm17 cd17 ct17 : Value}
    {f18 : Addr} {od18 an18 : Option Addr} {sl18 : Array (Option Value)} {oc18 kV18 dc18 pm18 cd18 ct18 : Value}
    {f19 : Addr} {od19 an19 : Option Addr} {sl19 : Array (Option Value)} {oc19 kV19 dc19 pm19 cd19 ct19 : Value}
    {f20 : Addr} {od20 an20 : Option Addr} {sl20 : Array (Option Value)} {oc20 kV20 dc20 pm20 cd20 ct20 : Value}
    {f21 : Addr} {od21 an21 : Option Addr} {sl21 : Array (Option Value)} {oc21 kV21 dc21 pm21 cd21 ct21 : Value}
    {f22 : Addr} {od22 an22 : Option Addr} {sl22 : Array (Option Value)} {oc22 kV22 dc22 pm22 cd22 ct22 : Value}
    {f23 : Addr} {od23 an23 : Option Addr} {sl23 : Array (Option Value)} {oc23 kV23 dc23 pm23 cd23 ct23 : Value}
    {f24 : Addr} {od24 an24 : Option Addr} {sl24 : Array (Option Value)} {oc24 kV24 dc24 pm24 cd24 ct24 : Value}
    {f25 : Addr} {od25 an25 : Option Addr} {sl25 : Array (Option Value)} {oc25 kV25 dc25 pm25 cd25 ct25 : Value}
    {f26 : Addr} {od26 an26 : Option Addr} {sl26 : Array (Option Value)} {oc26 kV26 dc26 pm26 cd26 ct26 : Value}
    {t0 : Tok}
    {t1 : Tok}
    {t2 : Tok}
    {t3 : Tok}
    {t4 : Tok}
    {t5 : Tok}
    {t6 : Tok}
    {t7 : Tok}
    {t8 : Tok}
    {t9 : Tok}
    {t10 : Tok}
    {t11 : Tok}
    {t12 : Tok}
    {t13 : Tok}
    {t14 : Tok}
    {t15 : Tok}
    {t16 : Tok}
    {t17 : Tok}
    {t18 : Tok}
    {t19 : Tok}
    {t20 : Tok}
    (aCT : PySem.W.nsIn K mainGlobals "Tower" = some (some (.ref CT)))
    (pgCT : PySem.W.plainGet K CT Str.empty = true)
    (hdCT : PySem.W.hasDictIn K CT = true)
    (poCT : PySem.W.plainOver K CT = true)
    (saCT : PySem.W.findIn K (.ref CT) "__setattr__" = some (some (.builtin "object.__setattr__")))
    (mkCT : PySem.W.makesIn K CT = true)
    (kcCT : PySem.W.keepIn K (.ref CT) = true)
    (n0CT : PySem.W.findIn K (.ref CT) "x" = some none)
    (n1CT : PySem.W.findIn K (.ref CT) "y" = some none)
    (n2CT : PySem.W.findIn K (.ref CT) "far" = some none)
    (n3CT : PySem.W.findIn K (.ref CT) "marks" = some none)
    (aCC : PySem.W.nsIn K mainGlobals "Country" = some (some (.ref CC)))
    (pgCC : PySem.W.plainGet K CC Str.empty = true)
    (hdCC : PySem.W.hasDictIn K CC = true)
    (poCC : PySem.W.plainOver K CC = true)
    (saCC : PySem.W.findIn K (.ref CC) "__setattr__" = some (some (.builtin "object.__setattr__")))
    (mkCC : PySem.W.makesIn K CC = true)
    (kcCC : PySem.W.keepIn K (.ref CC) = true)
    (n0CC : PySem.W.findIn K (.ref CC) "wide" = some none)
    (n1CC : PySem.W.findIn K (.ref CC) "high" = some none)
    (n2CC : PySem.W.findIn K (.ref CC) "towers" = some none)
    (n3CC : PySem.W.findIn K (.ref CC) "reports" = some none)
    (a0 : PySem.W.nsIn K mainGlobals "half_of_round" = some (some (.ref f0)))
    (l0 : K.lookup f0 = some ⟨oc0, od0, .func (PySem.W.fnOf "half_of_round" "half_of_round" (defArgs sHalf) (defBody sHalf) (defScope sHalf) .none kV0 dc0 pm0 an0 cd0 ct0), sl0⟩)
    (c0 : PySem.W.codeIn K cd0 "half_of_round" = true)
    (k0 : PySem.W.keepIn K (.ref f0) = true)
    (a1 : PySem.W.nsIn K mainGlobals "comes_before" = some (some (.ref f1)))
    (l1 : K.lookup f1 = some ⟨oc1, od1, .func (PySem.W.fnOf "comes_before" "comes_before" (defArgs sBefore) (defBody sBefore) (defScope sBefore) .none kV1 dc1 pm1 an1 cd1 ct1), sl1⟩)
    (c1 : PySem.W.codeIn K cd1 "comes_before" = true)
    (k1 : PySem.W.keepIn K (.ref f1) = true)
    (a2 : PySem.W.nsIn K mainGlobals "marks_from" = some (some (.ref f2)))
    (l2 : K.lookup f2 = some ⟨oc2, od2, .func (PySem.W.fnOf "marks_from" "marks_from" (defArgs sMarks) (defBody sMarks) (defScope sMarks) .none kV2 dc2 pm2 an2 cd2 ct2), sl2⟩)
    (c2 : PySem.W.codeIn K cd2 "marks_from" = true)
    (k2 : PySem.W.keepIn K (.ref f2) = true)
    (a3 : PySem.W.nsIn K mainGlobals "go_round" = some (some (.ref f3)))
    (l3 : K.lookup f3 = some ⟨oc3, od3, .func (PySem.W.fnOf "go_round" "go_round" (defArgs sGo) (defBody sGo) (defScope sGo) .none kV3 dc3 pm3 an3 cd3 ct3), sl3⟩)
    (c3 : PySem.W.codeIn K cd3 "go_round" = true)
    (k3 : PySem.W.keepIn K (.ref f3) = true)
    (a4 : PySem.W.nsIn K mainGlobals "sector_of" = some (some (.ref f4)))
    (l4 : K.lookup f4 = some ⟨oc4, od4, .func (PySem.W.fnOf "sector_of" "sector_of" (defArgs sSec) (defBody sSec) (defScope sSec) .none kV4 dc4 pm4 an4 cd4 ct4), sl4⟩)
    (c4 : PySem.W.codeIn K cd4 "sector_of" = true)
    (k4 : PySem.W.keepIn K (.ref f4) = true)
    (a5 : PySem.W.nsIn K mainGlobals "is_side" = some (some (.ref f5)))
    (l5 : K.lookup f5 = some ⟨oc5, od5, .func (PySem.W.fnOf "is_side" "is_side" (defArgs sSide) (defBody sSide) (defScope sSide) .none kV5 dc5 pm5 an5 cd5 ct5), sl5⟩)
    (c5 : PySem.W.codeIn K cd5 "is_side" = true)
    (k5 : PySem.W.keepIn K (.ref f5) = true)
    (a6 : PySem.W.nsIn K mainGlobals "are_mark_numbers" = some (some (.ref f6)))
    (l6 : K.lookup f6 = some ⟨oc6, od6, .func (PySem.W.fnOf "are_mark_numbers" "are_mark_numbers" (defArgs sNums) (defBody sNums) (defScope sNums) .none kV6 dc6 pm6 an6 cd6 ct6), sl6⟩)
    (c6 : PySem.W.codeIn K cd6 "are_mark_numbers" = true)
    (k6 : PySem.W.keepIn K (.ref f6) = true)
    (a7 : PySem.W.nsIn K mainGlobals "groups_told_the_same" = some (some (.ref f7)))
    (l7 : K.lookup f7 = some ⟨oc7, od7, .func (PySem.W.fnOf "groups_told_the_same" "groups_told_the_same" (defArgs sGrp) (defBody sGrp) (defScope sGrp) .none kV7 dc7 pm7 an7 cd7 ct7), sl7⟩)
    (c7 : PySem.W.codeIn K cd7 "groups_told_the_same" = true)
    (k7 : PySem.W.keepIn K (.ref f7) = true)
    (a8 : PySem.W.nsIn K mainGlobals "most_told_the_same" = some (some (.ref f8)))
    (l8 : K.lookup f8 = some ⟨oc8, od8, .func (PySem.W.fnOf "most_told_the_same" "most_told_the_same" (defArgs sMost) (defBody sMost) (defScope sMost) .none kV8 dc8 pm8 an8 cd8 ct8), sl8⟩)
    (c8 : PySem.W.codeIn K cd8 "most_told_the_same" = true)
    (k8 : PySem.W.keepIn K (.ref f8) = true)
    (a9 : PySem.W.nsIn K mainGlobals "least_asked_at_worst" = some (some (.ref f9)))
    (l9 : K.lookup f9 = some ⟨oc9, od9, .func (PySem.W.fnOf "least_asked_at_worst" "least_asked_at_worst" (defArgs sLeast) (defBody sLeast) (defScope sLeast) .none kV9 dc9 pm9 an9 cd9 ct9), sl9⟩)
    (c9 : PySem.W.codeIn K cd9 "least_asked_at_worst" = true)
    (k9 : PySem.W.keepIn K (.ref f9) = true)
    (a10 : PySem.W.nsIn K mainGlobals "call_length" = some (some (.ref f10)))
    (l10 : K.lookup f10 = some ⟨oc10, od10, .func (PySem.W.fnOf "call_length" "call_length" (defArgs sCL) (defBody sCL) (defScope sCL) .none kV10 dc10 pm10 an10 cd10 ct10), sl10⟩)
    (c10 : PySem.W.codeIn K cd10 "call_length" = true)
    (k10 : PySem.W.keepIn K (.ref f10) = true)
    (a11 : PySem.W.nsIn K mainGlobals "answer" = some (some (.ref f11)))
    (l11 : K.lookup f11 = some ⟨oc11, od11, .func (PySem.W.fnOf "answer" "answer" (defArgs sAns) (defBody sAns) (defScope sAns) .none kV11 dc11 pm11 an11 cd11 ct11), sl11⟩)
    (c11 : PySem.W.codeIn K cd11 "answer" = true)
    (k11 : PySem.W.keepIn K (.ref f11) = true)
    (a12 : PySem.W.nsIn K mainGlobals "answers" = some (some (.ref f12)))
    (l12 : K.lookup f12 = some ⟨oc12, od12, .func (PySem.W.fnOf "answers" "answers" (defArgs sAll) (defBody sAll) (defScope sAll) .none kV12 dc12 pm12 an12 cd12 ct12), sl12⟩)
    (c12 : PySem.W.codeIn K cd12 "answers" = true)
    (k12 : PySem.W.keepIn K (.ref f12) = true)
    (a13 : PySem.W.findIn K (.ref CT) "__init__" = some (some (.ref f13)))
    (i13 : PySem.W.isFn K (.ref f13) = true)
    (l13 : K.lookup f13 = some ⟨oc13, od13, .func (PySem.W.fnOf "__init__" "Tower.__init__" (defArgs sTI) (defBody sTI) (defScope sTI) .none kV13 dc13 pm13 an13 cd13 ct13), sl13⟩)
    (c13 : PySem.W.codeIn K cd13 "Tower.__init__" = true)
    (k13 : PySem.W.keepIn K (.ref f13) = true)
    (a14 : PySem.W.findIn K (.ref CT) "tells" = some (some (.ref f14)))
    (i14 : PySem.W.isFn K (.ref f14) = true)
    (l14 : K.lookup f14 = some ⟨oc14, od14, .func (PySem.W.fnOf "tells" "Tower.tells" (defArgs sTells) (defBody sTells) (defScope sTells) .none kV14 dc14 pm14 an14 cd14 ct14), sl14⟩)
    (c14 : PySem.W.codeIn K cd14 "Tower.tells" = true)
    (k14 : PySem.W.keepIn K (.ref f14) = true)
    (a15 : PySem.W.findIn K (.ref CC) "__init__" = some (some (.ref f15)))
    (i15 : PySem.W.isFn K (.ref f15) = true)
    (l15 : K.lookup f15 = some ⟨oc15, od15, .func (PySem.W.fnOf "__init__" "Country.__init__" (defArgs sCI) (defBody sCI) (defScope sCI) .none kV15 dc15 pm15 an15 cd15 ct15), sl15⟩)
    (c15 : PySem.W.codeIn K cd15 "Country.__init__" = true)
    (k15 : PySem.W.keepIn K (.ref f15) = true)
    (a16 : PySem.W.findIn K (.ref CC) "begin" = some (some (.ref f16)))
    (i16 : PySem.W.isFn K (.ref f16) = true)
    (l16 : K.lookup f16 = some ⟨oc16, od16, .func (PySem.W.fnOf "begin" "Country.begin" (defArgs sBegin) (defBody sBegin) (defScope sBegin) .none kV16 dc16 pm16 an16 cd16 ct16), sl16⟩)
    (c16 : PySem.W.codeIn K cd16 "Country.begin" = true)
    (k16 : PySem.W.keepIn K (.ref f16) = true)
    (a17 : PySem.W.findIn K (.ref CC) "add_tower" = some (some (.ref f17)))
    (i17 : PySem.W.isFn K (.ref f17) = true)
    (l17 : K.lookup f17 = some ⟨oc17, od17, .func (PySem.W.fnOf "add_tower" "Country.add_tower" (defArgs sAdd) (defBody sAdd) (defScope sAdd) .none kV17 dc17 pm17 an17 cd17 ct17), sl17⟩)
    (c17 : PySem.W.codeIn K cd17 "Country.add_tower" = true)
    (k17 : PySem.W.keepIn K (.ref f17) = true)
    (a18 : PySem.W.findIn K (.ref CC) "told_of" = some (some (.ref f18)))
    (i18 : PySem.W.isFn K (.ref f18) = true)
    (l18 : K.lookup f18 = some ⟨oc18, od18, .func (PySem.W.fnOf "told_of" "Country.told_of" (defArgs sToldOf) (defBody sToldOf) (defScope sToldOf) .none kV18 dc18 pm18 an18 cd18 ct18), sl18⟩)
    (c18 : PySem.W.codeIn K cd18 "Country.told_of" = true)
    (k18 : PySem.W.keepIn K (.ref f18) = true)
    (a19 : PySem.W.findIn K (.ref CC) "fits_reports" = some (some (.ref f19)))
    (i19 : PySem.W.isFn K (.ref f19) = true)
    (l19 : K.lookup f19 = some ⟨oc19, od19, .func (PySem.W.fnOf "fits_reports" "Country.fits_reports" (defArgs sFits) (defBody sFits) (defScope sFits) .none kV19 dc19 pm19 an19 cd19 ct19), sl19⟩)
    (c19 : PySem.W.codeIn K cd19 "Country.fits_reports" = true)
    (k19 : PySem.W.keepIn K (.ref f19) = true)
    (a20 : PySem.W.findIn K (.ref CC) "told_by" = some (some (.ref f20)))
    (i20 : PySem.W.isFn K (.ref f20) = true)
    (l20 : K.lookup f20 = some ⟨oc20, od20, .func (PySem.W.fnOf "told_by" "Country.told_by" (defArgs sToldBy) (defBody sToldBy) (defScope sToldBy) .none kV20 dc20 pm20 an20 cd20 ct20), sl20⟩)
    (c20 : PySem.W.codeIn K cd20 "Country.told_by" = true)
    (k20 : PySem.W.keepIn K (.ref f20) = true)
    (a21 : PySem.W.findIn K (.ref CC) "not_reported" = some (some (.ref f21)))
    (i21 : PySem.W.isFn K (.ref f21) = true)
    (l21 : K.lookup f21 = some ⟨oc21, od21, .func (PySem.W.fnOf "not_reported" "Country.not_reported" (defArgs sNotRep) (defBody sNotRep) (defScope sNotRep) .none kV21 dc21 pm21 an21 cd21 ct21), sl21⟩)
    (c21 : PySem.W.codeIn K cd21 "Country.not_reported" = true)
    (k21 : PySem.W.keepIn K (.ref f21) = true)
    (a22 : PySem.W.findIn K (.ref CC) "cells_left" = some (some (.ref f22)))
    (i22 : PySem.W.isFn K (.ref f22) = true)
    (l22 : K.lookup f22 = some ⟨oc22, od22, .func (PySem.W.fnOf "cells_left" "Country.cells_left" (defArgs sLeft) (defBody sLeft) (defScope sLeft) .none kV22 dc22 pm22 an22 cd22 ct22), sl22⟩)
    (c22 : PySem.W.codeIn K cd22 "Country.cells_left" = true)
    (k22 : PySem.W.keepIn K (.ref f22) = true)
    (a23 : PySem.W.findIn K (.ref CC) "take_report" = some (some (.ref f23)))
    (i23 : PySem.W.isFn K (.ref f23) = true)
    (l23 : K.lookup f23 = some ⟨oc23, od23, .func (PySem.W.fnOf "take_report" "Country.take_report" (defArgs sTake) (defBody sTake) (defScope sTake) .none kV23 dc23 pm23 an23 cd23 ct23), sl23⟩)
    (c23 : PySem.W.codeIn K cd23 "Country.take_report" = true)
    (k23 : PySem.W.keepIn K (.ref f23) = true)
    (a24 : PySem.W.findIn K (.ref CC) "sees" = some (some (.ref f24)))
    (i24 : PySem.W.isFn K (.ref f24) = true)
    (l24 : K.lookup f24 = some ⟨oc24, od24, .func (PySem.W.fnOf "sees" "Country.sees" (defArgs sSees) (defBody sSees) (defScope sSees) .none kV24 dc24 pm24 an24 cd24 ct24), sl24⟩)
    (c24 : PySem.W.codeIn K cd24 "Country.sees" = true)
    (k24 : PySem.W.keepIn K (.ref f24) = true)
    (a25 : PySem.W.findIn K (.ref CC) "whom_to_ask" = some (some (.ref f25)))
    (i25 : PySem.W.isFn K (.ref f25) = true)
    (l25 : K.lookup f25 = some ⟨oc25, od25, .func (PySem.W.fnOf "whom_to_ask" "Country.whom_to_ask" (defArgs sWhom) (defBody sWhom) (defScope sWhom) .none kV25 dc25 pm25 an25 cd25 ct25), sl25⟩)
    (c25 : PySem.W.codeIn K cd25 "Country.whom_to_ask" = true)
    (k25 : PySem.W.keepIn K (.ref f25) = true)
    (a26 : PySem.W.findIn K (.ref CC) "depth" = some (some (.ref f26)))
    (i26 : PySem.W.isFn K (.ref f26) = true)
    (l26 : K.lookup f26 = some ⟨oc26, od26, .func (PySem.W.fnOf "depth" "Country.depth" (defArgs sDepth) (defBody sDepth) (defScope sDepth) .none kV26 dc26 pm26 an26 cd26 ct26), sl26⟩)
    (c26 : PySem.W.codeIn K cd26 "Country.depth" = true)
    (k26 : PySem.W.keepIn K (.ref f26) = true)
    (v0 : PySem.W.nsIn K mainGlobals "ADDED_TO_MARKS" = some (some (.int (10) t0)))
    (v1 : PySem.W.nsIn K mainGlobals "BEGINS" = some (some (.int (0) t1)))
    (v2 : PySem.W.nsIn K mainGlobals "TOWER" = some (some (.int (1) t2)))
    (v3 : PySem.W.nsIn K mainGlobals "REPORT" = some (some (.int (2) t3)))
    (v4 : PySem.W.nsIn K mainGlobals "MAY" = some (some (.int (3) t4)))
    (v5 : PySem.W.nsIn K mainGlobals "SEES" = some (some (.int (4) t5)))
    (v6 : PySem.W.nsIn K mainGlobals "ASK" = some (some (.int (5) t6)))
    (v7 : PySem.W.nsIn K mainGlobals "DEPTH" = some (some (.int (6) t7)))
    (v8 : PySem.W.nsIn K mainGlobals "SHORTEST_SIDE" = some (some (.int (2) t8)))
    (v9 : PySem.W.nsIn K mainGlobals "LONGEST_SIDE" = some (some (.int (8) t9)))
    (v10 : PySem.W.nsIn K mainGlobals "FARTHEST" = some (some (.int (200) t10)))
    (v11 : PySem.W.nsIn K mainGlobals "MOST_TOWERS" = some (some (.int (5) t11)))
    (v12 : PySem.W.nsIn K mainGlobals "MOST_MARK_NUMBERS" = some (some (.int (16) t12)))
    (v13 : PySem.W.nsIn K mainGlobals "HIGHEST_MARK_NUMBER" = some (some (.int (20) t13)))
    (v14 : PySem.W.nsIn K mainGlobals "OUT_OF_BOUNDS" = some (some (.int (-1) t14)))
    (v15 : PySem.W.nsIn K mainGlobals "NOT_THERE" = some (some (.int (-2) t15)))
    (v16 : PySem.W.nsIn K mainGlobals "MARKS_NOT_ROUND" = some (some (.int (-3) t16)))
    (v17 : PySem.W.nsIn K mainGlobals "HAS_REPORTED" = some (some (.int (-4) t17)))
    (v18 : PySem.W.nsIn K mainGlobals "TOO_MANY_TOWERS" = some (some (.int (-5) t18)))
    (v19 : PySem.W.nsIn K mainGlobals "NO_CELL_LEFT" = some (some (.int (-6) t19)))
    (v20 : PySem.W.nsIn K mainGlobals "NOBODY_TO_ASK" = some (some (.int (-6) t20)))
    (z0 : PySem.W.nsIn K mainGlobals "len" = some none)
    (z1 : PySem.W.nsIn K mainGlobals "range" = some none)
    (z2 : PySem.W.nsIn K mainGlobals "all" = some none)
    (z3 : PySem.W.nsIn K mainGlobals "list" = some none)
    (z4 : PySem.W.nsIn K mainGlobals "max" = some none)
    (z5 : PySem.W.nsIn K mainGlobals "min" = some none) :
    ∃ fd : FuncData, (∀ (s : Shared) (us : List Value), us.length = (["calls"] : List Str).length → BindsTo s fd ⟨us, []⟩ ((["calls"] : List Str).zip us)) ∧ ∀ base : Heap, K.In base → base.Ns mainGlobals mg → FnOk P w K mg base CX0 11 fa fd ["calls"] (spAll K) := by
  have e := hfa.symm.trans (PySem.W.mg_of X G a12)
  cases e
  have TT : TTxt K CT := ⟨⟨pgCT, hdCT, poCT, saCT⟩, n0CT, n1CT, n2CT, n3CT⟩
  have TC : CTxt K CC := ⟨⟨pgCC, hdCC, poCC, saCC⟩, n0CC, n1CC, n2CC, n3CC⟩
  have F0 := fun_mk (st := sHalf) l0 c0 k0
  have b0 := F0.binds (ps := ["direction"]) fun _ _ _ _ _ _ us hl => match us, hl with | [_], _ => rfl
  have F1 := fun_mk (st := sBefore) l1 c1 k1
  have b1 := F1.binds (ps := ["first", "second"]) fun _ _ _ _ _ _ us hl => match us, hl with | [_, _], _ => rfl
  have F2 := fun_mk (st := sMarks) l2 c2 k2
  have b2 := F2.binds (ps := ["numbers"]) fun _ _ _ _ _ _ us hl => match us, hl with | [_], _ => rfl
  have F3 := fun_mk (st := sGo) l3 c3 k3
  have b3 := F3.binds (ps := ["marks"]) fun _ _ _ _ _ _ us hl => match us, hl with | [_], _ => rfl
  have F4 := fun_mk (st := sSec) l4 c4 k4
  have b4 := F4.binds (ps := ["direction", "marks"]) fun _ _ _ _ _ _ us hl => match us, hl with | [_, _], _ => rfl
  have F5 := fun_mk (st := sSide) l5 c5 k5
  have b5 := F5.binds (ps := ["length"]) fun _ _ _ _ _ _ us hl => match us, hl with | [_], _ => rfl
  have F6 := fun_mk (st := sNums) l6 c6 k6
  have b6 := F6.binds (ps := ["numbers"]) fun _ _ _ _ _ _ us hl => match us, hl with | [_], _ => rfl
  have F7 := fun_mk (st := sGrp) l7 c7 k7
  have b7 := F7.binds (ps := ["told", "cells"]) fun _ _ _ _ _ _ us hl => match us, hl with | [_, _], _ => rfl
  have F8 := fun_mk (st := sMost) l8 c8 k8
  have b8 := F8.binds (ps := ["told", "cells"]) fun _ _ _ _ _ _ us hl => match us, hl with | [_, _], _ => rfl
  have F9 := fun_mk (st := sLeast) l9 c9 k9
  have b9 := F9.binds (ps := ["told_by_each", "cells"]) fun _ _ _ _ _ _ us hl => match us, hl with | [_, _], _ => rfl
  have F10 := fun_mk (st := sCL) l10 c10 k10
  have b10 := F10.binds (ps := ["calls", "start"]) fun _ _ _ _ _ _ us hl => match us, hl with | [_, _], _ => rfl
  have F11 := fun_mk (st := sAns) l11 c11 k11
  have b11 := F11.binds (ps := ["country", "call"]) fun _ _ _ _ _ _ us hl => match us, hl with | [_, _], _ => rfl
  have F12 := fun_mk (st := sAll) l12 c12 k12
  have F13 := fun_mk (st := sTI) l13 c13 k13
  have b13 := F13.binds (ps := ["self", "x", "y", "far", "marks"]) fun _ _ _ _ _ _ us hl => match us, hl with | [_, _, _, _, _], _ => rfl
  have F14 := fun_mk (st := sTells) l14 c14 k14
  have b14 := F14.binds (ps := ["self", "x", "y"]) fun _ _ _ _ _ _ us hl => match us, hl with | [_, _, _], _ => rfl
  have F15 := fun_mk (st := sCI) l15 c15 k15
  have b15 := F15.binds (ps := ["self"]) fun _ _ _ _ _ _ us hl => match us, hl with | [_], _ => rfl
  have F16 := fun_mk (st := sBegin) l16 c16 k16
  have b16 := F16.binds (ps := ["self", "wide", "high"]) fun _ _ _ _ _ _ us hl => match us, hl with | [_, _, _], _ => rfl
  have F17 := fun_mk (st := sAdd) l17 c17 k17
  have b17 := F17.binds (ps := ["self", "x", "y", "far", "numbers"]) fun _ _ _ _ _ _ us hl => match us, hl with | [_, _, _, _, _], _ => rfl
  have F18 := fun_mk (st := sToldOf) l18 c18 k18
  have b18 := F18.binds (ps := ["self", "number", "cell"]) fun _ _ _ _ _ _ us hl => match us, hl with | [_, _, _], _ => rfl
  have F19 := fun_mk (st := sFits) l19 c19 k19
  have b19 := F19.binds (ps := ["self", "cell"]) fun _ _ _ _ _ _ us hl => match us, hl with | [_, _], _ => rfl
  have F20 := fun_mk (st := sToldBy) l20 c20 k20
  have b20 := F20.binds (ps := ["self", "number"]) fun _ _ _ _ _ _ us hl => match us, hl with | [_, _], _ => rfl
  have F21 := fun_mk (st := sNotRep) l21 c21 k21
  have b21 := F21.binds (ps := ["self"]) fun _ _ _ _ _ _ us hl => match us, hl with | [_], _ => rfl
  have F22 := fun_mk (st := sLeft) l22 c22 k22
  have b22 := F22.binds (ps := ["self"]) fun _ _ _ _ _ _ us hl => match us, hl with | [_], _ => rfl
  have F23 := fun_mk (st := sTake) l23 c23 k23
  have b23 := F23.binds (ps := ["self", "number", "what"]) fun _ _ _ _ _ _ us hl => match us, hl with | [_, _, _], _ => rfl
  have F24 := fun_mk (st := sSees) l24 c24 k24
  have b24 := F24.binds (ps := ["self", "number", "cell"]) fun _ _ _ _ _ _ us hl => match us, hl with | [_, _, _], _ => rfl
  have F25 := fun_mk (st := sWhom) l25 c25 k25
  have b25 := F25.binds (ps := ["self"]) fun _ _ _ _ _ _ us hl => match us, hl with | [_], _ => rfl
  have F26 := fun_mk (st := sDepth) l26 c26 k26
  have b26 := F26.binds (ps := ["self"]) fun _ _ _ _ _ _ us hl => match us, hl with | [_], _ => rfl
  have g0 : CInt mg "ADDED_TO_MARKS" (10) := ⟨_, PySem.W.mg_of X G v0, _, rfl⟩
  have g1 : CInt mg "BEGINS" (0) := ⟨_, PySem.W.mg_of X G v1, _, rfl⟩
  have g2 : CInt mg "TOWER" (1) := ⟨_, PySem.W.mg_of X G v2, _, rfl⟩
  have g3 : CInt mg "REPORT" (2) := ⟨_, PySem.W.mg_of X G v3, _, rfl⟩
  have g4 : CInt mg "MAY" (3) := ⟨_, PySem.W.mg_of X G v4, _, rfl⟩
  have g5 : CInt mg "SEES" (4) := ⟨_, PySem.W.mg_of X G v5, _, rfl⟩
  have g6 : CInt mg "ASK" (5) := ⟨_, PySem.W.mg_of X G v6, _, rfl⟩
  have g7 : CInt mg "DEPTH" (6) := ⟨_, PySem.W.mg_of X G v7, _, rfl⟩
  have g8 : CInt mg "SHORTEST_SIDE" (2) := ⟨_, PySem.W.mg_of X G v8, _, rfl⟩
  have g9 : CInt mg "LONGEST_SIDE" (8) := ⟨_, PySem.W.mg_of X G v9, _, rfl⟩
  have g10 : CInt mg "FARTHEST" (200) := ⟨_, PySem.W.mg_of X G v10, _, rfl⟩
  have g11 : CInt mg "MOST_TOWERS" (5) := ⟨_, PySem.W.mg_of X G v11, _, rfl⟩
  have g12 : CInt mg "MOST_MARK_NUMBERS" (16) := ⟨_, PySem.W.mg_of X G v12, _, rfl⟩
  have g13 : CInt mg "HIGHEST_MARK_NUMBER" (20) := ⟨_, PySem.W.mg_of X G v13, _, rfl⟩
  have g14 : CInt mg "OUT_OF_BOUNDS" (-1) := ⟨_, PySem.W.mg_of X G v14, _, rfl⟩
  have g15 : CInt mg "NOT_THERE" (-2) := ⟨_, PySem.W.mg_of X G v15, _, rfl⟩
  have g16 : CInt mg "MARKS_NOT_ROUND" (-3) := ⟨_, PySem.W.mg_of X G v16, _, rfl⟩
  have g17 : CInt mg "HAS_REPORTED" (-4) := ⟨_, PySem.W.mg_of X G v17, _, rfl⟩
  have g18 : CInt mg "TOO_MANY_TOWERS" (-5) := ⟨_, PySem.W.mg_of X G v18, _, rfl⟩
  have g19 : CInt mg "NO_CELL_LEFT" (-6) := ⟨_, PySem.W.mg_of X G v19, _, rfl⟩
  have g20 : CInt mg "NOBODY_TO_ASK" (-6) := ⟨_, PySem.W.mg_of X G v20, _, rfl⟩
  have y_len : mg "len" = none := PySem.W.mg_none_of X G z0
  have y_range : mg "range" = none := PySem.W.mg_none_of X G z1
  have y_all : mg "all" = none := PySem.W.mg_none_of X G z2
  have y_list : mg "list" = none := PySem.W.mg_none_of X G z3
  have y_max : mg "max" = none := PySem.W.mg_none_of X G z4
  have y_min : mg "min" = none := PySem.W.mg_none_of X G z5
  refine ⟨PySem.W.fnOf "answers" "answers" (defArgs sAll) (defBody sAll) (defScope sAll) .none kV12 dc12 pm12 an12 cd12 ct12, fun s us hu => match us, hu with | [_], _ => .of_eq rfl, fun base _ _ => ?_⟩
  have nHalf : Fn P w K mg base "half_of_round" 1 ["direction"] (spHalf K) := ⟨f0, _, PySem.W.mg_of X G a0, k0, b0, ok_half F0⟩
  have nBefore : Fn P w K mg base "comes_before" 2 ["first", "second"] (spBefore K) := ⟨f1, _, PySem.W.mg_of X G a1, k1, b1, ok_before F1 nHalf⟩
  have nMarks : Fn P w K mg base "marks_from" 1 ["numbers"] (spMarks K) := ⟨f2, _, PySem.W.mg_of X G a2, k2, b2, ok_marks F2 g0 y_range y_len⟩
  have nGo : Fn P w K mg base "go_round" 3 ["marks"] (spGo K) := ⟨f3, _, PySem.W.mg_of X G a3, k3, b3, ok_go F3 nBefore y_range y_len⟩
  have nSec : Fn P w K mg base "sector_of" 3 ["direction", "marks"] (spSec K) := ⟨f4, _, PySem.W.mg_of X G a4, k4, b4, ok_sec F4 nBefore y_range y_len⟩
  have nTower : Kl P w K mg base "Tower" CT 1 ["self", "x", "y", "far", "marks"] (spTI CT) := ⟨f13, _, PySem.W.mg_of X G aCT, ⟨mkCT, a13, i13, kcCT⟩, b13, ok_ti F13 TT⟩
  have nTells : Mt P w K mg base CT "tells" 4 ["self", "x", "y"] (spTells K CT) := ⟨f14, _, ⟨a14, i14, k14⟩, b14, ok_tells F14 TT nSec y_len⟩
  have nSide : Fn P w K mg base "is_side" 1 ["length"] spSide := ⟨f5, _, PySem.W.mg_of X G a5, k5, b5, ok_side F5 g8 g9⟩
  have nNums : Fn P w K mg base "are_mark_numbers" 1 ["numbers"] (spNums K) := ⟨f6, _, PySem.W.mg_of X G a6, k6, b6, ok_nums F6 g12 g13 y_len y_all⟩
  have nGrp : Fn P w K mg base "groups_told_the_same" 1 ["told", "cells"] (spGrp K) := ⟨f7, _, PySem.W.mg_of X G a7, k7, b7, ok_grp F7 y_list⟩
  have nMost : Fn P w K mg base "most_told_the_same" 2 ["told", "cells"] (spMost K) := ⟨f8, _, PySem.W.mg_of X G a8, k8, b8, ok_most F8 nGrp y_len y_max⟩
  have nLeast : Fn P w K mg base "least_asked_at_worst" 8 ["told_by_each", "cells"] (spLeast K 6) := ⟨f9, _, PySem.W.mg_of X G a9, k9, b9, ok_least F9 (PySem.W.mg_of X G a9) b9 nGrp y_len y_max y_range 6⟩
  have nCountry : Kl P w K mg base "Country" CC 1 ["self"] (spCI CC) := ⟨f15, _, PySem.W.mg_of X G aCC, ⟨mkCC, a15, i15, kcCC⟩, b15, ok_ci F15 TC g8⟩
  have nBegin : Mt P w K mg base CC "begin" 2 ["self", "wide", "high"] (spBegin K CC CT) := ⟨f16, _, ⟨a16, i16, k16⟩, b16, ok_begin F16 TC nSide g14⟩
  have nAdd : Mt P w K mg base CC "add_tower" 4 ["self", "x", "y", "far", "numbers"] (spAdd K CC CT) := ⟨f17, _, ⟨a17, i17, k17⟩, b17, ok_add F17 TC nNums nMarks nGo nTower y_len g10 g14 g16 g11 g18⟩
  have nToldOf : Mt P w K mg base CC "told_of" 5 ["self", "number", "cell"] (spToldOf K CC CT) := ⟨f18, _, ⟨a18, i18, k18⟩, b18, ok_toldOf F18 TC TT nTells⟩
  have nFits : Mt P w K mg base CC "fits_reports" 6 ["self", "cell"] (spFits K CC CT) := ⟨f19, _, ⟨a19, i19, k19⟩, b19, ok_fits F19 TC nToldOf⟩
  have nToldBy : Mt P w K mg base CC "told_by" 6 ["self", "number"] (spToldBy K CC CT) := ⟨f20, _, ⟨a20, i20, k20⟩, b20, ok_toldBy F20 TC nToldOf y_range⟩
  have nNotRep : Mt P w K mg base CC "not_reported" 1 ["self"] (spNotRep K CC CT) := ⟨f21, _, ⟨a21, i21, k21⟩, b21, ok_notRep F21 TC y_range y_len⟩
  have nLeft : Mt P w K mg base CC "cells_left" 7 ["self"] (spLeft K CC CT) := ⟨f22, _, ⟨a22, i22, k22⟩, b22, ok_left F22 TC nFits y_range⟩
  have nTake : Mt P w K mg base CC "take_report" 8 ["self", "number", "what"] (spTake K CC CT) := ⟨f23, _, ⟨a23, i23, k23⟩, b23, ok_take F23 TC TT nToldOf nLeft y_len g15 g14 g17 g19⟩
  have nSees : Mt P w K mg base CC "sees" 6 ["self", "number", "cell"] (spSees K CC CT) := ⟨f24, _, ⟨a24, i24, k24⟩, b24, ok_sees F24 TC nToldOf y_len g15⟩
  have nWhom : Mt P w K mg base CC "whom_to_ask" 8 ["self"] (spWhom K CC CT) := ⟨f25, _, ⟨a25, i25, k25⟩, b25, ok_whom F25 TC nNotRep nLeft nToldBy nMost y_len y_min g20⟩
  have nDepth : Mt P w K mg base CC "depth" 9 ["self"] (spDepth K CC CT) := ⟨f26, _, ⟨a26, i26, k26⟩, b26, ok_depth F26 TC nNotRep nLeft nToldBy nLeast⟩
  have nCL : Fn P w K mg base "call_length" 1 ["calls", "start"] (spCL K) := ⟨f10, _, PySem.W.mg_of X G a10, k10, b10, ok_cl F10 ⟨g1, g2, g3, g4, g5, g6, g7⟩⟩
  have nAns : Fn P w K mg base "answer" 10 ["country", "call"] (spAns K CC CT) := ⟨f11, _, PySem.W.mg_of X G a11, k11, b11, ok_ans F11 TC ⟨g1, g2, g3, g4, g5, g6, g7⟩ y_len nBegin nAdd nTake nLeft nSees nWhom nDepth⟩
  exact ok_all F12 nCountry nCL nAns y_len
theorem frz_of {K : PySem.W.Frag} {H : Hp} {a : Addr} {xs : List V} (hO : OnlyF H) (h : SqL K H a xs) : Frz K H a xs := by
  rcases h with (h | ⟨o, h⟩) | h
  · rcases hO a with z | ⟨o, u, z⟩
    · rw [h] at z; cases z
    · rw [h] at z; cases z
  · exact .inl ⟨o, h⟩
  · exact .inr h
end Fw
open PySem PySem.W PyProof.Rows
set_option maxRecDepth 100000 in
set_option maxHeartbeats 0 in
theorem PySem.Challenge.cw_firewatch_s01_answers_holds : PySem.Challenge.rw_firewatch_s01_answers.Holds := by
  w_on; k_headS; (case hw => exact ⟨[.list [.int 3]], by decide +kernel, by decide +kernel⟩)
  k_fillS
  refine L2.walk_specK (r := PySem.Challenge.rw_firewatch_s01_answers) (k := 11) (CX := L2.CX0) (ps := ["calls"]) (sp := Fw.spAll) (by decide +kernel) rfl rfl ⟨rfl, by decide, by decide⟩ (fun w h Y => PySem.W.kIn_of Y) ?F ?S (fun _ _ _ _ z => z)
  case F =>
    intro w mg fa h Y KX G hmg
    refine' Fw.all_mk KX G hmg ?aCT ?pgCT ?hdCT ?poCT ?saCT ?mkCT ?kcCT ?n0CT ?n1CT ?n2CT ?n3CT ?aCC ?pgCC ?hdCC ?poCC ?saCC ?mkCC ?kcCC ?n0CC ?n1CC ?n2CC ?n3CC ?a0 ?l0 ?c0 ?k0 ?a1 ?l1 ?c1 ?k1 ?a2 ?l2 ?c2 ?k2 ?a3 ?l3 ?c3 ?k3 ?a4 ?l4 ?c4 ?k4 ?a5 ?l5 ?c5 ?k5 ?a6 ?l6 ?c6 ?k6 ?a7 ?l7 ?c7 ?k7 ?a8 ?l8 ?c8 ?k8 ?a9 ?l9 ?c9 ?k9 ?a10 ?l10 ?c10 ?k10 ?a11 ?l11 ?c11 ?k11 ?a12 ?l12 ?c12 ?k12 ?a13 ?i13 ?l13 ?c13 ?k13 ?a14 ?i14 ?l14 ?c14 ?k14 ?a15 ?i15 ?l15 ?c15 ?k15 ?a16 ?i16 ?l16 ?c16 ?k16 ?a17 ?i17 ?l17 ?c17 ?k17 ?a18 ?i18 ?l18 ?c18 ?k18 ?a19 ?i19 ?l19 ?c19 ?k19 ?a20 ?i20 ?l20 ?c20 ?k20 ?a21 ?i21 ?l21 ?c21 ?k21 ?a22 ?i22 ?l22 ?c22 ?k22 ?a23 ?i23 ?l23 ?c23 ?k23 ?a24 ?i24 ?l24 ?c24 ?k24 ?a25 ?i25 ?l25 ?c25 ?k25 ?a26 ?i26 ?l26 ?c26 ?k26 ?v0 ?v1 ?v2 ?v3 ?v4 ?v5 ?v6 ?v7 ?v8 ?v9 ?v10 ?v11 ?v12 ?v13 ?v14 ?v15 ?v16 ?v17 ?v18 ?v19 ?v20 ?z0 ?z1 ?z2 ?z3 ?z4 ?z5
    (case aCT => k_is)
    (case pgCT => k_is)
    (case hdCT => k_is)
    (case poCT => k_is)
    (case saCT => k_is)
    (case mkCT => k_is)
    (case kcCT => k_is)
    (case n0CT => k_is)
    (case n1CT => k_is)
    (case n2CT => k_is)
    (case n3CT => k_is)
    (case aCC => k_is)
    (case pgCC => k_is)
    (case hdCC => k_is)
    (case poCC => k_is)
    (case saCC => k_is)
    (case mkCC => k_is)
    (case kcCC => k_is)
    (case n0CC => k_is)
    (case n1CC => k_is)
    (case n2CC => k_is)
    (case n3CC => k_is)
    (case a0 => k_is)
    (case l0 => k_is)
    (case c0 => k_is)
    (case k0 => k_is)
    (case a1 => k_is)
    (case l1 => k_is)
    (case c1 => k_is)
    (case k1 => k_is)
    (case a2 => k_is)
    (case l2 => k_is)
    (case c2 => k_is)
    (case k2 => k_is)
    (case a3 => k_is)
    (case l3 => k_is)
    (case c3 => k_is)
    (case k3 => k_is)
    (case a4 => k_is)
    (case l4 => k_is)
    (case c4 => k_is)
    (case k4 => k_is)
    (case a5 => k_is)
    (case l5 => k_is)
    (case c5 => k_is)
    (case k5 => k_is)
    (case a6 => k_is)
    (case l6 => k_is)
    (case c6 => k_is)
    (case k6 => k_is)
    (case a7 => k_is)
    (case l7 => k_is)
    (case c7 => k_is)
    (case k7 => k_is)
    (case a8 => k_is)
    (case l8 => k_is)
    (case c8 => k_is)
    (case k8 => k_is)
    (case a9 => k_is)
    (case l9 => k_is)
    (case c9 => k_is)
    (case k9 => k_is)
    (case a10 => k_is)
    (case l10 => k_is)
    (case c10 => k_is)
    (case k10 => k_is)
    (case a11 => k_is)
    (case l11 => k_is)
    (case c11 => k_is)
    (case k11 => k_is)
    (case a12 => k_is)
    (case l12 => k_is)
    (case c12 => k_is)
    (case k12 => k_is)
    (case a13 => k_is)
    (case i13 => k_is)
    (case l13 => k_is)
    (case c13 => k_is)
    (case k13 => k_is)
    (case a14 => k_is)
    (case i14 => k_is)
    (case l14 => k_is)
    (case c14 => k_is)
    (case k14 => k_is)
    (case a15 => k_is)
    (case i15 => k_is)
    (case l15 => k_is)
    (case c15 => k_is)
    (case k15 => k_is)
    (case a16 => k_is)
    (case i16 => k_is)
    (case l16 => k_is)
    (case c16 => k_is)
    (case k16 => k_is)
    (case a17 => k_is)
    (case i17 => k_is)
    (case l17 => k_is)
    (case c17 => k_is)
    (case k17 => k_is)
    (case a18 => k_is)
    (case i18 => k_is)
    (case l18 => k_is)
    (case c18 => k_is)
    (case k18 => k_is)
    (case a19 => k_is)
    (case i19 => k_is)
    (case l19 => k_is)
    (case c19 => k_is)
    (case k19 => k_is)
    (case a20 => k_is)
    (case i20 => k_is)
    (case l20 => k_is)
    (case c20 => k_is)
    (case k20 => k_is)
    (case a21 => k_is)
    (case i21 => k_is)
    (case l21 => k_is)
    (case c21 => k_is)
    (case k21 => k_is)
    (case a22 => k_is)
    (case i22 => k_is)
    (case l22 => k_is)
    (case c22 => k_is)
    (case k22 => k_is)
    (case a23 => k_is)
    (case i23 => k_is)
    (case l23 => k_is)
    (case c23 => k_is)
    (case k23 => k_is)
    (case a24 => k_is)
    (case i24 => k_is)
    (case l24 => k_is)
    (case c24 => k_is)
    (case k24 => k_is)
    (case a25 => k_is)
    (case i25 => k_is)
    (case l25 => k_is)
    (case c25 => k_is)
    (case k25 => k_is)
    (case a26 => k_is)
    (case i26 => k_is)
    (case l26 => k_is)
    (case c26 => k_is)
    (case k26 => k_is)
    (case v0 => k_is)
    (case v1 => k_is)
    (case v2 => k_is)
    (case v3 => k_is)
    (case v4 => k_is)
    (case v5 => k_is)
    (case v6 => k_is)
    (case v7 => k_is)
    (case v8 => k_is)
    (case v9 => k_is)
    (case v10 => k_is)
    (case v11 => k_is)
    (case v12 => k_is)
    (case v13 => k_is)
    (case v14 => k_is)
    (case v15 => k_is)
    (case v16 => k_is)
    (case v17 => k_is)
    (case v18 => k_is)
    (case v19 => k_is)
    (case v20 => k_is)
    (case z0 => k_is)
    (case z1 => k_is)
    (case z2 => k_is)
    (case z3 => k_is)
    (case z4 => k_is)
    (case z5 => k_is)
  case S =>
    intro K H xs a hO hwi hask hx
    cases hx with
    | cons h1 h2 =>
      cases h2
      cases h1 with
      | lst hs ha =>
        have e := L2.ints_dw a.1 _ ha
        subst e
        exact ⟨_, a.1, rfl, Fw.frz_of hO hs, hask, fun H' p hp => .lst (L2.SqL.of hp) (L2.dw_ints _)⟩
#print axioms PySem.Challenge.cw_firewatch_s01_answers_holds
