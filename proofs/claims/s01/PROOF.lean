import PyProof.Rows.All
import Wide.All
import OpenK.AllK
import Wide.FinOn
import PyProof.EqAt
import PyProof.EqKinds
import PyProof.TupleCall
import KE.BitLaws
import PyProof.Rows.SortShellAny
import Open.SpecLaws
import KE.OsHead
import KE.OsGo
import PySem.Challenge.RW_sheetreader_s01_answers
section
set_option Elab.async false
set_option linter.all false
set_option maxRecDepth 100000
namespace L2
open PySem PySem.Spec PyProof.Rows
abbrev Key := Sum Int Str
def keyIs : Key → Value → Bool
  | .inl k, v => Value.isInt k v
  | .inr x, v => Value.isStrOf x v
def keyH (w : World) : Key → Int
  | .inl k => hashInt k
  | .inr x => hashStr w x
theorem keyIs_shape : ∀ {k : Key} {v : Value}, keyIs k v = true → (∃ i t, k = Sum.inl i ∧ v = Value.int i t) ∨ (∃ x t, k = Sum.inr x ∧ v = Value.str x t)
  | .inl i, v, h => by
    obtain ⟨t, e⟩ := Value.isInt_shape (k := i) (v := v) h
    exact .inl ⟨i, t, rfl, e⟩
  | .inr x, v, h => by
    obtain ⟨t, e⟩ := Value.isStrOf_shape (x := x) (v := v) h
    exact .inr ⟨x, t, rfl, e⟩
theorem key_ll (a b : Int) : decide ((Sum.inl a : Key) = Sum.inl b) = (a == b) := by
  by_cases e : a = b
  · subst e; simp
  · have h : ¬ (Sum.inl a : Key) = Sum.inl b := fun q => e (Sum.inl.inj q)
    rw [decide_eq_false h]
    exact (beq_eq_false_iff_ne.mpr e).symm
theorem key_rr (a b : Str) : decide ((Sum.inr a : Key) = Sum.inr b) = decide (a = b) := by
  by_cases e : a = b
  · subst e; simp
  · have h : ¬ (Sum.inr a : Key) = Sum.inr b := fun q => e (Sum.inr.inj q)
    rw [decide_eq_false h, decide_eq_false e]
theorem key_lr (a : Int) (b : Str) : decide ((Sum.inl a : Key) = Sum.inr b) = false := decide_eq_false (fun q => nomatch q)
theorem key_rl (a : Str) (b : Int) : decide ((Sum.inr a : Key) = Sum.inl b) = false := decide_eq_false (fun q => nomatch q)
def mixKind (prog : Program) (w : World) : PySem.KeyKind prog w Key where
  is := keyIs
  hash := keyH w
  inj := fun v a b ha hb => by
    rcases keyIs_shape ha with ⟨i, t, rfl, rfl⟩ | ⟨x, t, rfl, rfl⟩
    · rcases keyIs_shape hb with ⟨j, u, rfl, e⟩ | ⟨y, u, rfl, e⟩
      · injection e with e1 _; rw [e1]
      · exact nomatch e
    · rcases keyIs_shape hb with ⟨j, u, rfl, e⟩ | ⟨y, u, rfl, e⟩
      · exact nomatch e
      · injection e with e1 _; rw [e1]
  byValue := fun k v h => by
    rcases keyIs_shape h with ⟨i, t, rfl, rfl⟩ | ⟨x, t, rfl, rfl⟩ <;> rfl
  pyHash := fun hv h => by
    rcases keyIs_shape hv with ⟨i, t, rfl, rfl⟩ | ⟨x, t, rfl, rfl⟩
    · exact wpAny_pyHash_int h
    · exact wpAny_pyHash_str h
  eqBool := fun hu hv h => by
    rcases keyIs_shape hu with ⟨i, t, rfl, rfl⟩ | ⟨x, t, rfl, rfl⟩
    · rcases keyIs_shape hv with ⟨j, u, rfl, rfl⟩ | ⟨y, u, rfl, rfl⟩
      · rw [key_ll] at h; exact wpAny_eqBool_int h
      · rw [key_lr] at h; exact SeqAt.EqAt.int_str i t y u _ _ _ _ h
    · rcases keyIs_shape hv with ⟨j, u, rfl, rfl⟩ | ⟨y, u, rfl, rfl⟩
      · rw [key_rl] at h; exact SeqAt.EqAt.str_int x t j u _ _ _ _ h
      · rw [key_rr] at h; exact wpAny_eqBool_str h
  «strs» := fun k x t v h => by
    rcases keyIs_shape h with ⟨i, u, rfl, e⟩ | ⟨y, u, rfl, e⟩
    · exact nomatch e
    · injection e with e1 _
      subst e1
      cases v <;> rfl
end L2
namespace L2
open PySem PySem.Spec PyProof.Rows
inductive V where
  | non | bl (b : Bool) | int (i : Int) | str (x : Str) | byt (b : Array UInt8) | flt (b : UInt64) | ref (a : Addr) | ty (n : String)
  deriving DecidableEq
def RelV : V → Value → Prop
  | .non, u => u = Value.none
  | .bl b, u => u = Value.bool b
  | .int i, u => ∃ t, u = Value.int i t
  | .str x, u => ∃ t, u = Value.str x t
  | .byt b, u => ∃ t, u = Value.bytes b t
  | .flt b, u => ∃ t, u = Value.float b t
  | .ref a, u => u = Value.ref a
  | .ty n, u => u = Value.type n
abbrev Vals : List V → List Value → Prop := Paired RelV
theorem Vals.length {xs : List V} {us : List Value} (r : Vals xs us) : xs.length = us.length := Paired.length r
theorem Vals.get : ∀ {xs : List V} {us : List Value} {i : Nat} {x : V}, Vals xs us → xs[i]? = some x → ∃ u, us[i]? = some u ∧ RelV x u
  | _, _, _, _, .nil, e => by simp at e
  | _, _, 0, _, .cons r _, e => by simp at e; subst e; exact ⟨_, rfl, r⟩
  | _, _, i + 1, x, .cons _ t, e => by
    obtain ⟨u, h1, h2⟩ := Vals.get (i := i) (x := x) t (by simpa using e)
    exact ⟨u, by simpa using h1, h2⟩
theorem Vals.set {x : V} {u : Value} (r : RelV x u) : ∀ {xs : List V} {us : List Value} (i : Nat), Vals xs us → Vals (xs.set i x) (us.set i u)
  | _, _, _, .nil => .nil
  | _, _, 0, .cons _ t => .cons r t
  | _, _, i + 1, .cons q t => .cons q (Vals.set r i t)
theorem Vals.append : ∀ {xs ys : List V} {us ws : List Value}, Vals xs us → Vals ys ws → Vals (xs ++ ys) (us ++ ws)
  | _, _, _, _, .nil, s => s
  | _, _, _, _, .cons r t, s => .cons r (Vals.append t s)
theorem Vals.take : ∀ {xs : List V} {us : List Value} (n : Nat), Vals xs us → Vals (xs.take n) (us.take n)
  | _, _, 0, _ => .nil
  | _, _, _ + 1, .nil => .nil
  | _, _, n + 1, .cons r t => .cons r (Vals.take n t)
theorem Vals.drop : ∀ {xs : List V} {us : List Value} (n : Nat), Vals xs us → Vals (xs.drop n) (us.drop n)
  | _, _, 0, r => r
  | _, _, _ + 1, .nil => .nil
  | _, _, n + 1, .cons _ t => Vals.drop n t
def RelO : Option V → Option Value → Prop
  | some v, some u => RelV v u
  | none, none => True
  | _, _ => False
def KV {κ : Type} : List (κ × V) → List (κ × Value) → Prop := Paired fun (p : κ × V) (q : κ × Value) => p.1 = q.1 ∧ RelV p.2 q.2
def kV : Key → V
  | .inl i => .int i
  | .inr x => .str x
inductive HO where
  /-- a list -/
  | lst (xs : List V)
  /-- a tuple (never changes) -/
  | tup (xs : List V)
  /-- a dict whose keys are ints and texts; one whose keys are tuples of ints and texts (the empty one is both) -/
  | dK (kvs : List (Key × V)) | dT (kvs : List (List Key × V))
  /-- a set of ints: its members, its size -/
  | set (S : Int → Bool) (n : Nat)
  /-- an instance of the class at C, its dict at dx, its attributes -/
  | ins (C dx : Addr) (fs : List (Str × V))
  /-- the dict of the instance at x -/
  | own (x : Addr)
  /-- the dict of an exception -/
  | xd (fs : List (Str × V))
  /-- a bound method, f of x -/
  | met (f x : Addr)
  /-- a range object lo, lo + 1, .. below hi -/
  | rng (lo hi : Int)
  /-- a thing that is known to the object (the script; a dict while a loop walks it): read, never written while it is so -/
  | frz (o : Obj) (u : HO)
  /-- a code object's table -/
  | tbl (ps : Array Value)
  /-- any other thing, by what is true of its one object (a def of one's own: SetO a S n := HO.ext fun h => ..) -/
  | ext (φ : Heap → Prop)
abbrev Hp := Addr → Option HO
def upd (H : Hp) (a : Addr) (o : HO) : Hp := fun b => if b = a then some o else H b
theorem upd_same {H : Hp} {a : Addr} {o : HO} : upd H a o a = some o := by unfold upd; rw [if_pos rfl]
theorem upd_ne {H : Hp} {a b : Addr} {o : HO} (h : b ≠ a) : upd H a o b = H b := by unfold upd; rw [if_neg h]
theorem ne_of_none {H : Hp} {a b : Addr} {o : HO} (h : H a = some o) (h' : H b = none) : a ≠ b := by
  intro e; subst e; rw [h] at h'; cases h'
section
variable (P : Program) (w : World)
def ObjOk (H : Hp) (h : Heap) (a : Addr) : HO → Prop
  | .lst xs => xs.length ≤ sizeLine ∧ ∃ (its : List Value) (n : Nat), Vals xs its ∧ h.get? a = some { cls := .type "list", data := .seq its.toArray n }
  | .tup xs => xs.length ≤ sizeLine ∧ ∃ its : List Value, Vals xs its ∧ IsTup h a its.toArray
  | .dK kvs => kvs.length ≤ sizeLine ∧ (a == sysModules) = false ∧ ∃ vs, KV kvs vs ∧ h.DictOf (mixKind P w) a vs
  | .dT kvs => kvs.length ≤ sizeLine ∧ (a == sysModules) = false ∧ ∃ xs : List (List Key × Addr × Value),
      Paired (fun (p : List Key × V) (q : List Key × Addr × Value) => p.1 = q.1 ∧ H q.2.1 = some (.tup (p.1.map kV)) ∧ RelV p.2 q.2.2) kvs xs ∧
      ∃ o es ep, h.get? a = some o ∧ o.ExactDict ∧ o.data = .dict es ep ∧ es.toList = xs.map (entryOfKey (tupleKind (mixKind P w))) ∧ (xs.map (·.1)).Nodup
  | .set S n => h.SetOf (intKind P w) a S n
  | .ins C dx fs => H dx = some (.own a) ∧ fs.length ≤ 1000 ∧ dx ≠ a ∧ h.get? a = some (PySem.W.instObj C dx) ∧
      ∃ mA, h.Ns1 dx mA ∧ (∀ f, RelO (fs.lookup f) (mA f)) ∧ PySem.Within mA (fs.map (·.1))
  | .own _ => ∃ o, h.get? a = some o
  | .xd fs => ∃ mA, h.Ns1 a mA ∧ ∀ f, RelO (fs.lookup f) (mA f)
  | .rng lo hi => ∃ t u v, h.get? a = some { cls := .type "range", data := .fields #[.int lo t, .int hi u, .int 1 v] }
  | .frz o u => h.get? a = some o ∧ ObjOk H h a u
  | .tbl ps => h.get? a = some { cls := .none, data := .fields ps }
  | .met f x => h.get? a = some (PySem.W.methodObj (.ref f) (.ref x))
  | .ext φ => φ h ∧ (∃ o, h.get? a = some o) ∧ ∀ h1 h2 : Heap, φ h1 → (∀ o, h1.get? a = some o → h2.get? a = some o) → φ h2
def HOk (H : Hp) (h : Heap) : Prop := ∀ a o, H a = some o → ObjOk P w H h a o
end
section
variable {P : Program} {w : World} {H H' : Hp} {h h' : Heap} {a : Addr} {o : HO}
theorem ObjOk.lt (x : ObjOk P w H h a o) : a < h.objs.size := by
  cases o with
  | lst xs => obtain ⟨_, _, _, _, e⟩ := x; exact Heap.lt_size e
  | tup xs => obtain ⟨_, _, _, p⟩ := x; exact p.lt
  | dK kvs => obtain ⟨_, _, _, _, o, _, _, e, _⟩ := x; exact Heap.lt_size e
  | dT kvs => obtain ⟨_, _, _, _, o, _, _, e, _⟩ := x; exact Heap.lt_size e
  | set S n => obtain ⟨o, _, _, _, e, _⟩ := x; exact Heap.lt_size e
  | ins C dx fs => obtain ⟨_, _, _, e, _⟩ := x; exact Heap.lt_size e
  | own y => obtain ⟨_, e⟩ := x; exact Heap.lt_size e
  | xd fs => obtain ⟨_, ⟨_, _, _, e, _⟩, _⟩ := x; exact Heap.lt_size e
  | rng lo hi => obtain ⟨_, _, _, e⟩ := x; exact Heap.lt_size e
  | frz ob u => obtain ⟨e, _⟩ := x; exact Heap.lt_size e
  | tbl ps => exact Heap.lt_size (show h.get? a = some _ from x)
  | met f y => exact Heap.lt_size (show h.get? a = some _ from x)
  | ext φ => obtain ⟨_, ⟨_, e⟩, _⟩ := x; exact Heap.lt_size e
theorem Paired.mapP {α β : Type} {F G : α → β → Prop} : ∀ {l₁ : List α} {l₂ : List β}, Paired F l₁ l₂ → (∀ a b, F a b → G a b) → Paired G l₁ l₂
  | _, _, .nil, _ => .nil
  | _, _, .cons r t, f => .cons (f _ _ r) (Paired.mapP t f)
theorem ObjOk.stay (x : ObjOk P w H h a o) (k : ∀ b u, (b = a ∨ H b = some (.own a)) → h.get? b = some u → h'.get? b = some u)
    (ho : ∀ b, H b = some (.own a) → H' b = some (.own a)) (ht : ∀ b xs, H b = some (.tup xs) → H' b = some (.tup xs)) : ObjOk P w H' h' a o := by
  induction o with
  | lst xs => obtain ⟨z, its, n, r, e⟩ := x; exact ⟨z, its, n, r, k _ _ (.inl rfl) e⟩
  | tup xs => obtain ⟨z, its, r, ob, e, c⟩ := x; exact ⟨z, its, r, ob, k _ _ (.inl rfl) e, c⟩
  | dK kvs => obtain ⟨z, y, vs, r, ob, es, ep, e, c⟩ := x; exact ⟨z, y, vs, r, ob, es, ep, k _ _ (.inl rfl) e, c⟩
  | dT kvs =>
    obtain ⟨z, y, xs, r, ob, es, ep, e, c⟩ := x
    exact ⟨z, y, xs, Paired.mapP r fun p q z => ⟨z.1, ht _ _ z.2.1, z.2.2⟩, ob, es, ep, k _ _ (.inl rfl) e, c⟩
  | set S n => obtain ⟨ob, es, ep, t, e, c⟩ := x; exact ⟨ob, es, ep, t, k _ _ (.inl rfl) e, c⟩
  | ins C dx fs =>
    obtain ⟨d, z, ne, e, mA, ⟨od, es, ep, e2, c⟩, r⟩ := x
    exact ⟨ho _ d, z, ne, k _ _ (.inl rfl) e, mA, ⟨od, es, ep, k _ _ (.inr d) e2, c⟩, r⟩
  | own y => obtain ⟨ob, e⟩ := x; exact ⟨ob, k _ _ (.inl rfl) e⟩
  | xd fs => obtain ⟨mA, ⟨od, es, ep, e, c⟩, r⟩ := x; exact ⟨mA, ⟨od, es, ep, k _ _ (.inl rfl) e, c⟩, r⟩
  | rng lo hi => obtain ⟨t, u, v, e⟩ := x; exact ⟨t, u, v, k _ _ (.inl rfl) e⟩
  | frz ob u ih => obtain ⟨e, q⟩ := x; exact ⟨k _ _ (.inl rfl) e, ih q⟩
  | tbl ps =>
    have e : h.get? a = some { cls := .none, data := .fields ps } := x
    show h'.get? a = some { cls := .none, data := .fields ps }
    exact k a _ (.inl rfl) e
  | met f y =>
    have e : h.get? a = some (PySem.W.methodObj (.ref f) (.ref y)) := x
    show h'.get? a = some (PySem.W.methodObj (.ref f) (.ref y))
    exact k a _ (.inl rfl) e
  | ext φ => obtain ⟨p, ⟨o, e⟩, st⟩ := x; exact ⟨st _ _ p fun o q => k _ _ (.inl rfl) q, ⟨o, k _ _ (.inl rfl) e⟩, st⟩
theorem HOk.lt (x : HOk P w H h) (e : H a = some o) : a < h.objs.size := (x a o e).lt
theorem HOk.fresh (x : HOk P w H h) (e : h.objs.size ≤ a) : H a = none := by
  cases q : H a with
  | none => rfl
  | some u => exact absurd (Nat.lt_of_lt_of_le (x.lt q) e) (Nat.lt_irrefl _)
theorem HOk.kept (x : HOk P w H h) (k : ∀ b u, h.get? b = some u → h'.get? b = some u) : HOk P w H h' := fun a o e =>
  (x a o e).stay (fun b u _ q => k b u q) (fun _ q => q) fun _ _ q => q
theorem HOk.laid (x : HOk P w H h) (k : ∀ b u, h.get? b = some u → h'.get? b = some u) (hp : h.objs.size ≤ a) (new : ObjOk P w (upd H a o) h' a o) : HOk P w (upd H a o) h' := fun b u e => by
  have hn := x.fresh hp
  by_cases hb : b = a
  · subst hb; rw [upd_same] at e; cases e; exact new
  · rw [upd_ne hb] at e
    exact (x b u e).stay (fun c v _ q => k c v q) (fun c q => by rw [upd_ne (ne_of_none q hn)]; exact q) fun c xs q => by rw [upd_ne (ne_of_none q hn)]; exact q
end
def Rd (H : Hp) (a : Addr) (u : HO) : Prop := H a = some u ∨ ∃ o, H a = some (.frz o u)
theorem Rd.ok {P : Program} {w : World} {H : Hp} {h : Heap} {a : Addr} {u : HO} (r : Rd H a u) (x : HOk P w H h) : ObjOk P w H h a u := by
  rcases r with r | ⟨o, r⟩
  · exact x a u r
  · obtain ⟨_, q⟩ := x a _ r
    exact q
def Mut : Option HO → Prop
  | some (.lst _) => True
  | some (.dK _) => True
  | some (.dT _) => True
  | some (.set _ _) => True
  | some (.ins _ _ _) => True
  | some (.ext _) => True
  | _ => False
section
variable {P : Program} {w : World} {H : Hp} {h h' : Heap} {x e : Addr} {o' : HO}
theorem HOk.write (ok : HOk P w H h) (mu : Mut (H x)) (he : e = x ∨ H e = some (.own x)) (k : ∀ b u, b ≠ e → h.get? b = some u → h'.get? b = some u) (heo : ∃ u, h'.get? e = some u)
    (new : ObjOk P w (upd H x o') h' x o') : HOk P w (upd H x o') h' := fun b u q => by
  have nown : ∀ c y, H c = some (.own y) → c ≠ x := fun c y r z => by subst z; rw [r] at mu; exact mu
  have ntup : ∀ c xs, H c = some (.tup xs) → c ≠ x := fun c xs r z => by subst z; rw [r] at mu; exact mu
  by_cases hb : b = x
  · subst hb; rw [upd_same] at q; cases q; exact new
  · rw [upd_ne hb] at q
    by_cases hbe : b = e
    · have q' : H b = some (.own x) := by
        rcases he with z | z
        · exact absurd (hbe.trans z) hb
        · rw [hbe]; exact z
      rw [q] at q'; cases q'
      obtain ⟨v, hv⟩ := heo
      exact ⟨v, by rw [hbe]; exact hv⟩
    · refine (ok b u q).stay (fun c v hc r => k c v ?_ r) (fun c r => by rw [upd_ne (nown c b r)]; exact r) fun c xs r => by rw [upd_ne (ntup c xs r)]; exact r
      rcases hc with rfl | hc
      · exact hbe
      · rintro rfl
        rcases he with z | z
        · exact nown c b hc z
        · rw [hc] at z; cases z; exact hb rfl
end
structure Un (fs ex : List Addr) (H H' : Hp) (h h' : Heap) : Prop where
  keep : ∀ b o, h.get? b = some o → H b = none → b ∉ fs → b ∉ ex → h'.get? b = some o
  slot : ∀ b o, h.get? b = some o → H b = none → b ∈ fs → b ∉ ex → ∃ sl, h'.get? b = some { o with slots := sl }
  free : ∀ b o, h.get? b = some o → H b = none → b ∉ ex → H' b = none
  there : ∀ b o, h.get? b = some o → b ∉ ex → ∃ o', h'.get? b = some o'
  tups : ∀ b xs, H b = some (.tup xs) → H' b = some (.tup xs)
  frzs : ∀ b o u, H b = some (.frz o u) → H' b = some (.frz o u)
  tbls : ∀ b ps, H b = some (.tbl ps) → ∃ more, H' b = some (.tbl (ps ++ more))
section
variable {fs fs' ex ex' : List Addr} {H H1 H2 : Hp} {h h1 h2 h' : Heap} {a x e : Addr} {o : HO}
theorem Un.any (u : Un fs ex H H1 h h1) {b : Addr} {ob : Obj} (q : h.get? b = some ob) (n : H b = none) (hx : b ∉ ex) : ∃ sl, h1.get? b = some { ob with slots := sl } := by
  by_cases hb : b ∈ fs
  · exact u.slot b ob q n hb hx
  · exact ⟨ob.slots, u.keep b ob q n hb hx⟩
theorem Un.kept (k : ∀ b u, h.get? b = some u → h'.get? b = some u) : Un fs ex H H h h' :=
  ⟨fun b ob q _ _ _ => k b ob q, fun b ob q _ _ _ => ⟨ob.slots, k b ob q⟩, fun _ _ _ n _ => n, fun b ob q _ => ⟨ob, k b ob q⟩, fun _ _ q => q, fun _ _ _ q => q, fun _ ps q => ⟨#[], by rw [q]; simp⟩⟩
theorem Un.refl : Un fs ex H H h h := Un.kept fun _ _ q => q
theorem Un.laid (k : ∀ b u, h.get? b = some u → h'.get? b = some u) (hp : h.objs.size ≤ a) (hn : H a = none) : Un fs ex H (upd H a o) h h' where
  keep := fun b u q _ _ _ => k b u q
  slot := fun b u q _ _ _ => ⟨u.slots, k b u q⟩
  free := fun b u q n _ => by rw [upd_ne (Nat.ne_of_lt (Nat.lt_of_lt_of_le (Heap.lt_size q) hp))]; exact n
  there := fun b u q _ => ⟨u, k b u q⟩
  tups := fun b xs q => by rw [upd_ne (ne_of_none q hn)]; exact q
  frzs := fun b u xs q => by rw [upd_ne (ne_of_none q hn)]; exact q
  tbls := fun b ps q => ⟨#[], by rw [upd_ne (ne_of_none q hn), q]; simp⟩
theorem Un.write (mu : Mut (H x)) (he : e = x ∨ H e = some (.own x)) (k : ∀ b u, b ≠ e → h.get? b = some u → h'.get? b = some u) (heo : ∃ u, h'.get? e = some u) : Un fs ex H (upd H x o) h h' := by
  have hx : ∀ b, H b = none → b ≠ x := fun b n z => by subst z; rw [n] at mu; exact mu
  have hb : ∀ b, H b = none → b ≠ e := fun b n z => by
    subst z
    rcases he with r | r
    · exact hx b n r
    · rw [n] at r; cases r
  have hm : ∀ b u, H b = some u → ¬ Mut (some u) → b ≠ x := fun b u q nm z => by subst z; rw [q] at mu; exact nm mu
  refine ⟨fun b u q n _ _ => k b u (hb b n) q, fun b u q n _ _ => ⟨u.slots, k b u (hb b n) q⟩, fun b u q n _ => by rw [upd_ne (hx b n)]; exact n, fun b u q _ => ?_,
    fun b xs q => by rw [upd_ne (hm b _ q fun z => z)]; exact q, fun b u xs q => by rw [upd_ne (hm b _ q fun z => z)]; exact q, fun b ps q => ⟨#[], by rw [upd_ne (hm b _ q fun z => z), q]; simp⟩⟩
  by_cases hbe : b = e
  · subst hbe; exact heo
  · exact ⟨u, k b u hbe q⟩
end
def trk (h : Heap) (H : Hp) : List Addr := (List.range h.objs.size).filter fun a => (H a).isSome
def hidT (h : Heap) (H : Hp) : Heap := PySem.W.hideAll h (trk h H)
theorem hidT_size (h : Heap) (H : Hp) : (hidT h H).objs.size = h.objs.size := PySem.W.hideAll_size _ _
theorem hidT_get {h : Heap} {H : Hp} {b : Addr} {o : Obj} (e : h.get? b = some o) (n : H b = none) : (hidT h H).get? b = some o :=
  PySem.W.hideAll_get _ e fun hm => by
    have q : (H b).isSome = true := (List.mem_filter.mp hm).2
    rw [n] at q; simp at q
theorem of_hidT {h : Heap} {H : Hp} {b : Addr} {o : Obj} (e : (hidT h H).get? b = some o) : h.get? b = some o ∧ H b = none := by
  have e' : h.get? b = some o := PySem.W.of_hideAll (trk h H) e
  refine ⟨e', ?_⟩
  cases q : H b with
  | none => rfl
  | some x =>
    have hm : b ∈ trk h H := List.mem_filter.mpr ⟨List.mem_range.mpr (Heap.lt_size e'), by simp [q]⟩
    have z : (hidT h H).get? b = none := PySem.W.hideAll_none (trk h H) hm
    rw [z] at e; cases e
end L2
namespace L2
open PySem PySem.Spec PyProof.Rows
structure Mod (K : PySem.W.Frag) (mg : Str → Option Value) (base : Heap) : Prop where
  kin : K.In base
  glob : base.Ns mainGlobals mg
  blt : ∃ mb, base.Ns builtinsNs mb ∧ ∀ x : Str, x ≠ "__name__" → mb x = bootBuiltins x
  nolimit : base.NoLimit
structure Cx where
  prog : Program
  w : World
  K : PySem.W.Frag
  mg : Str → Option Value
  base : Heap
  A : Around
  N : List Str
  s_0 : Shared
  H_0 : Hp
  env : Env
  outer : List Env
  stack : List Env
  ex : List Addr
  fn : Str → Bool
  calm : Bool
  pn : List (Addr × Obj)
  xe : Value → Shared → Prop
def frs (l : List Env) : List Addr := l.filterMap (·.frame)
abbrev Cx.fs (X : Cx) : List Addr := frs X.outer
def Vis (sc : Scope) (x : Str) : Prop := sc.names.lookup x = some .local ∨ sc.names.lookup x = some .cell ∨ sc.names.lookup x = some .free
def Loc (sc : Scope) (x : Str) : Prop := sc.names.lookup x = some .local ∨ sc.names.lookup x = some .cell
def Look (env : Env) (h : Heap) (m : Str → Option Value) (x : Str) (u : Value) : Prop :=
  (env.kindOf x = some .local ∧ m x = some u) ∨ ((env.kindOf x = some .cell ∨ env.kindOf x = some .free) ∧ ∃ c, env.cells.lookup x = some c ∧ h.IsCell c (some u))
structure Cx.Ok (X : Cx) : Prop where
  mod : Mod X.K X.mg X.base
  kind : X.env.scope.kind = .function
  glob : X.env.globals = mainGlobals
  blt : X.env.builtins = builtinsNs
  above : X.s_0.heap.objs.size ≤ X.env.locals
  inj : ∀ x y c, X.env.cells.lookup x = some c → X.env.cells.lookup y = some c → x = y
  has : ∀ x, (X.env.kindOf x = some .cell ∨ X.env.kindOf x = some .free) → ∃ c, X.env.cells.lookup x = some c
  cab : ∀ x c, X.fn x = true → X.env.cells.lookup x = some c → X.s_0.heap.objs.size ≤ c
  hd : X.calm = true → X.A.handled = none
  frames : X.A.frames = some X.stack
  stk : X.stack = X.outer ∨ (X.stack = X.env :: X.outer ∧ X.env.frame = some X.env.locals)
  exf : ∀ b ∈ X.ex, b ≠ X.env.locals ∧ ∀ x c, X.env.cells.lookup x = some c → c ≠ b
  bs : ∀ b o, X.base.get? b = some o → X.s_0.heap.get? b = some o ∧ X.H_0 b = none
  bsz : X.base.objs.size ≤ X.s_0.heap.objs.size
  noex : ∀ b o, X.base.get? b = some o → b ∉ X.ex
  exfs : ∀ b ∈ X.ex, b ∉ X.fs
  funs : X.s_0.heap.FunFrames X.base X.outer
  frf : ∀ b ∈ X.fs, X.H_0 b = none
structure Inv (X : Cx) (pins : List (Addr × Obj)) (σ : List (Option V)) (H : Hp) (s : Shared) : Prop where
  ok : X.Ok
  os : s.os = X.s_0.os
  bare : AllBare s.gens
  base : Un X.fs X.ex X.H_0 H X.s_0.heap s.heap
  loc : ∃ m, s.heap.Ns X.env.locals m ∧ ∀ (i : Nat) (x : Str) (v : V), X.N[i]? = some x → σ[i]? = some (some v) → Vis X.env.scope x → ∃ u, RelV v u ∧ Look X.env s.heap m x u
  cell : ∀ x c, X.env.cells.lookup x = some c → ∃ v, s.heap.IsCell c v
  free : H X.env.locals = none
  freeC : ∀ x c, X.env.cells.lookup x = some c → H c = none
  pin : ∀ p ∈ X.pn ++ pins, s.heap.get? p.1 = some p.2 ∧ H p.1 = none ∧ p.1 ≠ X.env.locals ∧ p.1 ∉ X.fs ∧ ∀ v, p.2.data ≠ .cell v
  hok : HOk X.prog X.w H s.heap
  len : σ.length = X.N.length
section
variable {X : Cx} {pins : List (Addr × Obj)} {σ : List (Option V)} {H H' : Hp} {s : Shared} {h' : Heap}
theorem Cx.Ok.nofr (ok : X.Ok) {b : Addr} {o : Obj} (e : X.base.get? b = some o) : b ∉ X.fs := fun hb => by
  have := (ok.funs.mem hb).1
  rw [e] at this; cases this
theorem Inv.bs (I : Inv X pins σ H s) : ∀ b o, X.base.get? b = some o → s.heap.get? b = some o ∧ H b = none := fun b o e =>
  ⟨I.base.keep b o (I.ok.bs b o e).1 (I.ok.bs b o e).2 (I.ok.nofr e) (I.ok.noex b o e), I.base.free b o (I.ok.bs b o e).1 (I.ok.bs b o e).2 (I.ok.noex b o e)⟩
theorem Inv.bk (I : Inv X pins σ H s) : ∀ b o, X.base.get? b = some o → s.heap.get? b = some o := fun b o e => (I.bs b o e).1
theorem Inv.mod (I : Inv X pins σ H s) : Mod X.K X.mg X.base := I.ok.mod
theorem Inv.kIn (I : Inv X pins σ H s) : X.K.In s.heap := I.ok.mod.kin.keeps I.bk
theorem Inv.fr (I : Inv X pins σ H s) : ∃ m, Fr X.base X.env.locals s.heap m :=
  let ⟨m, hn, _⟩ := I.loc
  ⟨m, hn, I.bk, Nat.le_trans I.ok.bsz I.ok.above⟩
theorem Inv.lt (I : Inv X pins σ H s) : X.env.locals < s.heap.objs.size := let ⟨_, hn, _⟩ := I.loc; hn.lt
theorem Inv.sz (I : Inv X pins σ H s) : X.s_0.heap.objs.size ≤ s.heap.objs.size := Nat.le_trans I.ok.above (Nat.le_of_lt I.lt)
theorem Inv.nofs (I : Inv X pins σ H s) {a : Addr} (h : s.heap.objs.size ≤ a) : a ∉ X.fs := fun hb => by
  obtain ⟨_, o, ho, _⟩ := I.ok.funs.mem hb
  exact absurd (Nat.lt_of_lt_of_le (Heap.lt_size ho) (Nat.le_trans I.sz h)) (Nat.lt_irrefl _)
theorem Inv.cne (I : Inv X pins σ H s) : ∀ x c, X.env.cells.lookup x = some c → c ≠ X.env.locals := fun x c e z => by
  obtain ⟨v, o, ho, hd⟩ := I.cell x c e
  obtain ⟨m, ⟨o', es, ep, ho', hd', _⟩, _⟩ := I.loc
  rw [z, ho'] at ho; cases ho; rw [hd'] at hd; cases hd
theorem Inv.funs (I : Inv X pins σ H s) : s.heap.FunFrames X.base X.outer := by
  have all : ∀ (l : List Env), (∀ b ∈ frs l, b ∈ X.fs) → X.s_0.heap.FunFrames X.base l → s.heap.FunFrames X.base l := by
    intro l
    induction l with
    | nil => intro _ _; trivial
    | cons env r ih =>
      intro hs hl
      obtain ⟨hk, ⟨L, o, hf, hn, ho, hd⟩, hr⟩ := hl
      have hL : L ∈ X.fs := hs L (by unfold frs; rw [List.filterMap_cons, hf]; exact List.mem_cons_self)
      obtain ⟨sl, e⟩ := I.base.slot L o ho (I.ok.frf L hL) hL fun z => I.ok.exfs L z hL
      exact ⟨hk, ⟨L, _, hf, hn, e, hd⟩, ih (fun b hb => hs b (by unfold frs; rw [List.filterMap_cons, hf]; exact List.mem_cons_of_mem _ hb)) hr⟩
  exact all X.outer (fun _ hb => hb) I.ok.funs
theorem Inv.stack (I : Inv X pins σ H s) : s.heap.FunFrames X.base X.stack := by
  rcases I.ok.stk with e | ⟨e, hf⟩
  · rw [e]; exact I.funs
  · rw [e]
    obtain ⟨m, hn, _⟩ := I.loc
    refine .cons (by rw [I.ok.kind]; decide) hf hn ?_ I.funs
    exact Heap.get?_none_of_le (Nat.le_trans I.ok.bsz I.ok.above)
theorem Inv.stkSub (I : Inv X pins σ H s) : ∀ b ∈ frs X.stack, b ∈ X.env.locals :: X.fs := fun b hb => by
  rcases I.ok.stk with e | ⟨e, hf⟩
  · rw [e] at hb; exact List.mem_cons_of_mem _ hb
  · rw [e] at hb
    unfold frs at hb
    rw [List.filterMap_cons, hf] at hb
    exact hb
theorem Inv.stkFree (I : Inv X pins σ H s) : ∀ b ∈ frs X.stack, H b = none := fun b hb => by
  rcases List.mem_cons.mp (I.stkSub b hb) with e | hb
  · rw [e]; exact I.free
  · obtain ⟨_, o, ho, _⟩ := I.ok.funs.mem hb
    exact I.base.free b o ho (I.ok.frf b hb) fun z => I.ok.exfs b z hb
theorem Inv.step {g' : Array GenState} {t' : Nat} {d' : Drawn} {ch : List Addr} (I : Inv X pins σ H s)
    (hch : ∀ b ∈ ch, (b ∈ X.ex ∨ X.s_0.heap.objs.size ≤ b) ∧ b ≠ X.env.locals ∧ (∀ x c, X.env.cells.lookup x = some c → c ≠ b) ∧ ∀ p ∈ X.pn ++ pins, p.1 ≠ b)
    (keep : ∀ b o, b ≠ X.env.locals → b ∉ X.fs → b ∉ ch → s.heap.get? b = some o → H b = none → h'.get? b = some o)
    (slot : ∀ b o, b ≠ X.env.locals → b ∈ X.fs → b ∉ ch → s.heap.get? b = some o → H b = none → ∃ sl, h'.get? b = some { o with slots := sl }) (free : ∀ b o, b ∉ ch → s.heap.get? b = some o → H b = none → H' b = none)
    (there : ∀ b o, b ∉ ch → s.heap.get? b = some o → ∃ o', h'.get? b = some o')
    (tups : ∀ b xs, H b = some (.tup xs) → H' b = some (.tup xs)) (frzs : ∀ b o u, H b = some (.frz o u) → H' b = some (.frz o u)) (tbls : ∀ b ps, H b = some (.tbl ps) → ∃ more, H' b = some (.tbl (ps ++ more)))
    (ns : ∀ m, s.heap.Ns X.env.locals m → h'.Ns X.env.locals m) (hok : HOk X.prog X.w H' h') (hg : AllBare g') :
    Inv X pins σ H' { s with heap := h', gens := g', drawn := d', toks := t' } := by
  have neL : ∀ b o, X.s_0.heap.get? b = some o → b ≠ X.env.locals := fun b o e => Nat.ne_of_lt (Nat.lt_of_lt_of_le (Heap.lt_size e) I.ok.above)
  have neC : ∀ b o, X.s_0.heap.get? b = some o → b ∉ X.ex → b ∉ ch := fun b o e hx hb => by
    rcases (hch b hb).1 with z | z
    · exact hx z
    · exact absurd (Nat.lt_of_lt_of_le (Heap.lt_size e) z) (Nat.lt_irrefl _)
  have cellK : ∀ x c, X.env.cells.lookup x = some c → ∀ v, s.heap.IsCell c v → h'.IsCell c v := fun x c e v ⟨o, ho, hd⟩ => by
    have nch : c ∉ ch := fun z => (hch c z).2.2.1 x c e rfl
    by_cases hc : c ∈ X.fs
    · obtain ⟨sl, q⟩ := slot c o (I.cne x c e) hc nch ho (I.freeC x c e)
      exact ⟨_, q, hd⟩
    · exact ⟨o, keep c o (I.cne x c e) hc nch ho (I.freeC x c e), hd⟩
  refine ⟨I.ok, I.os, hg, ⟨fun b o e n hb hx => ?_, fun b o e n hb hx => ?_, fun b o e n hx => ?_, fun b o e hx => ?_, fun b xs e => tups b xs (I.base.tups b xs e), fun b o xs e => frzs b o xs (I.base.frzs b o xs e), fun b ps e => ?_⟩, ?_, fun x c e => ?_, ?_, fun x c e => ?_, fun p hp => ?_, hok, I.len⟩
  · exact keep b o (neL b o e) hb (neC b o e hx) (I.base.keep b o e n hb hx) (I.base.free b o e n hx)
  · obtain ⟨sl, e1⟩ := I.base.slot b o e n hb hx
    obtain ⟨sl', e2⟩ := slot b _ (neL b o e) hb (neC b o e hx) e1 (I.base.free b o e n hx)
    exact ⟨sl', e2⟩
  · obtain ⟨o', e1⟩ := I.base.there b o e hx
    exact free b o' (neC b o e hx) e1 (I.base.free b o e n hx)
  · obtain ⟨o', e1⟩ := I.base.there b o e hx
    exact there b o' (neC b o e hx) e1
  · obtain ⟨m1, e1⟩ := I.base.tbls b ps e
    obtain ⟨m2, e2⟩ := tbls b _ e1
    exact ⟨m1 ++ m2, by rw [e2, Array.append_assoc]⟩
  · obtain ⟨m, hn, hl⟩ := I.loc
    refine ⟨m, ns m hn, fun i x v e1 e2 e3 => ?_⟩
    obtain ⟨u, r, l⟩ := hl i x v e1 e2 e3
    refine ⟨u, r, ?_⟩
    rcases l with l | ⟨k, c, e, z⟩
    · exact .inl l
    · exact .inr ⟨k, c, e, cellK x c e _ z⟩
  · obtain ⟨v, z⟩ := I.cell x c e
    exact ⟨v, cellK x c e v z⟩
  · obtain ⟨m, ⟨o, _, _, ho, _⟩, _⟩ := I.loc
    exact free _ o (fun z => (hch _ z).2.1 rfl) ho I.free
  · obtain ⟨v, o, ho, hd⟩ := I.cell x c e
    exact free c o (fun z => (hch c z).2.2.1 x c e rfl) ho (I.freeC x c e)
  · obtain ⟨e, n, ne, nf, d⟩ := I.pin p hp
    have nch : p.1 ∉ ch := fun z => (hch p.1 z).2.2.2 p hp rfl
    exact ⟨keep p.1 p.2 ne nf nch e n, free p.1 p.2 nch e n, ne, nf, d⟩
theorem Inv.un {t' : Nat} (I : Inv X pins σ H s) (u : Un X.fs [] H H' s.heap h') (hok : HOk X.prog X.w H' h') : Inv X pins σ H' { s with heap := h', toks := t' } := by
  obtain ⟨m, ⟨o, es, ep, ho, r⟩, _⟩ := id I.loc
  obtain ⟨sl, hL⟩ := u.any ho I.free (by simp)
  exact I.step (g' := s.gens) (d' := s.drawn) (ch := []) (fun _ z => nomatch z) (fun b o _ hb _ e n => u.keep b o e n hb (by simp)) (fun b o _ hb _ e n => u.slot b o e n hb (by simp)) (fun b o _ e n => u.free b o e n (by simp)) (fun b o _ e => u.there b o e (by simp)) u.tups u.frzs u.tbls (fun m' hm => by
    obtain ⟨o', es', ep', ho', r'⟩ := hm
    rw [ho] at ho'; cases ho'
    exact ⟨_, es', ep', hL, r'⟩) hok I.bare
theorem Inv.call {g' : Array GenState} {t' : Nat} {d' : Drawn} {ch : List Addr} (I : Inv X pins σ H s) (u : Un (frs X.stack) ch H H' s.heap h') (hok : HOk X.prog X.w H' h') (hg : AllBare g')
    (hch : ∀ b ∈ ch, (b ∈ X.ex ∨ X.s_0.heap.objs.size ≤ b) ∧ b ≠ X.env.locals ∧ (∀ x c, X.env.cells.lookup x = some c → c ≠ b) ∧ ∀ p ∈ X.pn ++ pins, p.1 ≠ b) :
    Inv X pins σ H' { s with heap := h', gens := g', drawn := d', toks := t' } := by
  obtain ⟨m, ⟨o, es, ep, ho, r⟩, _⟩ := id I.loc
  obtain ⟨sl, hL⟩ := u.any ho I.free fun z => (hch _ z).2.1 rfl
  exact I.step (ch := ch) hch (fun b o hL hb hc e n => u.keep b o e n (fun z => (List.mem_cons.mp (I.stkSub b z)).elim hL hb) hc) (fun b o _ _ hc e n => u.any e n hc) (fun b o hc e n => u.free b o e n hc) (fun b o hc e => u.there b o e hc) u.tups u.frzs u.tbls (fun m' hm => by
    obtain ⟨o', es', ep', ho', r'⟩ := hm
    rw [ho] at ho'; cases ho'
    exact ⟨_, es', ep', hL, r'⟩) hok hg
theorem Inv.turned {t' : Nat} {it : Addr} (I : Inv X pins σ H s) (k : ∀ b o, b ≠ it → s.heap.get? b = some o → h'.get? b = some o) (hn : H it = none) (hL : it ≠ X.env.locals)
    (h1 : it ∈ X.ex ∨ X.s_0.heap.objs.size ≤ it) (h2 : ∀ x c, X.env.cells.lookup x = some c → c ≠ it) (h3 : ∀ p ∈ X.pn ++ pins, p.1 ≠ it) : Inv X pins σ H { s with heap := h', toks := t' } := by
  have nit : ∀ b u, H b = some u → b ≠ it := fun b u e z => by rw [z, hn] at e; cases e
  refine I.step (g' := s.gens) (d' := s.drawn) (ch := [it]) (fun b hb => ?_) (fun b o _ _ hc e _ => k b o (fun z => hc (by simp [z])) e) (fun b o _ _ hc e _ => ⟨o.slots, k b o (fun z => hc (by simp [z])) e⟩) (fun _ _ _ _ n => n)
    (fun b o hc e => ⟨o, k b o (fun z => hc (by simp [z])) e⟩) (fun _ _ e => e) (fun _ _ _ e => e) (fun b ps e => ⟨#[], by rw [e]; simp⟩) (fun m hm => ?_) (fun b u e => ?_) I.bare
  · have e : b = it := by simpa using hb
    subst e
    exact ⟨h1, hL, h2, h3⟩
  · obtain ⟨o, es, ep, ho, r⟩ := hm
    exact ⟨o, es, ep, k _ o (Ne.symm hL) ho, r⟩
  · refine (I.hok b u e).stay (fun c v hc q => k c v ?_ q) (fun _ q => q) fun _ _ q => q
    rcases hc with z | z
    · rw [z]; exact nit b u e
    · exact nit c _ z
theorem Inv.tok (I : Inv X pins σ H s) (t : Nat) : Inv X pins σ H { s with toks := t } := I.un (h' := s.heap) (t' := t) Un.refl I.hok
theorem Inv.kept {t' : Nat} (I : Inv X pins σ H s) (k : ∀ b u, s.heap.get? b = some u → h'.get? b = some u) : Inv X pins σ H { s with heap := h', toks := t' } := I.un (Un.kept k) (I.hok.kept k)
theorem Inv.laid {a : Addr} {o : HO} {t' : Nat} (I : Inv X pins σ H s) (k : ∀ b u, s.heap.get? b = some u → h'.get? b = some u) (hp : s.heap.objs.size ≤ a) (new : ObjOk X.prog X.w (upd H a o) h' a o) :
    Inv X pins σ (upd H a o) { s with heap := h', toks := t' } := I.un (Un.laid k hp (I.hok.fresh hp)) (I.hok.laid k hp new)
theorem Inv.write {x e : Addr} {o : HO} {t' : Nat} (I : Inv X pins σ H s) (mu : Mut (H x)) (he : e = x ∨ H e = some (.own x)) (k : ∀ b u, b ≠ e → s.heap.get? b = some u → h'.get? b = some u) (heo : ∃ u, h'.get? e = some u)
    (new : ObjOk X.prog X.w (upd H x o) h' x o) : Inv X pins σ (upd H x o) { s with heap := h', toks := t' } := I.un (Un.write mu he k heo) (I.hok.write mu he k heo new)
theorem Inv.weak {σ' : List (Option V)} (I : Inv X pins σ H s) (hl : σ'.length = σ.length) (w : ∀ (i : Nat) v, σ'[i]? = some (some v) → σ[i]? = some (some v)) : Inv X pins σ' H s :=
  ⟨I.ok, I.os, I.bare, I.base, let ⟨m, hn, hl'⟩ := I.loc; ⟨m, hn, fun i x v e1 e2 e3 => hl' i x v e1 (w i v e2) e3⟩, I.cell, I.free, I.freeC, I.pin, I.hok, hl.trans I.len⟩
theorem Inv.pins_of {pins' : List (Addr × Obj)} (I : Inv X pins σ H s) (h : ∀ p ∈ pins', s.heap.get? p.1 = some p.2 ∧ H p.1 = none ∧ p.1 ≠ X.env.locals ∧ p.1 ∉ X.fs ∧ ∀ v, p.2.data ≠ .cell v) : Inv X pins' σ H s :=
  ⟨I.ok, I.os, I.bare, I.base, I.loc, I.cell, I.free, I.freeC, fun p hp => (List.mem_append.mp hp).elim (fun z => I.pin p (List.mem_append_left _ z)) (h p), I.hok, I.len⟩
theorem nodup_ix {N : List Str} (hN : N.Nodup) {i j : Nat} {x : Str} (a : N[i]? = some x) (b : N[j]? = some x) : i = j := by
  obtain ⟨h1, e1⟩ := List.getElem?_eq_some_iff.mp a
  obtain ⟨h2, e2⟩ := List.getElem?_eq_some_iff.mp b
  exact (List.getElem_inj hN).mp (e1.trans e2.symm)
theorem store_ok2 {M : Model} {A : Around} {E : Value → Shared → Prop} {i : Nat} {x : Str} {v : V} {u : Value} {Q : Unit → Shared → Prop} (I : Inv X pins σ H s) (hN : X.N.Nodup) (hi : X.N[i]? = some x) (hx : Loc X.env.scope x) (r : RelV v u)
    (h : ∀ s', Inv X pins (σ.set i (some v)) H s' → (∃ a, Heap.SameBut a s.heap s'.heap ∧ (a = X.env.locals ∨ X.env.cells.lookup x = some a)) → Q () s') (hf : X.fn x = true ∨ X.env.scope.names.lookup x = some .local := by first | exact .inl rfl | exact .inr rfl | assumption) : wpAny M A (storeName X.env x u) Q E s := by
  obtain ⟨m, hn, hl⟩ := id I.loc
  have hcls : (X.env.scope.kind == .class || (X.env.scope.kind == .module && X.env.locals != X.env.globals)) = false := by rw [I.ok.kind]; rfl
  have hiσ : i < σ.length := by rw [I.len]; exact (List.getElem?_eq_some_iff.mp hi).1
  have cne := I.cne
  have tracked : ∀ {a : Addr} {h' : Heap}, (∃ o, s.heap.get? a = some o ∧ H a = none) → Heap.SameBut a s.heap h' → HOk X.prog X.w H h' := fun {a h'} ha hs b ob e => by
    obtain ⟨_, _, hfree⟩ := ha
    refine (I.hok b ob e).stay (fun c w' hc q => (hs.2 c ?_).trans q) (fun _ q => q) fun _ _ q => q
    rintro rfl
    rcases hc with rfl | hc
    · rw [hfree] at e; cases e
    · rw [hfree] at hc; cases hc
  rcases hx with hk | hk
  · refine wpAny_storeName_local hk hn (fun h' hn' hs => ?_) hcls
    obtain ⟨oL, _, _, hoL, _⟩ := id hn
    refine h _ ⟨I.ok, I.os, I.bare, ⟨fun b o e n hb hx => ?_, fun b o e n hb hx => ?_, I.base.free, fun b o e hx => ?_, I.base.tups, I.base.frzs, I.base.tbls⟩, ⟨_, hn', fun j y v' e1 e2 e3 => ?_⟩, fun y c e => ?_, I.free, I.freeC, fun p hp => ?_, tracked ⟨oL, hoL, I.free⟩ hs, by simpa using I.len⟩ ⟨_, hs, .inl rfl⟩
    · exact (hs.2 b (Nat.ne_of_lt (Nat.lt_of_lt_of_le (Heap.lt_size e) I.ok.above))).trans (I.base.keep b o e n hb hx)
    · obtain ⟨sl, e1⟩ := I.base.slot b o e n hb hx
      exact ⟨sl, (hs.2 b (Nat.ne_of_lt (Nat.lt_of_lt_of_le (Heap.lt_size e) I.ok.above))).trans e1⟩
    · obtain ⟨o', e1⟩ := I.base.there b o e hx
      exact ⟨o', (hs.2 b (Nat.ne_of_lt (Nat.lt_of_lt_of_le (Heap.lt_size e) I.ok.above))).trans e1⟩
    · by_cases hj : j = i
      · subst hj
        rw [hi] at e1; cases e1
        rw [List.getElem?_set_self hiσ] at e2
        cases e2
        exact ⟨u, r, .inl ⟨hk, by simp⟩⟩
      · rw [List.getElem?_set_ne (Ne.symm hj)] at e2
        obtain ⟨u', r', q⟩ := hl j y v' e1 e2 e3
        refine ⟨u', r', ?_⟩
        rcases q with ⟨k, e⟩ | ⟨k, c, e, z⟩
        · refine .inl ⟨k, ?_⟩
          have : y ≠ x := fun e => hj (nodup_ix hN e1 (e ▸ hi))
          simp [this, e]
        · exact .inr ⟨k, c, e, z.sameBut hs (cne y c e)⟩
    · obtain ⟨w', z⟩ := I.cell y c e
      exact ⟨w', z.sameBut hs (cne y c e)⟩
    · obtain ⟨e, n, ne, nf, d⟩ := I.pin p hp
      exact ⟨(hs.2 p.1 ne).trans e, n, ne, nf, d⟩
  · have hfn : X.fn x = true := by
      rcases hf with z | z
      · exact z
      · rw [z] at hk; cases hk
    obtain ⟨c, hc⟩ := I.ok.has x (.inl hk)
    obtain ⟨w', z⟩ := I.cell x c hc
    refine wpAny_storeName_cell I.ok.kind hk hc z (fun h' hc' hs => ?_)
    obtain ⟨oc, hoc, hocd⟩ := id z
    refine h { s with heap := h' } ⟨I.ok, I.os, I.bare, ⟨fun b o e n hb hx => ?_, fun b o e n hb hx => ?_, I.base.free, fun b o e hx => ?_, I.base.tups, I.base.frzs, I.base.tbls⟩, ⟨m, hn.sameBut hs (Ne.symm (cne x c hc)), fun j y v' e1 e2 e3 => ?_⟩, fun y c' e => ?_, I.free, I.freeC, fun p hp => ?_, tracked ⟨oc, hoc, I.freeC x c hc⟩ hs, by simpa using I.len⟩ ⟨c, hs, .inr hc⟩
    · exact (hs.2 b (Nat.ne_of_lt (Nat.lt_of_lt_of_le (Heap.lt_size e) (I.ok.cab x c hfn hc)))).trans (I.base.keep b o e n hb hx)
    · obtain ⟨sl, e1⟩ := I.base.slot b o e n hb hx
      exact ⟨sl, (hs.2 b (Nat.ne_of_lt (Nat.lt_of_lt_of_le (Heap.lt_size e) (I.ok.cab x c hfn hc)))).trans e1⟩
    · obtain ⟨o', e1⟩ := I.base.there b o e hx
      exact ⟨o', (hs.2 b (Nat.ne_of_lt (Nat.lt_of_lt_of_le (Heap.lt_size e) (I.ok.cab x c hfn hc)))).trans e1⟩
    · by_cases hj : j = i
      · subst hj
        rw [hi] at e1; cases e1
        rw [List.getElem?_set_self hiσ] at e2
        cases e2
        exact ⟨u, r, .inr ⟨.inl hk, c, hc, hc'⟩⟩
      · rw [List.getElem?_set_ne (Ne.symm hj)] at e2
        obtain ⟨u', r', q⟩ := hl j y v' e1 e2 e3
        refine ⟨u', r', ?_⟩
        rcases q with q | ⟨k, c', e, z'⟩
        · exact .inl q
        · refine .inr ⟨k, c', e, z'.sameBut hs ?_⟩
          rintro rfl
          exact hj (nodup_ix hN e1 (I.ok.inj _ _ _ e hc ▸ hi))
    · by_cases hcc : c' = c
      · subst hcc; exact ⟨_, hc'⟩
      · obtain ⟨w2, z2⟩ := I.cell y c' e
        exact ⟨w2, z2.sameBut hs hcc⟩
    · obtain ⟨e, n, ne, nf, d⟩ := I.pin p hp
      refine ⟨(hs.2 p.1 ?_).trans e, n, ne, nf, d⟩
      intro q
      rw [q, hoc] at e
      have q' : oc = p.2 := Option.some.inj e
      exact d w' (by rw [← q']; exact hocd)
theorem store_ok {M : Model} {A : Around} {E : Value → Shared → Prop} {i : Nat} {x : Str} {v : V} {u : Value} {Q : Unit → Shared → Prop} (I : Inv X pins σ H s) (hN : X.N.Nodup) (hi : X.N[i]? = some x) (hx : Loc X.env.scope x) (r : RelV v u)
    (h : ∀ s', Inv X pins (σ.set i (some v)) H s' → Q () s') (hf : X.fn x = true ∨ X.env.scope.names.lookup x = some .local := by first | exact .inl rfl | exact .inr rfl | assumption) : wpAny M A (storeName X.env x u) Q E s :=
  store_ok2 I hN hi hx r (fun s' I' _ => h s' I') hf
theorem Inv.call' {s' : Shared} {ch : List Addr} (I : Inv X pins σ H s) (ho : s'.os = s.os) (u : Un (frs X.stack) ch H H' s.heap s'.heap) (hok : HOk X.prog X.w H' s'.heap) (hg : AllBare s'.gens)
    (hch : ∀ b ∈ ch, (b ∈ X.ex ∨ X.s_0.heap.objs.size ≤ b) ∧ b ≠ X.env.locals ∧ (∀ x c, X.env.cells.lookup x = some c → c ≠ b) ∧ ∀ p ∈ X.pn ++ pins, p.1 ≠ b) : Inv X pins σ H' s' := by
  obtain ⟨h', g', d', t', o'⟩ := s'
  have e : o' = s.os := ho
  subst e
  exact I.call (g' := g') (t' := t') (d' := d') u hok hg hch
end
abbrev XK := Value → Option Addr → Hp → Prop
abbrev St := List (Option V)
abbrev VK := V → Hp → Prop
abbrev TE := St → Hp → VK → Prop
abbrev TT := St → Hp → (Bool → Hp → Prop) → Prop
abbrev TA := St → Hp → (List V → Hp → Prop) → Prop
structure Ends where
  nx : St → Hp → Prop
  rt : VK
  bk : St → Hp → Prop := fun _ _ => False
  ct : St → Hp → Prop := fun _ _ => False
abbrev TS := Ends → St → Hp → Prop
def EP (X : Cx) (pins : List (Addr × Obj)) (σ : St) (Q : VK) (u : Value) (s' : Shared) : Prop := ∃ v H', Inv X pins σ H' s' ∧ RelV v u ∧ Q v H'
def TP (X : Cx) (pins : List (Addr × Obj)) (σ : St) (Q : Bool → Hp → Prop) (b : Bool) (s' : Shared) : Prop := ∃ H', Inv X pins σ H' s' ∧ Q b H'
def AP (X : Cx) (pins : List (Addr × Obj)) (σ : St) (Q : List V → Hp → Prop) (us : List Value) (s' : Shared) : Prop := ∃ vs H', Inv X pins σ H' s' ∧ Vals vs us ∧ Q vs H'
def SP (X : Cx) (pins : List (Addr × Obj)) (D : Ends) (f : Flow) (s' : Shared) : Prop :=
  match f with
  | .next => ∃ σ' H', Inv X pins σ' H' s' ∧ D.nx σ' H'
  | .brk => ∃ σ' H', Inv X pins σ' H' s' ∧ D.bk σ' H'
  | .cont => ∃ σ' H', Inv X pins σ' H' s' ∧ D.ct σ' H'
  | .ret u => ∃ v σ' H', Inv X pins σ' H' s' ∧ RelV v u ∧ D.rt v H'
def PE (X : Cx) (e : Expr) (t : TE) : Prop :=
  ∀ (pins : List (Addr × Obj)) (s : Shared) (σ : St) (H : Hp) (Q : VK), Inv X pins σ H s → t σ H Q → wpAny (model X.prog X.w) X.A (eval e X.env) (EP X pins σ Q) X.xe s
def PT (X : Cx) (e : Expr) (t : TT) : Prop :=
  ∀ (pins : List (Addr × Obj)) (s : Shared) (σ : St) (H : Hp) (Q : Bool → Hp → Prop), Inv X pins σ H s → t σ H Q → wpAny (model X.prog X.w) X.A (isTrue e X.env (eval e X.env)) (TP X pins σ Q) X.xe s
def PW (X : Cx) (e : Expr) (t : TT) : Prop :=
  ∀ (whole : Sem Value) (pins : List (Addr × Obj)) (s : Shared) (σ : St) (H : Hp) (Q : Bool → Hp → Prop), Inv X pins σ H s → t σ H Q → wpAny (model X.prog X.w) X.A (isTrue e X.env whole) (TP X pins σ Q) X.xe s
theorem PW.pt {X : Cx} {e : Expr} {t : TT} (h : PW X e t) : PT X e t := h _
def PA (X : Cx) (es : List Expr) (t : TA) : Prop :=
  ∀ (pos : Pos) (pins : List (Addr × Obj)) (s : Shared) (σ : St) (H : Hp) (Q : List V → Hp → Prop), Inv X pins σ H s → t σ H Q → wpAny (model X.prog X.w) X.A (spliced (backTo pos (starEach es X.env))) (AP X pins σ Q) X.xe s
def PS (X : Cx) (st : Stmt) (t : TS) : Prop :=
  ∀ (pins : List (Addr × Obj)) (s : Shared) (σ : St) (H : Hp) (D : Ends), Inv X pins σ H s → t D σ H → wpAny (model X.prog X.w) X.A (exec st X.env) (SP X pins D) X.xe s
def PSs (X : Cx) (st : List Stmt) (t : TS) : Prop :=
  ∀ (pins : List (Addr × Obj)) (s : Shared) (σ : St) (H : Hp) (D : Ends), Inv X pins σ H s → t D σ H → wpAny (model X.prog X.w) X.A (execs st X.env) (SP X pins D) X.xe s
theorem thn {α : Type} {t : Sem α} {Q Q' : α → Shared → Prop} {M : Model} {A : Around} {E : Value → Shared → Prop} {s : Shared} (h : wpAny M A t Q E s) (hQ : ∀ a s, Q a s → Q' a s) : wpAny M A t Q' E s := wpAny_mono h hQ fun _ _ x => x
end L2
namespace L2
open PySem PySem.Spec PyProof.Rows
section
variable {X : Cx}
theorem bin {a b : Expr} {ta tb : TE} (ha : PE X a ta) (hb : PE X b tb) {pins : List (Addr × Obj)} {s : Shared} {σ : St} {H : Hp} {R : V → V → Hp → Prop} (I : Inv X pins σ H s) (h : ta σ H fun x H1 => tb σ H1 fun y H2 => R x y H2)
    {α : Type} {Q : α → Shared → Prop} {f : Value → Value → Sem α}
    (hf : ∀ v u s2 x y H2, Inv X pins σ H2 s2 → RelV x v → RelV y u → R x y H2 → wpAny (model X.prog X.w) X.A (f v u) Q X.xe s2) :
    wpAny (model X.prog X.w) X.A (eval a X.env) (fun v s₁ => wpAny (model X.prog X.w) X.A (eval b X.env) (fun u s₂ => wpAny (model X.prog X.w) X.A (f v u) Q X.xe s₂) X.xe s₁) X.xe s := by
  refine thn (ha pins s σ H _ I h) fun v s1 zz => ?_
  obtain ⟨x, H1, I1, r1, q1⟩ := zz
  refine thn (hb pins s1 σ H1 _ I1 q1) fun u s2 zz => ?_
  obtain ⟨y, H2, I2, r2, q2⟩ := zz
  exact hf v u s2 x y H2 I2 r1 r2 q2
def tVar (i : Nat) : TE := fun σ H Q => ∃ v, σ[i]? = some (some v) ∧ Q v H
def tC (v : V) : TE := fun _ H Q => Q v H
theorem pe_var {i : Nat} {x : Str} {pos : Pos} (hN : X.N[i]? = some x) (hv : Vis X.env.scope x) (hd : (x == ("__debug__" : Str)) = false := by decide) (hcd : (x == ("__classdict__" : Str)) = false := by decide) : PE X (.Name x pos) (tVar i) := by
  intro pins s σ H Q I h
  obtain ⟨v, e, h⟩ := h
  obtain ⟨m, hn, hl⟩ := I.loc
  obtain ⟨u, r, l⟩ := hl i x v hN e hv
  have fin : EP X pins σ Q u s := ⟨v, H, I, r, h⟩
  rcases l with ⟨hk, hm⟩ | ⟨hk, c, hc, hcell⟩
  · exact wpAny_Name (wpAny_loadName_local I.ok.kind hk hn hm fin) hd
  · rcases hk with hk | hk
    · exact wpAny_Name (wpAny_loadName_cell I.ok.kind hk hc hcell fin) hd
    · exact wpAny_Name (wpAny_loadName_free I.ok.kind hk hc hcell fin hcd) hd
theorem pe_int {i j pos} : PE X (.Constant (.int i) j pos) (tC (.int i)) := fun _ _ _ H _ I h => wpAny_Constant_int ⟨.int i, H, I.tok _, ⟨_, rfl⟩, h⟩
theorem pe_bl {b j pos} : PE X (.Constant (.bool b) j pos) (tC (.bl b)) := fun _ _ _ H _ I h => Constant_bool ⟨.bl b, H, I, rfl, h⟩
theorem pe_non {j pos} : PE X (.Constant .none j pos) (tC .non) := fun _ _ _ H _ I h => Constant_none ⟨.non, H, I, rfl, h⟩
def Gl (X : Cx) (x : Str) : Prop := X.env.kindOf x = some .globalImplicit
theorem ld_glob {E : Value → Shared → Prop} {pins : List (Addr × Obj)} {s : Shared} {σ : St} {H : Hp} {x : Str} {u : Value} {pos : Pos} {Q : Value → Shared → Prop} (I : Inv X pins σ H s) (hg : Gl X x) (hm : X.mg x = some u) (h : Q u s)
    (hd : (x == ("__debug__" : Str)) = false := by decide) : wpAny (model X.prog X.w) X.A (eval (.Name x pos) X.env) Q E s :=
  Calls.Name_function_global I.ok.kind hg (Calls.loadGlobal_global (by rw [I.ok.glob]; exact I.mod.glob.keeps I.bk) hm h) hd
theorem ld_blt {E : Value → Shared → Prop} {pins : List (Addr × Obj)} {s : Shared} {σ : St} {H : Hp} {x : Str} {u : Value} {pos : Pos} {Q : Value → Shared → Prop} (I : Inv X pins σ H s) (hg : Gl X x) (hm : X.mg x = none) (hv : bootBuiltins x = some u) (h : Q u s)
    (hn : x ≠ "__name__" := by decide) (hd : (x == ("__debug__" : Str)) = false := by decide) : wpAny (model X.prog X.w) X.A (eval (.Name x pos) X.env) Q E s := by
  obtain ⟨mb, h1, h2⟩ := I.mod.blt
  exact Calls.Name_function_global I.ok.kind hg (Calls.loadGlobal_builtin (by rw [I.ok.glob]; exact I.mod.glob.keeps I.bk) hm (by rw [I.ok.blt]; exact h1.keeps I.bk) ((h2 x hn).trans hv) h) hd
theorem pe_glob {x : Str} {v : V} {u : Value} {pos : Pos} (hg : Gl X x) (hm : X.mg x = some u) (r : RelV v u) (hd : (x == ("__debug__" : Str)) = false := by decide) : PE X (.Name x pos) (tC v) :=
  fun _ _ _ H _ I h => ld_glob I hg hm ⟨v, H, I, r, h⟩ hd
theorem pe_bltn {x : Str} {v : V} {u : Value} {pos : Pos} (hg : Gl X x) (hm : X.mg x = none) (hv : bootBuiltins x = some u) (r : RelV v u) (hn : x ≠ "__name__" := by decide) (hd : (x == ("__debug__" : Str)) = false := by decide) : PE X (.Name x pos) (tC v) :=
  fun _ _ _ H _ I h => ld_blt I hg hm hv ⟨v, H, I, r, h⟩ hn hd
variable {a b : Expr} {ta tb : TE} {pos : Pos}
def PC (X : Cx) (op : CmpOp) (a b : Expr) (t : TE) : Prop :=
  ∀ (pins : List (Addr × Obj)) (s : Shared) (σ : St) (H : Hp) (Q : VK), Inv X pins σ H s → t σ H Q →
    wpAny (model X.prog X.w) X.A (eval a X.env) (fun v s₁ => wpAny (model X.prog X.w) X.A (eval b X.env) (fun u s₂ => wpAny (model X.prog X.w) X.A (compareOp op v u) (EP X pins σ Q) X.xe s₂) X.xe s₁) X.xe s
def tB (t : TE) : TT := fun σ H Q => t σ H fun x H1 => ∃ c, x = .bl c ∧ Q c H1
theorem pt_cmp {op : CmpOp} {t : TE} (h : PC X op a b t) (h1 : behindInMarks op b = false := by first | exact nobehind _ (by decide) (by decide) | rfl) : PT X (.Compare a [op] [b] pos) (tB t) := by
  intro pins s σ H Q I hw
  refine wpAny_isTrue_Compare1 (thn (h pins s σ H _ I hw) fun v s1 h1 => thn h1 fun u s2 h2 => thn h2 fun c s3 ⟨x, H1, I1, r1, q1⟩ => ?_) h1
  obtain ⟨d, rfl, q⟩ := q1
  cases r1
  exact wpAny_truthy_bool ⟨H1, I1, q⟩
theorem pt_val {e : Expr} {t : TE} (h : PE X e t) (he : ∀ whole, isTrue e X.env whole = (do let v ← whole; standAt e.pos; holding [v] (truthy v)) := by intro _; rfl) : PT X e (tB t) := by
  intro pins s σ H Q I hw
  refine isTrue_plain (thn (h pins s σ H _ I hw) fun v s1 ⟨x, H1, I1, r1, q1⟩ => ?_) (he _)
  obtain ⟨d, rfl, q⟩ := q1
  cases r1
  exact wpAny_truthy_bool ⟨H1, I1, q⟩
variable {tA tB' : TT} {rest : List Expr}
def tAnd (t u : TT) : TT := fun σ H Q => t σ H fun c H1 => if c = true then u σ H1 Q else Q false H1
def tNot (t : TT) : TT := fun σ H Q => t σ H fun c H1 => Q (!c) H1
theorem pw_and1 (ha : PT X a tA) : PW X (.BoolOp .And [a] pos) tA := by
  intro wh pins s σ H Q I h
  refine isTrue_and (thn (ha pins s σ H Q I h) fun c s1 e => ?_)
  cases c with
  | true => exact isTrue_and_nil e
  | false => exact e
theorem pw_and (ha : PT X a tA) (hb : PW X (.BoolOp .And (b :: rest) pos) tB') : PW X (.BoolOp .And (a :: b :: rest) pos) (tAnd tA tB') := by
  intro wh pins s σ H Q I h
  refine isTrue_and (thn (ha pins s σ H _ I h) fun c s1 zz => ?_)
  obtain ⟨H1, I1, q1⟩ := zz
  cases c with
  | true => exact hb wh pins s1 σ H1 Q I1 q1
  | false => exact ⟨H1, I1, q1⟩
theorem pt_not (ha : PT X a tA) : PT X (.UnaryOp .Not a pos) (tNot tA) := by
  intro pins s σ H Q I h
  exact isTrue_not (ha pins s σ H (fun c H1 => Q (!c) H1) I h)
def tAndV (ta tb : TE) : TE := fun σ H Q => ta σ H fun x H1 => ∃ c, x = .bl c ∧ if c = true then tb σ H1 Q else Q (.bl false) H1
theorem pe_one {op} {t : TE} (h : PE X a t) : PE X (.BoolOp op [a] pos) t := fun pins s σ H Q I hw => BoolOp_one (h pins s σ H Q I hw)
theorem pe_and (ha : PE X a ta) (hb : PE X (.BoolOp .And (b :: rest) pos) tb) : PE X (.BoolOp .And (a :: b :: rest) pos) (tAndV ta tb) := by
  intro pins s σ H Q I h
  refine BoolOp_and (thn (ha pins s σ H _ I h) fun v s1 zz => ?_)
  obtain ⟨x, H1, I1, r1, q1⟩ := zz
  obtain ⟨c, rfl, q1⟩ := q1
  cases r1
  refine wpAny_truthy_bool ?_
  cases c with
  | true => exact hb pins s1 σ H1 Q I1 q1
  | false => exact ⟨.bl false, H1, I1, rfl, q1⟩
def tIf (t : TT) (ta tb : TE) : TE := fun σ H Q => t σ H fun c H1 => if c = true then ta σ H1 Q else tb σ H1 Q
theorem pe_ifExp {c : Expr} (hc : PT X c tA) (ha : PE X a ta) (hb : PE X b tb) : PE X (.IfExp c a b pos) (tIf tA ta tb) := by
  intro pins s σ H Q I h
  refine wpAny_IfExp (thn (hc pins s σ H _ I h) fun d s1 zz => ?_)
  obtain ⟨H1, I1, q1⟩ := zz
  cases d with
  | true => exact ha pins s1 σ H1 Q I1 q1
  | false => exact hb pins s1 σ H1 Q I1 q1
end
end L2
namespace L2
open PySem PySem.Spec PyProof.Rows
def SqL (K : PySem.W.Frag) (H : Hp) (a : Addr) (xs : List V) : Prop :=
  Rd H a (.lst xs) ∨
    ∃ (o : Obj) (its : Array Value) (n : Nat), K.lookup a = some o ∧ o.cls = .type "list" ∧ o.dict = none ∧ o.data = .seq its n ∧ its.size ≤ sizeLine ∧ Vals xs its.toList
def SqT (K : PySem.W.Frag) (H : Hp) (a : Addr) (xs : List V) : Prop :=
  Rd H a (.tup xs) ∨
    ∃ (o : Obj) (its : Array Value) (n : Nat), K.lookup a = some o ∧ o.cls = .type "tuple" ∧ o.data = .seq its n ∧ its.size ≤ sizeLine ∧ Vals xs its.toList
def absV : Value → Option V
  | .none => some .non
  | .bool b => some (.bl b)
  | .int i _ => some (.int i)
  | .str x _ => some (.str x)
  | .bytes b _ => some (.byt b)
  | .float b _ => some (.flt b)
  | .ref a => some (.ref a)
  | .type n => some (.ty n)
  | _ => none
theorem RelV.abs {x : V} {u : Value} (r : RelV x u) : absV u = some x := by
  cases x with
  | non => cases r; rfl
  | bl _ => cases r; rfl
  | int _ => obtain ⟨t, rfl⟩ := r; rfl
  | str _ => obtain ⟨t, rfl⟩ := r; rfl
  | byt _ => obtain ⟨t, rfl⟩ := r; rfl
  | flt _ => obtain ⟨t, rfl⟩ := r; rfl
  | ref _ => cases r; rfl
  | ty _ => cases r; rfl
theorem RelV.inj {x y : V} {u : Value} (r : RelV x u) (q : RelV y u) : x = y := Option.some.inj (r.abs.symm.trans q.abs)
theorem Vals.inj : ∀ {xs ys : List V} {us : List Value}, Vals xs us → Vals ys us → xs = ys
  | _, _, _, .nil, .nil => rfl
  | _, _, _, .cons r t, .cons r' t' => by rw [r.inj r', Vals.inj t t']
section
variable {X : Cx} {pins : List (Addr × Obj)} {σ : St} {H : Hp} {s : Shared} {a : Addr} {xs ys : List V}
theorem SqL.of {K : PySem.W.Frag} (h : H a = some (.lst xs)) : SqL K H a xs := .inl (.inl h)
theorem SqT.of {K : PySem.W.Frag} (h : H a = some (.tup xs)) : SqT K H a xs := .inl (.inl h)
theorem Inv.list (I : Inv X pins σ H s) (h : SqL X.K H a xs) : ∃ its : List Value, Vals xs its ∧ PlainL s.heap a its.toArray ∧ xs.length ≤ sizeLine := by
  rcases h with h | ⟨o, its, n, hk, hc, hd, hs, hz, r⟩
  · obtain ⟨z, its, n, r, e⟩ := h.ok I.hok
    exact ⟨its, r, ⟨_, n, e, rfl, rfl, rfl⟩, z⟩
  · refine ⟨its.toList, r, ⟨o, n, I.kIn a o hk, hc, hd, by simpa using hs⟩, ?_⟩
    have e := r.length
    simp only [Array.length_toList] at e
    omega
theorem Inv.tuple (I : Inv X pins σ H s) (h : SqT X.K H a xs) : ∃ its : List Value, Vals xs its ∧ IsTup s.heap a its.toArray ∧ xs.length ≤ sizeLine := by
  rcases h with h | ⟨o, its, n, hk, hc, hs, hz, r⟩
  · obtain ⟨z, its, r, p⟩ := h.ok I.hok
    exact ⟨its, r, p, z⟩
  · refine ⟨its.toList, r, ⟨o, I.kIn a o hk, hc, n, by simpa using hs⟩, ?_⟩
    have e := r.length
    simp only [Array.length_toList] at e
    omega
theorem Inv.list_inj (I : Inv X pins σ H s) (h : SqL X.K H a xs) (h' : SqL X.K H a ys) : xs = ys := by
  obtain ⟨its, r, ⟨o, n, e, _, _, d⟩, _⟩ := I.list h
  obtain ⟨its', r', ⟨o', n', e', _, _, d'⟩, _⟩ := I.list h'
  rw [e] at e'; cases e'
  rw [d] at d'
  injection d' with d1 _
  have : its = its' := by simpa using congrArg Array.toList d1
  subst this
  exact r.inj r'
end
abbrev Cx.wish (X : Cx) (E : Value → Shared → Prop) : Cx := { X with xe := E }
abbrev Cx.nox (X : Cx) : Cx := X.wish fun _ _ => False
theorem Cx.Ok.wish {X : Cx} (ok : X.Ok) (E : Value → Shared → Prop) : (X.wish E).Ok :=
  ⟨ok.mod, ok.kind, ok.glob, ok.blt, ok.above, ok.inj, ok.has, ok.cab, ok.hd, ok.frames, ok.stk, ok.exf, ok.bs, ok.bsz, ok.noex, ok.exfs, ok.funs, ok.frf⟩
theorem Cx.Ok.unwish {X : Cx} {E : Value → Shared → Prop} (ok : (X.wish E).Ok) : X.Ok :=
  ⟨ok.mod, ok.kind, ok.glob, ok.blt, ok.above, ok.inj, ok.has, ok.cab, ok.hd, ok.frames, ok.stk, ok.exf, ok.bs, ok.bsz, ok.noex, ok.exfs, ok.funs, ok.frf⟩
section
variable {X : Cx} {pins : List (Addr × Obj)} {σ : St} {H : Hp} {s : Shared} {E : Value → Shared → Prop}
theorem Inv.wish (I : Inv X pins σ H s) (E : Value → Shared → Prop) : Inv (X.wish E) pins σ H s := ⟨I.ok.wish E, I.os, I.bare, I.base, I.loc, I.cell, I.free, I.freeC, I.pin, I.hok, I.len⟩
theorem Inv.unwish (I : Inv (X.wish E) pins σ H s) : Inv X pins σ H s := ⟨I.ok.unwish, I.os, I.bare, I.base, I.loc, I.cell, I.free, I.freeC, I.pin, I.hok, I.len⟩
theorem SP.unwish {D : Ends} {f : Flow} {s' : Shared} (h : SP (X.wish E) pins D f s') : SP X pins D f s' := by
  cases f with
  | next => obtain ⟨σ', H', I, q⟩ := h; exact ⟨σ', H', I.unwish, q⟩
  | brk => obtain ⟨σ', H', I, q⟩ := h; exact ⟨σ', H', I.unwish, q⟩
  | cont => obtain ⟨σ', H', I, q⟩ := h; exact ⟨σ', H', I.unwish, q⟩
  | ret u => obtain ⟨v, σ', H', I, r, q⟩ := h; exact ⟨v, σ', H', I.unwish, r, q⟩
theorem PSs.nox {st : List Stmt} {t : TS} (h : PSs X.nox st t) : PSs X st t := fun pins s σ H D I hw =>
  wpAny_mono (h pins s σ H D (I.wish _) hw) (fun _ _ q => q.unwish) fun _ _ z => False.elim z
end
section
variable {X : Cx} {st : Stmt} {rest : List Stmt} {t u : TS} {e : Expr} {te : TE} {pos : Pos}
def tNext : TS := fun D σ H => D.nx σ H
def tSeq (t u : TS) : TS := fun D σ H => t { D with nx := u D } σ H
theorem pss_nil : PSs X [] tNext := fun _ _ σ H _ I h => wpAny_execs_nil ⟨σ, H, I, h⟩
theorem pss_cons (h1 : PS X st t) (h2 : PSs X rest u) : PSs X (st :: rest) (tSeq t u) := by
  intro pins s σ H D I h
  refine wpAny_execs_cons (thn (h1 pins s σ H { D with nx := u D } I h) fun f s1 q => ?_)
  cases f with
  | next =>
    obtain ⟨σ', H', I', q⟩ := q
    exact h2 pins s1 σ' H' D I' q
  | ret v => exact q
  | brk => exact q
  | cont => exact q
theorem pss_one (h1 : PS X st t) : PSs X [st] t := by
  intro pins s σ H D I h
  refine wpAny_execs_cons (thn (h1 pins s σ H D I h) fun f s1 q => ?_)
  cases f with
  | next => exact wpAny_execs_nil q
  | ret v => exact q
  | brk => exact q
  | cont => exact q
theorem Inv.quiet {pins : List (Addr × Obj)} {σ : St} {H : Hp} {s : Shared} (I : Inv X pins σ H s) : interactive X.env = false := by simp [interactive, I.ok.kind]
def tDrop (te : TE) : TS := fun D σ H => te σ H fun _ H1 => D.nx σ H1
theorem ps_expr (he : PE X e te) (hs : swapsWith e none pos.line X.env = pure false := by rfl) : PS X (.Expr e pos) (tDrop te) := by
  intro pins s σ H D I h
  exact wpAny_Expr_any (thn (he pins s σ H _ I h) fun v s1 ⟨x, H1, I1, r1, q1⟩ => ⟨σ, H1, I1, q1⟩) I.quiet hs
def tRet (te : TE) : TS := fun D σ H => te σ H D.rt
theorem ps_ret (he : PE X e te) : PS X (.Return (some e) pos) (tRet te) := by
  intro pins s σ H D I h
  exact wpAny_Return_some (thn (he pins s σ H _ I h) fun v s1 ⟨x, H1, I1, r1, q1⟩ => ⟨x, σ, H1, I1, r1, q1⟩)
def tIfS (c : TT) (t u : TS) : TS := fun D σ H => c σ H fun b H1 => if b = true then t D σ H1 else u D σ H1
theorem ps_if {c : Expr} {a b : List Stmt} {tc : TT} (hc : PT X c tc) (ha : PSs X a t) (hb : PSs X b u) : PS X (.If c a b pos) (tIfS tc t u) := by
  intro pins s σ H D I h
  refine wpAny_If (thn (hc pins s σ H _ I h) fun d s1 zz => ?_)
  obtain ⟨H1, I1, q1⟩ := zz
  cases d with
  | true => exact ha pins s1 σ H1 D I1 q1
  | false => exact hb pins s1 σ H1 D I1 q1
end
abbrev TG := V → St → Hp → (St → Hp → Prop) → Prop
abbrev TGs := List V → St → Hp → (St → Hp → Prop) → Prop
def PG (X : Cx) (target : Expr) (t : TG) : Prop :=
  ∀ (pins : List (Addr × Obj)) (s : Shared) (σ : St) (H : Hp) (v : V) (u : Value) (Q : St → Hp → Prop), Inv X pins σ H s → RelV v u → t v σ H Q →
    wpAny (model X.prog X.w) X.A (assign target X.env u) (fun _ s' => ∃ σ' H', Inv X pins σ' H' s' ∧ Q σ' H') X.xe s
def PGs (X : Cx) (ts : List Expr) (t : TGs) : Prop :=
  ∀ (pins : List (Addr × Obj)) (s : Shared) (σ : St) (H : Hp) (vs : List V) (us : List Value) (Q : St → Hp → Prop), Inv X pins σ H s → Vals vs us → t vs σ H Q →
    wpAny (model X.prog X.w) X.A (assignInOrder ((assignEach ts X.env).map (·.2)) us) (fun _ s' => ∃ σ' H', Inv X pins σ' H' s' ∧ Q σ' H') X.xe s
abbrev TSet := V → V → V → Hp → (Hp → Prop) → Prop
def PSet (X : Cx) (t : TSet) : Prop :=
  ∀ (pins : List (Addr × Obj)) (s : Shared) (σ : St) (H : Hp) (o i v : V) (ov iv u : Value) (Q : Hp → Prop), Inv X pins σ H s → RelV o ov → RelV i iv → RelV v u → t o i v H Q →
    wpAny (model X.prog X.w) X.A (setItem ov iv u) (fun _ s' => ∃ H', Inv X pins σ H' s' ∧ Q H') X.xe s
abbrev TIp := V → V → Hp → VK → Prop
def PIp (X : Cx) (op : Operator) (t : TIp) : Prop :=
  ∀ (pins : List (Addr × Obj)) (s : Shared) (σ : St) (H : Hp) (x y : V) (v u : Value) (Q : VK), Inv X pins σ H s → RelV x v → RelV y u → t x y H Q →
    wpAny (model X.prog X.w) X.A (inplaceOp op v u) (EP X pins σ Q) X.xe s
section
variable {X : Cx} {pos : Pos}
def gName (i : Nat) : TG := fun v σ H Q => Q (σ.set i (some v)) H
theorem pg_name {i : Nat} {x : Str} (hN : X.N.Nodup) (hi : X.N[i]? = some x) (hx : Loc X.env.scope x) (hf : X.fn x = true ∨ X.env.scope.names.lookup x = some .local := by first | exact .inl rfl | exact .inr rfl | assumption) : PG X (.Name x pos) (gName i) := by
  intro pins s σ H v u Q I r h
  exact wpAny_assign_Name (store_ok I hN hi hx r (fun s' I' => ⟨_, H, I', h⟩) hf)
def gNil : TGs := fun vs σ H Q => vs = [] ∧ Q σ H
def gCons (t : TG) (u : TGs) : TGs := fun vs σ H Q => ∃ v r, vs = v :: r ∧ t v σ H fun σ' H' => u r σ' H' Q
theorem pgs_nil : PGs X [] gNil := by
  intro pins s σ H vs us Q I r h
  obtain ⟨e, h⟩ := h
  subst e
  cases r
  exact assignInOrder_nil ⟨σ, H, I, h⟩
theorem pgs_cons {e : Expr} {es : List Expr} {t : TG} {u : TGs} (h1 : PG X e t) (h2 : PGs X es u)
    (hs : (assignEach (e :: es) X.env).map (·.2) = assign e X.env :: (assignEach es X.env).map (·.2) := by rfl) : PGs X (e :: es) (gCons t u) := by
  intro pins s σ H vs us Q I r h
  obtain ⟨v, vr, e1, h⟩ := h
  subst e1
  cases r with
  | cons r rr =>
    rw [hs]
    refine assignInOrder_cons (thn (h1 pins s σ H _ _ _ I r h) fun _ s1 zz => ?_)
    obtain ⟨σ1, H1, I1, q1⟩ := zz
    exact h2 pins s1 σ1 H1 _ _ Q I1 rr q1
def gTup (K : PySem.W.Frag) (n : Nat) (t : TGs) : TG := fun v σ H Q => ∃ a xs, v = .ref a ∧ SqT K H a xs ∧ xs.length = n ∧ t xs σ H Q
theorem pg_tup {es : List Expr} {k : Nat} {t : TGs} {n : Nat} (hc : X.calm = true) (h : PGs X es t)
    (hn : (assignEach es X.env).length = n := by rfl) (hst : (assignEach es X.env).findIdx? (·.1) = none := by rfl) : PG X (.Tuple es k pos) (gTup X.K n t) := by
  intro pins s σ H v u Q I r hw
  obtain ⟨a, xs, e1, hq, hl, hw⟩ := hw
  subst e1
  cases r
  obtain ⟨its, rv, ht, hz⟩ := I.tuple hq
  refine assign_Tuple_tuple (I.ok.hd hc) ht (by simp [hn, ← hl, rv.length]) hst fun h' hx => ?_
  have I1 : Inv X pins σ H { s with heap := h' } := I.kept (t' := s.toks) fun b o e => hx b o (Nat.ne_of_lt (Heap.lt_size e)) e
  exact h pins _ σ H xs _ Q I1 (by simpa using rv) hw
def tAsg (te : TE) (g : TG) : TS := fun D σ H => te σ H fun x H1 => g x σ H1 D.nx
theorem ps_set {i : Nat} {x : Str} {e : Expr} {te : TE} {pos' : Pos} (hN : X.N.Nodup) (hi : X.N[i]? = some x) (hx : Loc X.env.scope x) (he : PE X e te) (hs : swapsWith e (some (.Name x pos')) pos.line X.env = pure false := by rfl) (hf : X.fn x = true ∨ X.env.scope.names.lookup x = some .local := by first | exact .inl rfl | exact .inr rfl | assumption) :
    PS X (.Assign [.Name x pos'] e pos) (tAsg te (gName i)) := by
  intro pins s σ H D I h
  refine wpAny_Assign_Name (thn (he pins s σ H _ I h) fun v s1 ⟨y, H1, I1, r1, q1⟩ => ?_) hs
  exact store_ok I1 hN hi hx r1 (fun s2 I2 => ⟨_, H1, I2, q1⟩) hf
def tAug (i : Nat) (te : TE) (ti : TIp) : TS := fun D σ H => ∃ x, σ[i]? = some (some x) ∧ te σ H fun y H1 => ti x y H1 fun z H2 => D.nx (σ.set i (some z)) H2
theorem ps_aug {i : Nat} {x : Str} {e : Expr} {te : TE} {op : Operator} {ti : TIp} {pos' : Pos} (hN : X.N.Nodup) (hi : X.N[i]? = some x) (hx : Loc X.env.scope x) (he : PE X e te) (ho : PIp X op ti) (hf : X.fn x = true ∨ X.env.scope.names.lookup x = some .local := by first | exact .inl rfl | exact .inr rfl | assumption) :
    PS X (.AugAssign (.Name x pos') op e pos) (tAug i te ti) := by
  intro pins s σ H D I h
  obtain ⟨v, e1, h⟩ := h
  obtain ⟨m, hn, hl⟩ := I.loc
  have vis : Vis X.env.scope x := by rcases hx with k | k; exact .inl k; exact .inr (.inl k)
  obtain ⟨u, r, l⟩ := hl i x v hi e1 vis
  refine wpAny_AugAssign_Name ?_
  have go : wpAny (model X.prog X.w) X.A (eval e X.env) (fun w s₂ => wpAny (model X.prog X.w) X.A (inplaceOp op u w) (fun r s₃ => wpAny (model X.prog X.w) X.A (storeName X.env x r) (fun _ => SP X pins D .next) X.xe s₃) X.xe s₂) X.xe s := by
    refine thn (he pins s σ H _ I h) fun w s1 zz => ?_
    obtain ⟨y, H1, I1, r1, q1⟩ := zz
    refine thn (ho pins s1 σ H1 v y u w _ I1 r r1 q1) fun z s2 zz => ?_
    obtain ⟨zv, H2, I2, r2, q2⟩ := zz
    exact store_ok I2 hN hi hx r2 (fun s3 I3 => ⟨_, H2, I3, q2⟩) hf
  rcases l with ⟨hk, hm⟩ | ⟨hk, c, hc, hcell⟩
  · exact wpAny_loadName_local I.ok.kind hk hn hm go
  · rcases hk with hk | hk
    · exact wpAny_loadName_cell I.ok.kind hk hc hcell go
    · rcases hx with k | k
      · have : X.env.scope.names.lookup x = some .free := hk
        rw [k] at this; cases this
      · have : X.env.scope.names.lookup x = some .free := hk
        rw [k] at this; cases this
def tAugS (to ti te : TE) (tget : V → V → Hp → VK → Prop) (tip : TIp) (tset : TSet) : TS := fun D σ H => to σ H fun o H1 => ti σ H1 fun i H2 => tget o i H2 fun x H3 => te σ H3 fun y H4 => tip x y H4 fun z H5 => tset o i z H5 fun H6 => D.nx σ H6
def PGet (X : Cx) (t : V → V → Hp → VK → Prop) : Prop :=
  ∀ (pins : List (Addr × Obj)) (s : Shared) (σ : St) (H : Hp) (o i : V) (ov iv : Value) (Q : VK), Inv X pins σ H s → RelV o ov → RelV i iv → t o i H Q →
    wpAny (model X.prog X.w) X.A (getItem ov iv) (EP X pins σ Q) X.xe s
theorem ps_augS {o i e : Expr} {to ti te : TE} {tget : V → V → Hp → VK → Prop} {tip : TIp} {tset : TSet} {op : Operator} {tpos : Pos} (ho : PE X o to) (hi : PE X i ti) (hg : PGet X tget) (he : PE X e te) (hp : PIp X op tip) (hs : PSet X tset)
    (ha : ∀ ov iv new, augStore i ov iv new = (do holding [new, ov, iv] (setItem ov iv new); release [new, ov, iv] []; pure .next) := by intros; rfl) : PS X (.AugAssign (.Subscript o i tpos) op e pos) (tAugS to ti te tget tip tset) := by
  intro pins s σ H D I h
  refine wpAny_AugAssign_SubscriptAny (thn (ho pins s σ H _ I h) fun ov s1 ⟨x1, H1, I1, r1, q1⟩ => ?_) ha
  refine thn (hi pins s1 σ H1 _ I1 q1) fun iv s2 zz => ?_
  obtain ⟨x2, H2, I2, r2, q2⟩ := zz
  refine thn (hg pins s2 σ H2 x1 x2 ov iv _ I2 r1 r2 q2) fun old s3 zz => ?_
  obtain ⟨x3, H3, I3, r3, q3⟩ := zz
  refine thn (he pins s3 σ H3 _ I3 q3) fun v s4 zz => ?_
  obtain ⟨x4, H4, I4, r4, q4⟩ := zz
  refine thn (hp pins s4 σ H4 x3 x4 old v _ I4 r3 r4 q4) fun new s5 zz => ?_
  obtain ⟨x5, H5, I5, r5, q5⟩ := zz
  exact thn (hs pins s5 σ H5 x1 x2 x5 ov iv new _ I5 r1 r2 r5 q5) fun _ s6 ⟨H6, I6, q6⟩ => ⟨σ, H6, I6, q6⟩
def ipI (f : Int → Int → Int) : TIp := fun x y H Q => ∃ i j, x = .int i ∧ y = .int j ∧ Q (.int (f i j)) H
theorem ip_add : PIp X .Add (ipI fun i j => i + j) := by
  intro pins s σ H x y v u Q I r1 r2 h
  obtain ⟨i, j, e1, e2, q⟩ := h
  subst e1; subst e2
  obtain ⟨t, rfl⟩ := r1
  obtain ⟨t', rfl⟩ := r2
  exact iadd_int ⟨.int _, H, I.tok _, ⟨_, rfl⟩, q⟩
theorem ip_sub : PIp X .Sub (ipI fun i j => i - j) := by
  intro pins s σ H x y v u Q I r1 r2 h
  obtain ⟨i, j, e1, e2, q⟩ := h
  subst e1; subst e2
  obtain ⟨t, rfl⟩ := r1
  obtain ⟨t', rfl⟩ := r2
  exact isub_int ⟨.int _, H, I.tok _, ⟨_, rfl⟩, q⟩
end
section
variable {X : Cx} {pos : Pos}
def tWhile (c : TT) (tb : TS) : TS := fun D σ H => ∃ W : Nat → St → Hp → Prop, (∃ m, W m σ H) ∧ ∀ m σ H, W m σ H →
  c σ H fun b H1 => if b = true then ∃ N : St → Hp → Prop, (∀ σ' H', N σ' H' → ∃ m', m' < m ∧ W m' σ' H') ∧ tb { D with nx := N, ct := N, bk := D.nx } σ H1 else D.nx σ H1
theorem ps_while {c : Expr} {body : List Stmt} {tc : TT} {tb : TS} (hp : PassesOwn (model X.prog X.w) X.A X.env X.xe) (hc : PT X c tc) (hb : PSs X body tb) : PS X (.While c body [] pos) (tWhile tc tb) := by
  intro pins s σ H D I h
  obtain ⟨W, ⟨m0, w0⟩, turn⟩ := h
  refine wpAny_While (codeAny_whileLoop (fun n s' => ∃ σ' H', Inv X pins σ' H' s' ∧ W n σ' H') ?_ m0 ⟨σ, H, I, w0⟩)
  rintro n s1 ⟨σ1, H1, I1, w1⟩
  refine wpAny_passesOwn hp (thn (hc pins s1 σ1 H1 _ I1 (turn n σ1 H1 w1)) fun b s2 zz => ?_)
  obtain ⟨H2, I2, q2⟩ := zz
  cases b with
  | true =>
    obtain ⟨N, hN, q2⟩ := q2
    rw [if_pos rfl]
    refine wpAny_passesOwn hp (thn (hb pins s2 σ1 H2 _ I2 q2) fun f s3 q3 => ?_)
    cases f with
    | next =>
      obtain ⟨σ3, H3, I3, n3⟩ := q3
      obtain ⟨m', hm, w3⟩ := hN σ3 H3 n3
      exact ⟨m', hm, σ3, H3, I3, w3⟩
    | cont =>
      obtain ⟨σ3, H3, I3, n3⟩ := q3
      obtain ⟨m', hm, w3⟩ := hN σ3 H3 n3
      exact ⟨m', hm, σ3, H3, I3, w3⟩
    | brk => exact q3
    | ret v => exact q3
  | false =>
    rw [if_neg Bool.false_ne_true]
    exact wpAny_execs_nil ⟨σ1, H2, I2, q2⟩
end
structure It where
  go : Nat → Hp → Prop
  yld : Nat → Hp → V → Hp → Prop
  stop : Nat → Hp → Prop
def FpOk (X : Cx) (pins : List (Addr × Obj)) (H : Hp) (b : Addr) : Prop :=
  H b = none ∧ b ≠ X.env.locals ∧ b ∉ X.fs ∧ (b ∈ X.ex ∨ X.s_0.heap.objs.size ≤ b) ∧ (∀ x c, X.env.cells.lookup x = some c → c ≠ b) ∧ ∀ p ∈ X.pn ++ pins, p.1 ≠ b
theorem Inv.fpOk {X : Cx} {pins : List (Addr × Obj)} {σ : St} {H H' : Hp} {s : Shared} {b : Addr} (I : Inv X pins σ H s) (hb : s.heap.objs.size ≤ b) (hn : H' b = none) : FpOk X pins H' b := by
  refine ⟨hn, Nat.ne_of_gt (Nat.lt_of_lt_of_le I.lt hb), I.nofs hb, .inr (Nat.le_trans I.sz hb), fun x c e z => ?_, fun p hp z => ?_⟩
  · obtain ⟨v, q⟩ := I.cell x c e
    exact absurd (Nat.lt_of_lt_of_le q.lt (by rw [z]; exact hb)) (Nat.lt_irrefl _)
  · exact absurd (Nat.lt_of_lt_of_le (Heap.lt_size (I.pin p hp).1) (by rw [z]; exact hb)) (Nat.lt_irrefl _)
structure Turn (P : Program) (w : World) (K : PySem.W.Frag) (tg : Expr) (J : It) (fp : List Addr) (it : Addr) (tn : Nat → Heap → Prop) : Prop where
  mem : it ∈ fp
  obj : ∀ i h, tn i h → ∀ b ∈ fp, ∃ o, h.get? b = some o ∧ ∀ v, o.data ≠ .cell v
  keep : ∀ i h h', tn i h → (∀ b ∈ fp, ∀ o, h.get? b = some o → h'.get? b = some o) → tn i h'
  item : ∀ (X : Cx), X.prog = P → X.w = w → X.K = K → X.calm = true → ∀ (i : Nat) (pins : List (Addr × Obj)) (s : Shared) (σ : St) (H : Hp) (E : Value → Shared → Prop), Inv X pins σ H s → (∀ b ∈ fp, FpOk X pins H b) → tn i s.heap → J.go i H →
    wpAny (model P w) X.A (pyNext (.ref it)) (fun r s1 => ∃ u, r = some u ∧
      wpAny (model P w) X.A (letOwnedTupleGo tg (.ref it) u) (fun _ s2 => ∃ x H', Inv X pins σ H' s2 ∧ RelV x u ∧ J.yld i H x H' ∧ tn (i + 1) s2.heap ∧ ∀ b ∈ fp, H' b = none) E s1) E s
  done : ∀ (X : Cx), X.prog = P → X.w = w → X.K = K → X.calm = true → ∀ (i : Nat) (pins : List (Addr × Obj)) (s : Shared) (σ : St) (H : Hp) (E : Value → Shared → Prop), Inv X pins σ H s → (∀ b ∈ fp, FpOk X pins H b) → tn i s.heap → J.stop i H →
    wpAny (model P w) X.A (pyNext (.ref it)) (fun r s1 => r = none ∧ Inv X pins σ H s1) E s
  self : ∀ (A : Around) (i : Nat) (s : Shared) (Q : Value → Shared → Prop) (E : Value → Shared → Prop), tn i s.heap → Q (.ref it) s → wpAny (model P w) A (pyIter (.ref it)) Q E s
abbrev TI := St → Hp → (It → Hp → Prop) → Prop
def PIE (X : Cx) (pins : List (Addr × Obj)) (σ : St) (tg : Expr) (R : It → Hp → Prop) (itv : Value) (s2 : Shared) : Prop :=
  ∃ (it : Addr) (fp : List Addr) (tn : Nat → Heap → Prop) (J : It) (H' : Hp), itv = .ref it ∧ Inv X pins σ H' s2 ∧ Turn X.prog X.w X.K tg J fp it tn ∧ tn 0 s2.heap ∧ (∀ b ∈ fp, FpOk X pins H' b) ∧ R J H'
def PI (X : Cx) (tg iter : Expr) (wi : TI) : Prop :=
  ∀ (pins : List (Addr × Obj)) (s : Shared) (σ : St) (H : Hp) (R : It → Hp → Prop), Inv X pins σ H s → wi σ H R →
    wpAny (model X.prog X.w) X.A (eval iter X.env) (fun v s1 => wpAny (model X.prog X.w) X.A (pyIter v) (PIE X pins σ tg R) X.xe s1) X.xe s
theorem go_of {M : Model} {A : Around} {E : Value → Shared → Prop} {s : Shared} {tg : Expr} {it : Addr} {u : Value} {o : Obj} {n : String} {vs : Array Value} {Q : Unit → Shared → Prop} (ho : s.heap.get? it = some o) (hc : o.cls = .type n) (hd : o.data = .fields vs)
    (hn : ["enumerate", "zip", "dict_itemiterator", "dict_reverseitemiterator", "odict_iterator", "itertools.zip_longest", "itertools.pairwise"].contains n = false) (hQ : Q () s) : wpAny M A (letOwnedTupleGo tg (.ref it) u) Q E s := by
  unfold letOwnedTupleGo
  cases tg <;> first
    | exact wpAny_pure hQ
    | (cases u <;> first
        | exact wpAny_pure hQ
        | (refine wpAny_bind (wpAny_load ho ?_)
           rw [hc, hd]
           show wpAny M A (if (["enumerate", "zip", "dict_itemiterator", "dict_reverseitemiterator", "odict_iterator", "itertools.zip_longest", "itertools.pairwise"].contains n && vs[0]? == some (rawInt _)) = true then _ else _) Q E s
           rw [if_neg (by intro h; rw [hn, Bool.false_and] at h; cases h)]
           exact wpAny_pure hQ))
def Itl (K : PySem.W.Frag) (a : Addr) : It :=
  ⟨fun i H => ∃ xs x, SqL K H a xs ∧ xs[i]? = some x, fun i H x H' => H' = H ∧ ∀ xs, SqL K H a xs → xs[i]? = some x, fun i H => ∃ xs, SqL K H a xs ∧ xs.length ≤ i⟩
def Itr (lo : Int) (n : Nat) : It := ⟨fun i _ => i < n, fun i H x H' => H' = H ∧ x = .int (lo + i), fun i _ => n ≤ i⟩
theorem turn_list {P : Program} {w : World} {K : PySem.W.Frag} {tg : Expr} (a it : Addr) : Turn P w K tg (Itl K a) [it] it (fun i h => h.IsListIter it a i) where
  mem := by simp
  obj := fun i h st b hb => by
    have e : b = it := by simpa using hb
    subst e
    obtain ⟨o, e, c, d⟩ := st
    exact ⟨o, e, fun v z => by rw [d] at z; cases z⟩
  keep := fun i h h' st k => st.at fun o e => k it (by simp) o e
  item := by
    intro X hP hw hK hc i pins s σ H E I hf st hg
    subst hP hw hK
    obtain ⟨xs, x, hq, hx⟩ := hg
    obtain ⟨its, rv, p, hz⟩ := I.list hq
    obtain ⟨u, hu, ru⟩ := rv.get hx
    obtain ⟨f0, f1, f2, f3, f4, f5⟩ := hf it (by simp)
    refine wpAny_pyNext_list_item st p.isList (x := u) (by simpa using hu) fun h' st' sb => ?_
    have I1 : Inv X pins σ H { s with heap := h' } := I.turned (t' := s.toks) (fun b o hb e => (sb.2 b hb).trans e) f0 f1 f3 f4 f5
    obtain ⟨o, e, c, d⟩ := id st'
    exact ⟨u, rfl, go_of (s := { s with heap := h' }) e c d (by decide) ⟨x, H, I1, ru, ⟨rfl, fun ys hy => by rw [I.list_inj hy hq]; exact hx⟩, st', fun b hb => (hf b hb).1⟩⟩
  done := by
    intro X hP hw hK hc i pins s σ H E I hf st hg
    subst hP hw hK
    obtain ⟨xs, hq, hx⟩ := hg
    obtain ⟨its, rv, p, hz⟩ := I.list hq
    obtain ⟨f0, f1, f2, f3, f4, f5⟩ := hf it (by simp)
    have hl := rv.length
    exact wpAny_pyNext_list_end (I.ok.hd hc) st p.isList (by simp; omega) fun h' eb => ⟨rfl, I.turned (t' := s.toks) (fun b o hb e => eb b o hb e) f0 f1 f3 f4 f5⟩
  self := fun _ _ _ _ _ st h => wpAny_pyIter_listiter st h
theorem turn_range {P : Program} {w : World} {K : PySem.W.Frag} {tg : Expr} (it : Addr) (lo : Int) (n : Nat) : Turn P w K tg (Itr lo n) [it] it (fun i h => IsRangeIter h it (lo + (i : Nat) * 1) ((n : Int) - (i : Nat)) 1) where
  mem := by simp
  obj := fun i h st b hb => by
    have e : b = it := by simpa using hb
    subst e
    exact ⟨_, st, fun v z => by
      have z' : Data.fields _ = Data.cell v := z
      cases z'⟩
  keep := fun i h h' st k => k it (by simp) _ st
  item := by
    intro X hP hw hK hc i pins s σ H E I hf st hg
    subst hP hw hK
    obtain ⟨f0, f1, f2, f3, f4, f5⟩ := hf it (by simp)
    have W := Walks.range (prog := X.prog) (w := X.w) (I.ok.hd hc) it lo 1 n
    refine W.item i s _ _ hg st fun v h' tk hv st' kk => ?_
    obtain ⟨t, rfl⟩ := hv
    have I1 : Inv X pins σ H { s with heap := h', toks := tk } := I.turned (fun b o hb e => kk b o (by simpa using hb) e) f0 f1 f3 f4 f5
    refine ⟨_, rfl, go_of (s := { s with heap := h', toks := tk }) (n := "range_iterator") st' rfl rfl (by decide) ⟨.int (lo + i), H, I1, ⟨t, ?_⟩, ⟨rfl, rfl⟩, st', fun b hb => (hf b hb).1⟩⟩
    rw [Int.mul_one]
  done := by
    intro X hP hw hK hc i pins s σ H E I hf st hg
    subst hP hw hK
    obtain ⟨f0, f1, f2, f3, f4, f5⟩ := hf it (by simp)
    exact wpAny_pyNext_range_end (I.ok.hd hc) st (by have : n ≤ i := hg; omega) fun h' eb => ⟨rfl, I.turned (t' := s.toks) (fun b o hb e => eb b o hb e) f0 f1 f3 f4 f5⟩
  self := fun _ _ _ _ _ st h => wpAny_pyIter_rangeiter st h
end L2
namespace L2
open PySem PySem.Spec PyProof.Rows
section
variable {X : Cx} {tg : Expr}
def iList (K : PySem.W.Frag) (tl : TE) : TI := fun σ H R => tl σ H fun x H1 => ∃ a, x = .ref a ∧ (∃ xs, SqL K H1 a xs) ∧ R (Itl K a) H1
theorem pi_list {l : Expr} {tl : TE} (hl : PE X l tl) : PI X tg l (iList X.K tl) := by
  intro pins s σ H R I h
  refine thn (hl pins s σ H _ I h) fun v s1 zz => ?_
  obtain ⟨x, H1, I1, r1, q1⟩ := zz
  obtain ⟨a, e, ⟨xs, hq⟩, q⟩ := q1
  subst e
  cases r1
  obtain ⟨its, rv, p, hz⟩ := I1.list hq
  refine wpAny_pyIter_list p.isList ?_
  refine ⟨s1.heap.objs.size, [s1.heap.objs.size], _, _, H1, rfl, I1.kept (t' := s1.toks) fun b o e => Heap.get?_push_of_some _ e, turn_list a _, ⟨_, Heap.get?_push_size _ rfl, rfl, rfl⟩, fun b hb => ?_, q⟩
  have e : b = s1.heap.objs.size := by simpa using hb
  subst e
  exact I1.fpOk (Nat.le_refl _) (I1.hok.fresh (Nat.le_refl _))
theorem range_it {pins : List (Addr × Obj)} {σ : St} {H : Hp} {s : Shared} {R : It → Hp → Prop} {E : Value → Shared → Prop} {lo hi : Int} {t u v : Tok} {tk : Nat} (I : Inv X pins σ H s) (h1 : -(2 ^ 62) ≤ lo) (h2 : lo < 2 ^ 62) (h3 : -(2 ^ 62) ≤ hi) (h4 : hi < 2 ^ 62)
    (q : R (Itr lo (hi - lo).toNat) H) : wpAny (model X.prog X.w) X.A (pyIter (.ref s.heap.objs.size)) (PIE X pins σ tg R) E { s with heap := s.heap.push { cls := .type "range", data := .fields #[.int lo t, .int hi u, .int 1 v] }, toks := tk } := by
  refine wpAny_pyIter_range (IsRange.new ..) (small_one h1 h2 h3 h4) ?_
  have I1 : Inv X pins σ H { s with heap := s.heap.push { cls := .type "range", data := .fields #[.int lo t, .int hi u, .int 1 v] }, toks := tk } := I.kept fun b o e => Heap.get?_push_of_some _ e
  refine ⟨(s.heap.push { cls := .type "range", data := .fields #[.int lo t, .int hi u, .int 1 v] }).objs.size, [(s.heap.push { cls := .type "range", data := .fields #[.int lo t, .int hi u, .int 1 v] }).objs.size], _, _, H, rfl,
    I1.kept (t' := tk) fun b o e => Heap.get?_push_of_some _ e, turn_range _ lo (hi - lo).toNat, ?_, fun b hb => ?_, q⟩
  · have e1 : lo + ((0 : Nat) : Int) * 1 = lo := by simp
    have e2 : (((hi - lo).toNat : Nat) : Int) - ((0 : Nat) : Int) = Builtin.Range.rangeSize lo hi 1 := by rw [rangeSize_one]; split <;> omega
    show IsRangeIter _ _ (lo + ((0 : Nat) : Int) * 1) ((((hi - lo).toNat : Nat) : Int) - ((0 : Nat) : Int)) 1
    rw [e1, e2]
    exact Heap.get?_push_size _ rfl
  · have e : b = (s.heap.push { cls := .type "range", data := .fields #[.int lo t, .int hi u, .int 1 v] }).objs.size := by simpa using hb
    subst e
    exact I1.fpOk (Nat.le_refl _) (I1.hok.fresh (Nat.le_refl _))
def iRng1 (ta : TA) : TI := fun σ H R => ta σ H fun vs H1 => ∃ j : Int, vs = [.int j] ∧ -(2 ^ 62) ≤ j ∧ j < 2 ^ 62 ∧ R (Itr 0 j.toNat) H1
def iRng2 (ta : TA) : TI := fun σ H R => ta σ H fun vs H1 => ∃ i j : Int, vs = [.int i, .int j] ∧ (-(2 ^ 62) ≤ i ∧ i < 2 ^ 62 ∧ -(2 ^ 62) ≤ j ∧ j < 2 ^ 62) ∧ R (Itr i (j - i).toNat) H1
theorem pi_range1 {a : Expr} {ta : TA} {p pos : Pos} (hg : Gl X "range") (hm : X.mg "range" = none) (ha : PA X [a] ta) (hs : starEach [a] X.env = [(false, eval a X.env)] := by rfl) : PI X tg (.Call (.Name "range" p) [a] [] pos) (iRng1 ta) := by
  intro pins s σ H R I h
  refine Call_ (ld_blt I hg hm boot_range (PyProof.Rows.callWith_type1 (thn (ha pos pins s σ H _ I h) fun us s1 ⟨vs, H1, I1, r1, q1⟩ => ?_) hs rfl))
  obtain ⟨j, e, q1, q2, q⟩ := q1
  subst e
  cases r1 with
  | cons r rr =>
    cases rr
    obtain ⟨t, rfl⟩ := r
    exact call_range_1 (range_it I1 (by omega) (by omega) q1 q2 (by simpa using q))
theorem pi_range2 {a b : Expr} {ta : TA} {p pos : Pos} (hg : Gl X "range") (hm : X.mg "range" = none) (ha : PA X [a, b] ta) (hs : starEach [a, b] X.env = [(false, eval a X.env), (false, eval b X.env)] := by rfl) (hs2 : starEach [b] X.env = [(false, eval b X.env)] := by rfl) :
    PI X tg (.Call (.Name "range" p) [a, b] [] pos) (iRng2 ta) := by
  intro pins s σ H R I h
  refine Call_ (ld_blt I hg hm boot_range (PyProof.Rows.callWith_type1 (thn (ha pos pins s σ H _ I h) fun us s1 ⟨vs, H1, I1, r1, q1⟩ => ?_) (by rw [hs, hs2]) (by rw [hs2]; rfl)))
  obtain ⟨i, j, e, ⟨q1, q2, q3, q4⟩, q⟩ := q1
  subst e
  cases r1 with
  | cons r rr =>
    cases rr with
    | cons r' rr =>
      cases rr
      obtain ⟨t, rfl⟩ := r
      obtain ⟨t', rfl⟩ := r'
      exact call_range_2 (range_it I1 q1 q2 q3 q4 q)
def tFor (wi : TI) (g : TG) (tb : TS) : TS := fun D σ H => wi σ H fun J H1 => ∃ W : Nat → Nat → St → Hp → Prop, (∃ m, W 0 m σ H1) ∧ ∀ i m σ H, W i m σ H →
  (J.stop i H ∧ D.nx σ H) ∨ (J.go i H ∧ ∃ N : St → Hp → Prop, (∀ σ' H', N σ' H' → ∃ m', m' < m ∧ W (i + 1) m' σ' H') ∧ ∀ x H', J.yld i H x H' → g x σ H' fun σ2 H2 => tb { D with nx := N, ct := N, bk := D.nx } σ2 H2)
def pinsAt (fp : List Addr) (h : Heap) : List (Addr × Obj) := fp.filterMap fun b => (h.get? b).map fun o => (b, o)
theorem mem_pinsAt {fp : List Addr} {h : Heap} {b : Addr} {o : Obj} (hb : b ∈ fp) (e : h.get? b = some o) : (b, o) ∈ pinsAt fp h := List.mem_filterMap.mpr ⟨b, hb, by rw [e]; rfl⟩
theorem of_pinsAt {fp : List Addr} {h : Heap} {p : Addr × Obj} (hp : p ∈ pinsAt fp h) : p.1 ∈ fp ∧ h.get? p.1 = some p.2 := by
  obtain ⟨b, hb, e⟩ := List.mem_filterMap.mp hp
  cases q : h.get? b with
  | none => rw [q] at e; cases e
  | some o =>
    rw [q] at e
    have e' : (b, o) = p := Option.some.inj e
    subst e'
    exact ⟨hb, q⟩
theorem Inv.pinned {pins : List (Addr × Obj)} {σ : St} {H : Hp} {s : Shared} {fp : List Addr} (I : Inv X pins σ H s) (hf : ∀ b ∈ fp, FpOk X pins H b) (ho : ∀ b ∈ fp, ∃ o, s.heap.get? b = some o ∧ ∀ v, o.data ≠ .cell v) : Inv X (pins ++ pinsAt fp s.heap) σ H s :=
  I.pins_of fun p hp => (List.mem_append.mp hp).elim (fun z => I.pin p (List.mem_append_right _ z)) fun z => by
    obtain ⟨hb, e⟩ := of_pinsAt z
    obtain ⟨f0, f1, f2, _⟩ := hf p.1 hb
    obtain ⟨o, e', d⟩ := ho p.1 hb
    rw [e] at e'; cases e'
    exact ⟨e, f0, f1, f2, d⟩
theorem Inv.unpinned {pins pl : List (Addr × Obj)} {σ : St} {H : Hp} {s : Shared} (I : Inv X (pins ++ pl) σ H s) : Inv X pins σ H s := I.pins_of fun p hp => I.pin p (List.mem_append_right _ (List.mem_append_left _ hp))
theorem ps_for {iter : Expr} {body : List Stmt} {wi : TI} {g : TG} {tb : TS} {pos : Pos} (hp : PassesOwn (model X.prog X.w) X.A X.env X.xe) (hc : X.calm = true) (hi : PI X tg iter wi) (hg : PG X tg g) (hb : PSs X body tb)
    (hs : ∀ x, foldedSetIterable iter X.env x = pure x := by intro _; rfl) : PS X (.For tg iter body [] pos) (tFor wi g tb) := by
  intro pins s σ H D I h
  refine wpAny_For (thn (hi pins s σ H _ I h) fun v s1 h1 => thn h1 fun itv s2 h2 => ?_) hs
  obtain ⟨it, fp, tn, J, H2, e, I2, T, st2, f2, W, ⟨m0, w0⟩, turn⟩ := h2
  subst e
  -- what stays true of the iterator's objects through the loop
  have stat : ∀ {H' : Hp}, (∀ b ∈ fp, H' b = none) → ∀ b ∈ fp, FpOk X pins H' b := fun hn b hb => ⟨hn b hb, (f2 b hb).2⟩
  refine codeAny_forLoop_any (fun n s' => ∃ i σ' H', Inv X pins σ' H' s' ∧ tn i s'.heap ∧ (∀ b ∈ fp, H' b = none) ∧ W i n σ' H') ?_ m0 ⟨0, σ, H2, I2, st2, fun b hb => (f2 b hb).1, w0⟩
  rintro n s3 ⟨i, σ3, H3, I3, st3, fr3, w3⟩
  rcases turn i n σ3 H3 w3 with ⟨stop, qn⟩ | ⟨go, N, hN, step⟩
  · refine wpAny_passesOwn hp (thn (T.done X rfl rfl rfl hc i pins s3 σ3 H3 X.xe I3 (stat fr3) st3 stop) fun r s4 zz => ?_)
    obtain ⟨hr, I4⟩ := zz
    subst hr
    exact wpAny_execs_nil ⟨σ3, H3, I4, qn⟩
  · refine wpAny_passesOwn hp (thn (T.item X rfl rfl rfl hc i pins s3 σ3 H3 X.xe I3 (stat fr3) st3 go) fun r s4 zz => ?_)
    obtain ⟨u, hr, h4⟩ := zz
    subst hr
    refine wpAny_passesOwn hp (thn h4 fun _ s5 zz => ?_)
    obtain ⟨x, H5, I5, r5, y5, st5, fr5⟩ := zz
    have I5' := I5.pinned (stat fr5) (T.obj _ _ st5)
    refine wpAny_passesOwn hp (thn (hg _ s5 σ3 H5 x u _ I5' r5 (step x H5 y5)) fun _ s6 zz => ?_)
    obtain ⟨σ6, H6, I6, q6⟩ := zz
    refine wpAny_passesOwn hp (thn (hb _ s6 σ6 H6 _ I6 q6) fun f s7 q7 => ?_)
    have again : ∀ {σ7 : St} {H7 : Hp}, Inv X (pins ++ pinsAt fp s5.heap) σ7 H7 s7 → N σ7 H7 → ∃ m, m < n ∧ ∃ i σ' H', Inv X pins σ' H' s7 ∧ tn i s7.heap ∧ (∀ b ∈ fp, H' b = none) ∧ W i m σ' H' := fun {σ7 H7} I7 n7 => by
      obtain ⟨m', hm, w7⟩ := hN σ7 H7 n7
      refine ⟨m', hm, i + 1, σ7, H7, I7.unpinned, T.keep _ _ _ st5 fun b hb o e => (I7.pin (b, o) (List.mem_append_right _ (List.mem_append_right _ (mem_pinsAt hb e)))).1, fun b hb => ?_, w7⟩
      obtain ⟨o, e, d⟩ := T.obj _ _ st5 b hb
      exact (I7.pin (b, o) (List.mem_append_right _ (List.mem_append_right _ (mem_pinsAt hb e)))).2.1
    cases f with
    | next => obtain ⟨σ7, H7, I7, n7⟩ := q7; exact again I7 n7
    | cont => obtain ⟨σ7, H7, I7, n7⟩ := q7; exact again I7 n7
    | brk => obtain ⟨σ7, H7, I7, q7⟩ := q7; exact ⟨σ7, H7, I7.unpinned, q7⟩
    | ret v => obtain ⟨x7, σ7, H7, I7, r7, q7⟩ := q7; exact ⟨x7, σ7, H7, I7.unpinned, r7, q7⟩
end
theorem for_list {K : PySem.W.Frag} {a : Addr} {xs : List V} {g : TG} {tb : TS} {D : Ends} {σ : St} {H : Hp} (Pv : Nat → St → Hp → Prop) (h0 : Pv 0 σ H) (hl : ∀ i σ H, i ≤ xs.length → Pv i σ H → SqL K H a xs)
    (hs : ∀ i x σ H, xs[i]? = some x → Pv i σ H → g x σ H fun σ2 H2 => tb { D with nx := Pv (i + 1), ct := Pv (i + 1), bk := D.nx } σ2 H2) (hd : ∀ σ H, Pv xs.length σ H → D.nx σ H) :
    ∃ W : Nat → Nat → St → Hp → Prop, (∃ m, W 0 m σ H) ∧ ∀ i m σ H, W i m σ H →
      ((Itl K a).stop i H ∧ D.nx σ H) ∨ ((Itl K a).go i H ∧ ∃ N : St → Hp → Prop, (∀ σ' H', N σ' H' → ∃ m', m' < m ∧ W (i + 1) m' σ' H') ∧ ∀ x H', (Itl K a).yld i H x H' → g x σ H' fun σ2 H2 => tb { D with nx := N, ct := N, bk := D.nx } σ2 H2) := by
  refine ⟨fun i m σ H => m = xs.length - i ∧ i ≤ xs.length ∧ Pv i σ H, ⟨xs.length, by simp, Nat.zero_le _, h0⟩, ?_⟩
  rintro i m σ H ⟨rfl, hi, p⟩
  have q := hl i σ H hi p
  by_cases hlt : i < xs.length
  · refine .inr ⟨⟨xs, xs[i], q, by simp [hlt]⟩, Pv (i + 1), fun σ' H' p' => ⟨xs.length - (i + 1), by omega, rfl, hlt, p'⟩, fun x H' y => ?_⟩
    obtain ⟨e, y⟩ := y
    subst e
    exact hs i x σ _ (y xs q) p
  · have e : i = xs.length := by omega
    subst e
    exact .inl ⟨⟨xs, q, Nat.le_refl _⟩, hd σ H p⟩
theorem for_range {lo : Int} {n : Nat} {g : TG} {tb : TS} {D : Ends} {σ : St} {H : Hp} (Pv : Nat → St → Hp → Prop) (h0 : Pv 0 σ H)
    (hs : ∀ i σ H, i < n → Pv i σ H → g (.int (lo + i)) σ H fun σ2 H2 => tb { D with nx := Pv (i + 1), ct := Pv (i + 1), bk := D.nx } σ2 H2) (hd : ∀ σ H, Pv n σ H → D.nx σ H) :
    ∃ W : Nat → Nat → St → Hp → Prop, (∃ m, W 0 m σ H) ∧ ∀ i m σ H, W i m σ H →
      ((Itr lo n).stop i H ∧ D.nx σ H) ∨ ((Itr lo n).go i H ∧ ∃ N : St → Hp → Prop, (∀ σ' H', N σ' H' → ∃ m', m' < m ∧ W (i + 1) m' σ' H') ∧ ∀ x H', (Itr lo n).yld i H x H' → g x σ H' fun σ2 H2 => tb { D with nx := N, ct := N, bk := D.nx } σ2 H2) := by
  refine ⟨fun i m σ H => m = n - i ∧ i ≤ n ∧ Pv i σ H, ⟨n, by simp, Nat.zero_le _, h0⟩, ?_⟩
  rintro i m σ H ⟨rfl, hi, p⟩
  by_cases hlt : i < n
  · refine .inr ⟨hlt, Pv (i + 1), fun σ' H' p' => ⟨n - (i + 1), by omega, rfl, hlt, p'⟩, fun x H' y => ?_⟩
    obtain ⟨e, y⟩ := y
    subst e y
    exact hs i σ _ hlt p
  · have e : i = n := by omega
    subst e
    exact .inl ⟨Nat.le_refl _, hd σ H p⟩
end L2
namespace L2
open PySem PySem.Spec PyProof.Rows
abbrev R2 := V → V → Hp → VK → Prop
def OpR (X : Cx) (f : Value → Value → Sem Value) (r : R2) : Prop :=
  ∀ (pins : List (Addr × Obj)) (s : Shared) (σ : St) (H : Hp) (x y : V) (v u : Value) (Q : VK), Inv X pins σ H s → RelV x v → RelV y u → r x y H Q →
    wpAny (model X.prog X.w) X.A (f v u) (EP X pins σ Q) X.xe s
def UnR (X : Cx) (f : Value → Sem Value) (r : V → Hp → VK → Prop) : Prop :=
  ∀ (pins : List (Addr × Obj)) (s : Shared) (σ : St) (H : Hp) (x : V) (v : Value) (Q : VK), Inv X pins σ H s → RelV x v → r x H Q →
    wpAny (model X.prog X.w) X.A (f v) (EP X pins σ Q) X.xe s
def CallR (X : Cx) (f : Value) (r : List V → Hp → VK → Prop) : Prop :=
  ∀ (pins : List (Addr × Obj)) (s : Shared) (σ : St) (H : Hp) (xs : List V) (us : List Value) (Q : VK), Inv X pins σ H s → Vals xs us → r xs H Q →
    wpAny (model X.prog X.w) X.A (call f us) (EP X pins σ Q) X.xe s
def tOp (r : R2) (ta tb : TE) : TE := fun σ H Q => ta σ H fun x H1 => tb σ H1 fun y H2 => r x y H2 Q
def tUn (r : V → Hp → VK → Prop) (ta : TE) : TE := fun σ H Q => ta σ H fun x H1 => r x H1 Q
def rI (C : Int → Int → Prop) (g : Int → Int → V) : R2 := fun x y H Q => ∃ i j, x = .int i ∧ y = .int j ∧ C i j ∧ Q (g i j) H
def rI0 (g : Int → Int → V) : R2 := fun x y H Q => ∃ i j, x = .int i ∧ y = .int j ∧ Q (g i j) H
def rU (g : Int → V) : V → Hp → VK → Prop := fun x H Q => ∃ i, x = .int i ∧ Q (g i) H
section
variable {X : Cx} {a b c : Expr} {ta tb tc : TE} {pos : Pos}
theorem binT (ha : PE X a ta) (hb : PE X b tb) {pins : List (Addr × Obj)} {s : Shared} {σ : St} {H : Hp} {R : V → V → Hp → Prop} (I : Inv X pins σ H s)
    (h : ta σ H fun x H1 => tb σ H1 fun y H2 => R x y H2) {Q : Value → Shared → Prop} {f : Value → Value → Sem Value}
    (hf : ∀ v u s2 x y H2, Inv X pins σ H2 s2 → RelV x v → RelV y u → R x y H2 → wpAny (model X.prog X.w) X.A (f v u) Q X.xe s2) :
    wpAny (model X.prog X.w) X.A (eval a X.env) (fun v s₁ => wpAny (model X.prog X.w) X.A (eval b X.env) (fun u s₂ => wpAny (model X.prog X.w) X.A (f v u) Q X.xe s₂) X.xe s₁) X.xe s := by
  refine thn (ha pins s σ H _ I h) fun v s1 zz => ?_
  obtain ⟨x, H1, I1, r1, q1⟩ := zz
  refine thn (hb pins s1 σ H1 _ I1 q1) fun u s2 zz => ?_
  obtain ⟨y, H2, I2, r2, q2⟩ := zz
  exact hf v u s2 x y H2 I2 r1 r2 q2
theorem pe_op {op : Operator} {r : R2} (ho : OpR X (binaryOp op) r) (ha : PE X a ta) (hb : PE X b tb) : PE X (.BinOp a op b pos) (tOp r ta tb) := by
  intro pins s σ H Q I h
  exact wpAny_BinOp (binT ha hb I h fun v u s2 x y H2 I2 rx ry q => ho pins s2 σ H2 x y v u Q I2 rx ry q)
theorem pe_un {op : UnaryOp} {r : V → Hp → VK → Prop} (ho : UnR X (unaryOp op) r) (ha : PE X a ta) : PE X (.UnaryOp op a pos) (tUn r ta) := by
  intro pins s σ H Q I h
  exact UnaryOp_ (thn (ha pins s σ H _ I h) fun v s1 ⟨x, H1, I1, r1, q1⟩ => ho pins s1 σ H1 x v Q I1 r1 q1)
theorem opI {f : Value → Value → Sem Value} {C : Int → Int → Prop} {g : Int → Int → Int}
    (rule : ∀ (i j : Int) (t u : Tok) (s : Shared) (Q : Value → Shared → Prop) (E : Value → Shared → Prop), C i j → Q (.int (g i j) s.toks) { s with toks := s.toks + 1 } → wpAny (model X.prog X.w) X.A (f (.int i t) (.int j u)) Q E s) :
    OpR X f (rI C fun i j => .int (g i j)) := by
  intro pins s σ H x y v u Q I rx ry h
  obtain ⟨i, j, rfl, rfl, hc, q⟩ := h
  obtain ⟨t, rfl⟩ := rx
  obtain ⟨t', rfl⟩ := ry
  exact rule i j t t' s _ _ hc ⟨.int (g i j), H, I.tok _, ⟨_, rfl⟩, q⟩
theorem opI0 {f : Value → Value → Sem Value} {g : Int → Int → Int}
    (rule : ∀ (i j : Int) (t u : Tok) (s : Shared) (Q : Value → Shared → Prop) (E : Value → Shared → Prop), Q (.int (g i j) s.toks) { s with toks := s.toks + 1 } → wpAny (model X.prog X.w) X.A (f (.int i t) (.int j u)) Q E s) :
    OpR X f (rI0 fun i j => .int (g i j)) := by
  intro pins s σ H x y v u Q I rx ry h
  obtain ⟨i, j, rfl, rfl, q⟩ := h
  obtain ⟨t, rfl⟩ := rx
  obtain ⟨t', rfl⟩ := ry
  exact rule i j t t' s _ _ ⟨.int (g i j), H, I.tok _, ⟨_, rfl⟩, q⟩
theorem opB0 {f : Value → Value → Sem Value} {g : Int → Int → Bool}
    (rule : ∀ (i j : Int) (t u : Tok) (s : Shared) (Q : Value → Shared → Prop) (E : Value → Shared → Prop), Q (.bool (g i j)) s → wpAny (model X.prog X.w) X.A (f (.int i t) (.int j u)) Q E s) :
    OpR X f (rI0 fun i j => .bl (g i j)) := by
  intro pins s σ H x y v u Q I rx ry h
  obtain ⟨i, j, rfl, rfl, q⟩ := h
  obtain ⟨t, rfl⟩ := rx
  obtain ⟨t', rfl⟩ := ry
  exact rule i j t t' s _ _ ⟨.bl (g i j), H, I, rfl, q⟩
def CDiv (i j : Int) : Prop := 0 < j ∧ j < 1073741824
def CMul (i j : Int) : Prop := (-(2 ^ 64) < i ∧ i < 2 ^ 64) ∨ (-(2 ^ 64) < j ∧ j < 2 ^ 64)
theorem CMul.ok {i j : Int} (h : CMul i j) : IntMulOk i j := by
  rcases h with ⟨h1, h2⟩ | ⟨h1, h2⟩
  · exact .of_left (intBits_le_64 h1 h2)
  · exact .of_right (intBits_le_64 h1 h2)
theorem op_add : OpR X (binaryOp .Add) (rI0 fun i j => .int (i + j)) := opI0 fun _ _ _ _ _ _ _ q => add_int q
theorem op_sub : OpR X (binaryOp .Sub) (rI0 fun i j => .int (i - j)) := opI0 fun _ _ _ _ _ _ _ q => sub_int q
theorem op_mul : OpR X (binaryOp .Mult) (rI CMul fun i j => .int (i * j)) := opI fun _ _ _ _ _ _ _ hc q => mul_int q hc.ok
theorem op_fdiv : OpR X (binaryOp .FloorDiv) (rI CDiv fun i j => .int (i / j)) := opI fun i j _ _ _ _ _ hc q => by
  have h1 : (0 : Int) < j := hc.1
  have h2 : j < 1073741824 := hc.2
  exact floordiv_int (by omega) (by rw [Int.fdiv_eq_ediv_of_nonneg i (by omega)]; exact q) (.inl (PyProof.noPylong_small (by omega)))
theorem unI {f : Value → Sem Value} {g : Int → Int}
    (rule : ∀ (i : Int) (t : Tok) (s : Shared) (Q : Value → Shared → Prop) (E : Value → Shared → Prop), Q (.int (g i) s.toks) { s with toks := s.toks + 1 } → wpAny (model X.prog X.w) X.A (f (.int i t)) Q E s) :
    UnR X f (rU fun i => .int (g i)) := by
  intro pins s σ H x v Q I rx h
  obtain ⟨i, rfl, q⟩ := h
  obtain ⟨t, rfl⟩ := rx
  exact rule i t s _ _ ⟨.int (g i), H, I.tok _, ⟨_, rfl⟩, q⟩
theorem un_neg : UnR X (unaryOp .USub) (rU fun i => .int (-i)) := unI fun _ _ _ _ _ q => neg_int q
end
def scal : V → V → Bool
  | .non, .non => true | .non, .int _ => true | .int _, .non => true | .non, .bl _ => true | .bl _, .non => true | .non, .str _ => true | .str _, .non => true
  | .int _, .int _ => true | .bl _, .bl _ => true | .str _, .str _ => true | .byt _, .byt _ => true
  | .int _, .str _ => true | .str _, .int _ => true | .bl _, .str _ => true | .str _, .bl _ => true
  | _, _ => false
def rEq : R2 := fun x y H Q => scal x y = true ∧ Q (.bl (decide (x = y))) H
def rNe : R2 := fun x y H Q => scal x y = true ∧ Q (.bl (!decide (x = y))) H
theorem dec_int {i j : Int} : decide (V.int i = V.int j) = (i == j) := by
  rw [Bool.eq_iff_iff]
  simp
theorem dec_bl {i j : Bool} : decide (V.bl i = V.bl j) = (i == j) := by
  rw [Bool.eq_iff_iff]
  simp
theorem dec_str {i j : Str} : decide (V.str i = V.str j) = (i == j) := by
  rw [Bool.eq_iff_iff]
  simp
theorem dec_byt {i j : Array UInt8} : decide (V.byt i = V.byt j) = (i.toList == j.toList) := by
  rw [Bool.eq_iff_iff]
  cases i
  cases j
  simp
section
variable {X : Cx} {a b c : Expr} {ta tb tc : TE} {pos : Pos}
theorem fin_bl {pins : List (Addr × Obj)} {σ : St} {H : Hp} {s : Shared} {Q : VK} {k k' : Bool} (I : Inv X pins σ H s) (q : Q (.bl k) H) (e : k = k') : EP X pins σ Q (.bool k') s := by
  subst e
  exact ⟨.bl k, H, I, rfl, q⟩
theorem op_eq : OpR X (compareOp .Eq) rEq := by
  intro pins s σ H x y v u Q I rx ry h
  obtain ⟨hs, q⟩ := h
  cases x with
  | non =>
    cases rx
    cases y with
    | non => cases ry; exact PySem.EqNone.eq_none_none (fin_bl I q (by simp))
    | bl j => cases ry; exact PySem.EqNone.eq_none_bool (fin_bl I q (by simp))
    | int j => obtain ⟨t', rfl⟩ := ry; exact PySem.EqNone.eq_none_int (fin_bl I q (by simp))
    | str j => obtain ⟨t', rfl⟩ := ry; exact PySem.EqNone.eq_none_str (fin_bl I q (by simp))
    | _ => exact absurd (show false = true from hs) Bool.false_ne_true
  | bl i =>
    cases rx
    cases y with
    | non => cases ry; exact PySem.EqNone.eq_bool_none (fin_bl I q (by simp))
    | bl j => cases ry; exact eq_bool (fin_bl I q dec_bl)
    | str j => obtain ⟨t', rfl⟩ := ry; exact PySem.EqMixed.eq_bool_str (fin_bl I q (by simp))
    | _ => exact absurd (show false = true from hs) Bool.false_ne_true
  | int i =>
    obtain ⟨t, rfl⟩ := rx
    cases y with
    | non => cases ry; exact PySem.EqNone.eq_int_none (fin_bl I q (by simp))
    | int j => obtain ⟨t', rfl⟩ := ry; exact eq_int (fin_bl I q dec_int)
    | str j => obtain ⟨t', rfl⟩ := ry; exact PySem.EqMixed.eq_int_str (fin_bl I q (by simp))
    | _ => exact absurd (show false = true from hs) Bool.false_ne_true
  | str i =>
    obtain ⟨t, rfl⟩ := rx
    cases y with
    | non => cases ry; exact PySem.EqNone.eq_str_none (fin_bl I q (by simp))
    | bl j => cases ry; exact PySem.EqMixed.eq_str_bool (fin_bl I q (by simp))
    | int j => obtain ⟨t', rfl⟩ := ry; exact PySem.EqMixed.eq_str_int (fin_bl I q (by simp))
    | str j => obtain ⟨t', rfl⟩ := ry; exact eq_str (fin_bl I q dec_str)
    | _ => exact absurd (show false = true from hs) Bool.false_ne_true
  | byt i =>
    obtain ⟨t, rfl⟩ := rx
    cases y with
    | byt j => obtain ⟨t', rfl⟩ := ry; exact PySem.W.eq_bytes (fin_bl I q dec_byt)
    | _ => exact absurd (show false = true from hs) Bool.false_ne_true
  | _ => cases y <;> exact absurd (show false = true from hs) Bool.false_ne_true
theorem op_ne : OpR X (compareOp .NotEq) rNe := by
  intro pins s σ H x y v u Q I rx ry h
  obtain ⟨hs, q⟩ := h
  cases x with
  | non =>
    cases rx
    cases y with
    | non => cases ry; exact PySem.EqNone.ne_none_none (fin_bl I q (by simp))
    | bl j => cases ry; exact PySem.EqNone.ne_none_bool (fin_bl I q (by simp))
    | int j => obtain ⟨t', rfl⟩ := ry; exact PySem.EqNone.ne_none_int (fin_bl I q (by simp))
    | str j => obtain ⟨t', rfl⟩ := ry; exact PySem.EqNone.ne_none_str (fin_bl I q (by simp))
    | _ => exact absurd (show false = true from hs) Bool.false_ne_true
  | bl i =>
    cases rx
    cases y with
    | non => cases ry; exact PySem.EqNone.ne_bool_none (fin_bl I q (by simp))
    | bl j => cases ry; exact ne_bool (fin_bl I q (congrArg not dec_bl))
    | str j => obtain ⟨t', rfl⟩ := ry; exact PySem.EqMixed.ne_bool_str (fin_bl I q (by simp))
    | _ => exact absurd (show false = true from hs) Bool.false_ne_true
  | int i =>
    obtain ⟨t, rfl⟩ := rx
    cases y with
    | non => cases ry; exact PySem.EqNone.ne_int_none (fin_bl I q (by simp))
    | int j => obtain ⟨t', rfl⟩ := ry; exact ne_int (fin_bl I q (congrArg not dec_int))
    | str j => obtain ⟨t', rfl⟩ := ry; exact PySem.EqMixed.ne_int_str (fin_bl I q (by simp))
    | _ => exact absurd (show false = true from hs) Bool.false_ne_true
  | str i =>
    obtain ⟨t, rfl⟩ := rx
    cases y with
    | non => cases ry; exact PySem.EqNone.ne_str_none (fin_bl I q (by simp))
    | bl j => cases ry; exact PySem.EqMixed.ne_str_bool (fin_bl I q (by simp))
    | int j => obtain ⟨t', rfl⟩ := ry; exact PySem.EqMixed.ne_str_int (fin_bl I q (by simp))
    | str j => obtain ⟨t', rfl⟩ := ry; exact ne_str (fin_bl I q (congrArg not dec_str))
    | _ => exact absurd (show false = true from hs) Bool.false_ne_true
  | byt i =>
    obtain ⟨t, rfl⟩ := rx
    cases y with
    | byt j => obtain ⟨t', rfl⟩ := ry; exact PySem.W.ne_bytes (fin_bl I q (congrArg not dec_byt))
    | _ => exact absurd (show false = true from hs) Bool.false_ne_true
  | _ => cases y <;> exact absurd (show false = true from hs) Bool.false_ne_true
theorem op_lt : OpR X (compareOp .Lt) (rI0 fun i j => .bl (decide (i < j))) := opB0 fun _ _ _ _ _ _ _ q => lt_int q
theorem op_le : OpR X (compareOp .LtE) (rI0 fun i j => .bl (decide (i ≤ j))) := opB0 fun _ _ _ _ _ _ _ q => le_int q
theorem op_gt : OpR X (compareOp .Gt) (rI0 fun i j => .bl (decide (j < i))) := opB0 fun _ _ _ _ _ _ _ q => gt_int q
theorem op_ge : OpR X (compareOp .GtE) (rI0 fun i j => .bl (decide (j ≤ i))) := opB0 fun _ _ _ _ _ _ _ q => ge_int q
theorem nomark (b : Expr) {op : CmpOp} (h : op ≠ .In := by decide) (h2 : op ≠ .NotIn := by decide) : behindInMarks op b = false := by
  have e1 : (op == CmpOp.In) = false := by cases op <;> first | rfl | exact absurd rfl h
  have e2 : (op == CmpOp.NotIn) = false := by cases op <;> first | rfl | exact absurd rfl h2
  cases b <;> simp [behindInMarks, e1, e2]
theorem pe_cmpR {op : CmpOp} {r : R2} (ho : OpR X (compareOp op) r) (ha : PE X a ta) (hb : PE X b tb) (hm : behindInMarks op b = false) : PE X (.Compare a [op] [b] pos) (tOp r ta tb) := by
  intro pins s σ H Q I h
  exact wpAny_Compare1 (binT ha hb I h fun v u s2 x y H2 I2 rx ry q => ho pins s2 σ H2 x y v u Q I2 rx ry q) hm
def tTest (t : TE) : TT := fun σ H Q => t σ H fun x H' => ∃ k, x = .bl k ∧ Q k H'
theorem pt_cmpR {op : CmpOp} {r : R2} (ho : OpR X (compareOp op) r) (ha : PE X a ta) (hb : PE X b tb) (hm : behindInMarks op b = false) : PT X (.Compare a [op] [b] pos) (tTest (tOp r ta tb)) := by
  intro pins s σ H Q I h
  refine wpAny_isTrue_Compare1 (thn (ha pins s σ H _ I h) fun v s1 ⟨x, H1, I1, r1, q1⟩ => thn (hb pins s1 σ H1 _ I1 q1) fun u s2 ⟨y, H2, I2, r2, q2⟩ =>
    thn (ho pins s2 σ H2 x y v u _ I2 r1 r2 q2) fun c s3 ⟨z, H3, I3, r3, k, e, q3⟩ => ?_) hm
  subst e
  cases r3
  exact wpAny_truthy_bool ⟨H3, I3, q3⟩
theorem line63 : (sizeLine : Nat) < 2 ^ 63 := by rw [sizeLine_eq]; decide
theorem vals1 {x : V} {us : List Value} (r : Vals [x] us) : ∃ u, us = [u] ∧ RelV x u := by
  cases r with
  | cons r1 r2 => cases r2; exact ⟨_, rfl, r1⟩
theorem vals2 {x y : V} {us : List Value} (r : Vals [x, y] us) : ∃ u w', us = [u, w'] ∧ RelV x u ∧ RelV y w' := by
  cases r with
  | cons r1 r2 =>
    cases r2 with
    | cons r3 r4 => cases r4; exact ⟨_, _, rfl, r1, r3⟩
theorem call_max2 (hc : X.calm = true) : CallR X (.builtin "max") (fun xs H Q => ∃ i j, xs = [.int i, .int j] ∧ Q (.int (if j > i then j else i)) H) := by
  intro pins s σ H xs us Q I r h
  obtain ⟨i, j, rfl, q⟩ := h
  obtain ⟨u, w', rfl, ⟨t, rfl⟩, ⟨t', rfl⟩⟩ := vals2 r
  refine max_two_ints (I.ok.hd hc) fun h' tk k => ⟨_, H, I.kept k, ?_, q⟩
  by_cases hj : j > i
  · rw [if_pos hj, if_pos hj]; exact ⟨_, rfl⟩
  · rw [if_neg hj, if_neg hj]; exact ⟨_, rfl⟩
end
end L2
namespace L2
open PySem PySem.Spec PyProof.Rows
structure ObjM (h : Heap) (x dx C : Addr) (mA : Str → Option Value) : Prop where
  obj : h.get? x = some (PySem.W.instObj C dx)
  ns : h.Ns1 dx mA
  ne : dx ≠ x
theorem lookIn_ns {h : Heap} {dx : Addr} {mA : Str → Option Value} (n : h.Ns1 dx mA) : ∃ od, h.get? dx = some od ∧ ∀ name, PySem.W.lookIn name od = some (mA name) := by
  obtain ⟨o, es, ep, ho, hd, hk, _, hm⟩ := n
  refine ⟨o, ho, fun name => ?_⟩
  have e := hm name
  unfold nsFind findBy at e
  rw [← Array.find?_toList] at e
  unfold PySem.W.lookIn
  rw [hd]
  dsimp only
  split
  · rename_i y q
    rw [q] at e
    exact congrArg some e
  · rename_i q
    rw [q] at e
    have a : es.toList.any (·.refKey) = false := by
      rw [List.any_eq_false]
      intro y hy
      obtain ⟨z, t, hkey⟩ := hk y (Array.mem_toList_iff.mp hy)
      simp [DictEntry.refKey, hkey]
    have a' : ¬ es.toList.any (·.refKey) = true := by rw [a]; exact Bool.false_ne_true
    rw [if_neg a']
    exact congrArg some e
theorem ObjM.look {h : Heap} {x dx C : Addr} {mA : Str → Option Value} (I : ObjM h x dx C mA) : ∃ od, PySem.W.InstAt h x (PySem.W.instObj C dx) C (some od) ∧ ∀ name, PySem.W.lookIn name od = some (mA name) :=
  let ⟨od, ho, hl⟩ := lookIn_ns I.ns
  ⟨od, ⟨I.obj, rfl, rfl, ho⟩, hl⟩
section
variable {prog : Program} {w : World} {A : Around} {E : Value → Shared → Prop} {s : Shared} {K : PySem.W.Frag} {x dx C f : Addr} {mA : Str → Option Value} {name : Str} {v : Value}
theorem get_map {expr : Bool} {Q : Value → Shared → Prop} (X : K.In s.heap) (I : ObjM s.heap x dx C mA) (hg : PySem.W.plainGet K C name = true) (hh : PySem.W.hasDictIn K C = true)
    (ha : PySem.W.findIn K (.ref C) name = some none) (hv : mA name = some v) (hv' : PySem.W.handedIn v = true) (h : Q v { s with toks := s.toks + 1 }) :
    wpAny (model prog w) A (getAttr (.ref x) name expr) Q E s := by
  obtain ⟨od, J, hl⟩ := I.look
  exact PySem.W.get_value X J (PySem.W.plainGet_of hg).1 (PySem.W.findObj_own hh ha rfl (by rw [hl, hv])) hv' h
theorem get_meth {pl : Sem Bool} {Q : Value × List Value → Shared → Prop} (X : K.In s.heap) (I : ObjM s.heap x dx C mA) (hg : PySem.W.plainGet K C name = true)
    (hf : PySem.W.findIn K (.ref C) name = some (some (.ref f))) (ht : PySem.W.isFn K (.ref f) = true) (hv : mA name = none) (h : Q (.ref f, [.ref x]) s) :
    wpAny (model prog w) A (getMethod (.ref x) name pl) Q E s := by
  obtain ⟨od, J, hl⟩ := I.look
  exact PySem.W.method_fn X J (PySem.W.plainGet_of hg).1 (PySem.W.plainGet_of hg).2 hf (beq_iff_eq.mp ht) (by show (PySem.W.lookIn name od).map (·.isSome) = some false; rw [hl, hv]; rfl) h
theorem set_map {ns : List Str} {Q : Unit → Shared → Prop} (X : K.In s.heap) (I : ObjM s.heap x dx C mA)
    (hs : PySem.W.findIn K (.ref C) "__setattr__" = some (some (.builtin "object.__setattr__"))) (hp : PySem.W.plainOver K C = true) (ht : PySem.W.takerIn K C name = some none) (hh : PySem.W.hasDictIn K C = true)
    (hw : PySem.Within mA ns) (hsz : ns.length ≤ sizeLine)
    (h : ∀ h', ObjM h' x dx C (fun y => if y = name then some v else mA y) → Heap.SameBut dx s.heap h' → Q () { s with heap := h', toks := s.toks + 2 }) :
    wpAny (model prog w) A (setAttr (.ref x) name v) Q E s := by
  obtain ⟨od, J, hl⟩ := I.look
  refine PySem.W.set_plain X J hs (PySem.W.osa_open (s := { s with toks := s.toks + 1 }) (r := none) X J hp ht fun b => ?_)
  obtain ⟨cd, hc, hd'⟩ := PySem.W.any_some hh
  have hx : s.heap.get? x = some ⟨.ref C, some dx, .plain, #[]⟩ := I.obj
  refine wpAny_bind (wpAny_pure (wpAny_bind (wpAny_bind (wpAny_loadPart hx (wpAny_bind (PySem.W.Looks.here (s := { s with toks := s.toks + 1 }) (PySem.W.looks_clsIn X hc) ?_))))))
  rw [hd']
  refine wpAny_pure (a := some dx) (wpAny_bind (wpAny_pure (wpAny_bind ?_)))
  refine wpAny_nsSet1 (s := { s with toks := s.toks + 1 }) I.ns fun h' hn2 hs2 => ?_
  obtain ⟨oD, esD, epD, hoD, hdD, hcD⟩ := hn2.count (PySem.Within.cons name v hw)
  refine wpAny_bind (wpAny_lookBehind hoD (by rw [hdD]; exact pastItsLine_dict (Nat.le_trans hcD (by rw [List.length_cons]; omega))) ?_)
  exact wpAny_pure (h _ ⟨(hs2.2 _ (Ne.symm I.ne)).trans I.obj, hn2, I.ne⟩ hs2)
theorem make_map {R : Result → Shared → Prop} {vs : List Value} {kw : List (Str × Value)} (X : K.In s.heap) (hm : PySem.W.makesIn K C = true)
    (hi : PySem.W.findIn K (.ref C) "__init__" = some (some (.ref f))) (hf : PySem.W.typeIn K (.ref f) = some (.type "function"))
    (h : codeAny (model prog w) (A.under (.builtin "type.__call__" ⟨.ref C :: vs, kw⟩)) (.call (.ref f) ⟨.ref (s.heap.objs.size + 1) :: vs, kw⟩) (PySem.W.InitBack (s.heap.objs.size + 1) R)
      { s with heap := (s.heap.push PySem.W.emptyDict).push (PySem.W.instObj C s.heap.objs.size) }) :
    codeAny (model prog w) A (.call (.ref C) ⟨vs, kw⟩) R s := by
  obtain ⟨hh, g, d, t, os⟩ := s
  exact PySem.W.make_core (PySem.W.makes_of X hm) (PySem.W.looks_findIn X hi) (fun self => PySem.W.bind_fn X self hf) (.inl rfl) h
end
def putF (f : Str) (v : V) : List (Str × V) → List (Str × V)
  | [] => [(f, v)]
  | (g, x) :: r => if g = f then (g, v) :: r else (g, x) :: putF f v r
theorem lookup_putF (f g : Str) (v : V) : ∀ fs : List (Str × V), (putF f v fs).lookup g = if g = f then some v else fs.lookup g
  | [] => by
    show List.lookup g [(f, v)] = _
    by_cases h : g = f
    · have hb : (g == f) = true := beq_iff_eq.mpr h
      simp only [List.lookup, hb, if_pos h]
    · have hb : (g == f) = false := beq_eq_false_iff_ne.mpr h
      simp only [List.lookup, hb, if_neg h]
  | (k, x) :: r => by
    have ih := lookup_putF f g v r
    rw [show putF f v ((k, x) :: r) = (if k = f then (k, v) :: r else (k, x) :: putF f v r) from rfl]
    by_cases hk : k = f
    · rw [if_pos hk]
      by_cases h : g = k
      · have hb : (g == k) = true := beq_iff_eq.mpr h
        simp only [List.lookup, hb, if_pos (h.trans hk)]
      · have hb : (g == k) = false := beq_eq_false_iff_ne.mpr h
        simp only [List.lookup, hb, if_neg (fun e : g = f => h (e.trans hk.symm))]
    · rw [if_neg hk]
      by_cases h : g = k
      · have hb : (g == k) = true := beq_iff_eq.mpr h
        simp only [List.lookup, hb, if_neg (fun e : g = f => hk (h.symm.trans e))]
      · have hb : (g == k) = false := beq_eq_false_iff_ne.mpr h
        simp only [List.lookup, hb]
        exact ih
theorem keys_putF (f : Str) (v : V) : ∀ fs : List (Str × V), f ∈ (putF f v fs).map (·.1) ∧ ∀ g, g ∈ fs.map (·.1) → g ∈ (putF f v fs).map (·.1)
  | [] => ⟨by simp [putF], fun g h => by simp at h⟩
  | (k, x) :: r => by
    obtain ⟨i1, i2⟩ := keys_putF f v r
    rw [show putF f v ((k, x) :: r) = (if k = f then (k, v) :: r else (k, x) :: putF f v r) from rfl]
    by_cases hk : k = f
    · rw [if_pos hk]
      subst hk
      exact ⟨by simp, fun g h => by simpa using h⟩
    · rw [if_neg hk]
      refine ⟨?_, fun g h => ?_⟩
      · rw [List.map_cons]
        exact List.mem_cons_of_mem _ i1
      · rw [List.map_cons] at h ⊢
        rcases List.mem_cons.mp h with e | e
        · exact List.mem_cons.mpr (.inl e)
        · exact List.mem_cons_of_mem _ (i2 g e)
theorem length_putF (f : Str) (v : V) : ∀ fs : List (Str × V), (putF f v fs).length ≤ fs.length + 1
  | [] => by simp [putF]
  | (k, x) :: r => by
    have ih := length_putF f v r
    rw [show putF f v ((k, x) :: r) = (if k = f then (k, v) :: r else (k, x) :: putF f v r) from rfl]
    by_cases hk : k = f
    · rw [if_pos hk, List.length_cons, List.length_cons]; omega
    · rw [if_neg hk, List.length_cons, List.length_cons]; omega
theorem RelO.some_of {v : V} {o : Option Value} (r : RelO (some v) o) : ∃ u, o = some u ∧ RelV v u := by
  cases o with
  | none => exact (show False from r).elim
  | some u => exact ⟨u, rfl, r⟩
theorem RelO.none_of {o : Option Value} (r : RelO none o) : o = none := by
  cases o with
  | none => rfl
  | some u => exact (show False from r).elim
theorem handed_of {v : V} {u : Value} (r : RelV v u) : PySem.W.handedIn u = true := by
  cases v with
  | non => cases (show u = Value.none from r); rfl
  | bl b => cases (show u = Value.bool b from r); rfl
  | int i => obtain ⟨t, e⟩ := (show ∃ t, u = Value.int i t from r); cases e; rfl
  | str x => obtain ⟨t, e⟩ := (show ∃ t, u = Value.str x t from r); cases e; rfl
  | byt b => obtain ⟨t, e⟩ := (show ∃ t, u = Value.bytes b t from r); cases e; rfl
  | flt b => obtain ⟨t, e⟩ := (show ∃ t, u = Value.float b t from r); cases e; rfl
  | ref a => cases (show u = Value.ref a from r); rfl
  | ty n => cases (show u = Value.type n from r); rfl
section
variable {P : Program} {w : World} {H H' : Hp} {h h' : Heap} {a C dx : Addr} {fs fs' : List (Str × V)}
theorem ins_get (hok : HOk P w H h) (e : H a = some (.ins C dx fs)) : ∃ mA, ObjM h a dx C mA ∧ (∀ f, RelO (fs.lookup f) (mA f)) ∧ PySem.Within mA (fs.map (·.1)) ∧ fs.length ≤ 1000 ∧ H dx = some (.own a) := by
  obtain ⟨d, z, ne, ob, mA, n, r, q⟩ := (show ObjOk P w H h a (.ins C dx fs) from hok a _ e)
  exact ⟨mA, ⟨ob, n, ne⟩, r, q, z, d⟩
end
structure Cls (K : PySem.W.Frag) (C : Addr) : Prop where
  pg : PySem.W.plainGet K C Str.empty = true
  hd : PySem.W.hasDictIn K C = true
  po : PySem.W.plainOver K C = true
  sa : PySem.W.findIn K (.ref C) "__setattr__" = some (some (.builtin "object.__setattr__"))
theorem Cls.get {K : PySem.W.Frag} {C : Addr} (c : Cls K C) (f : Str) : PySem.W.plainGet K C f = true := c.pg
def NoAttr (K : PySem.W.Frag) (C : Addr) (f : Str) : Prop := PySem.W.findIn K (.ref C) f = some none
theorem NoAttr.taker {K : PySem.W.Frag} {C : Addr} {f : Str} (n : NoAttr K C f) : PySem.W.takerIn K C f = some none := by
  unfold PySem.W.takerIn
  rw [show PySem.W.findIn K (.ref C) f = some none from n]
  rfl
structure Meth (K : PySem.W.Frag) (C : Addr) (m : Str) (f : Addr) : Prop where
  at_ : PySem.W.findIn K (.ref C) m = some (some (.ref f))
  fn : PySem.W.isFn K (.ref f) = true
  kp : PySem.W.keepIn K (.ref f) = true
section
variable {X : Cx} {pins : List (Addr × Obj)} {σ : St} {H : Hp} {s : Shared} {a C dx : Addr} {fs : List (Str × V)} {f : Str} {v : V} {A : Around} {E : Value → Shared → Prop}
theorem getattr_ok {b : Bool} {Q : Value → Shared → Prop} (I : Inv X pins σ H s) (e : H a = some (.ins C dx fs)) (c : Cls X.K C) (n : NoAttr X.K C f) (l : fs.lookup f = some v)
    (h : ∀ u s', Inv X pins σ H s' → RelV v u → Q u s') : wpAny (model X.prog X.w) A (getAttr (.ref a) f b) Q E s := by
  obtain ⟨mA, O, r, _, _, _⟩ := ins_get I.hok e
  obtain ⟨u, hu, ru⟩ := RelO.some_of (v := v) (o := mA f) (by rw [← l]; exact r f)
  exact get_map I.kIn O (c.get f) c.hd n hu (handed_of ru) (h u _ (I.tok _) ru)
theorem getmeth_ok {m : Str} {g : Addr} {pl : Sem Bool} {Q : Value × List Value → Shared → Prop} (I : Inv X pins σ H s) (e : H a = some (.ins C dx fs)) (c : Cls X.K C) (k : Meth X.K C m g) (l : fs.lookup m = none)
    (h : Q (.ref g, [.ref a]) s) : wpAny (model X.prog X.w) A (getMethod (.ref a) m pl) Q E s := by
  obtain ⟨mA, O, r, _, _, _⟩ := ins_get I.hok e
  have hn : mA m = none := RelO.none_of (by rw [← l]; exact r m)
  exact get_meth I.kIn O (c.get m) k.at_ k.fn hn h
theorem setattr_ok {y : V} {u : Value} {Q : Unit → Shared → Prop} (I : Inv X pins σ H s) (e : H a = some (.ins C dx fs)) (c : Cls X.K C) (n : NoAttr X.K C f) (hl : fs.length < 1000) (ry : RelV y u)
    (h : ∀ s', Inv X pins σ (upd H a (.ins C dx (putF f y fs))) s' → Q () s') : wpAny (model X.prog X.w) A (setAttr (.ref a) f u) Q E s := by
  obtain ⟨mA, O, r, wi, _, ho⟩ := ins_get I.hok e
  have hz : (fs.map (·.1)).length ≤ sizeLine := by rw [List.length_map, sizeLine_eq]; omega
  refine set_map I.kIn O c.sa c.po n.taker c.hd wi hz fun h' O' sb => h _ ?_
  have hd : ∃ o, h'.get? dx = some o := let ⟨o, _, _, e', _⟩ := O'.ns; ⟨o, e'⟩
  refine I.write (x := a) (e := dx) (by rw [e]; exact True.intro) (.inr ho) (fun b q hb z => (sb.2 b hb).trans z) hd ?_
  refine ⟨by rw [upd_ne O.ne]; exact ho, ?_, O.ne, O'.obj, _, O'.ns, fun g => ?_, fun g hg => ?_⟩
  · have := length_putF f y fs; omega
  · show RelO ((putF f y fs).lookup g) (if g = f then some u else mA g)
    rw [lookup_putF]
    by_cases q : g = f
    · rw [if_pos q, if_pos q]; exact ry
    · rw [if_neg q, if_neg q]; exact r g
  · by_cases q : g = f
    · rw [q]; exact (keys_putF f y fs).1
    · refine (keys_putF f y fs).2 g (wi g fun z => hg ?_)
      show (if g = f then some u else mA g) = none
      rw [if_neg q]; exact z
theorem Inv.made (I : Inv X pins σ H s) : Inv X pins σ (upd (upd H s.heap.objs.size (.own (s.heap.objs.size + 1))) (s.heap.objs.size + 1) (.ins C s.heap.objs.size []))
    { s with heap := (s.heap.push PySem.W.emptyDict).push (PySem.W.instObj C s.heap.objs.size) } := by
  have e1 : (s.heap.push PySem.W.emptyDict).get? s.heap.objs.size = some PySem.W.emptyDict := Heap.get?_push_size s.heap rfl
  have e2 : ((s.heap.push PySem.W.emptyDict).push (PySem.W.instObj C s.heap.objs.size)).get? (s.heap.objs.size + 1) = some (PySem.W.instObj C s.heap.objs.size) := by
    have := Heap.get?_push_size (s.heap.push PySem.W.emptyDict) (o := PySem.W.instObj C s.heap.objs.size) rfl
    rwa [Heap.size_push] at this
  have e3 : (s.heap.push PySem.W.emptyDict).Ns s.heap.objs.size (fun _ => none) := ⟨PySem.W.emptyDict, #[], _, e1, rfl, (fun e he => absurd he (by simp)), fun _ => rfl⟩
  have I1 := I.laid (a := s.heap.objs.size) (o := .own (s.heap.objs.size + 1)) (h' := s.heap.push PySem.W.emptyDict) (t' := s.toks) (fun b u q => Heap.get?_push_of_some _ q) (Nat.le_refl _) ⟨_, e1⟩
  refine I1.laid (a := s.heap.objs.size + 1) (o := .ins C s.heap.objs.size []) (t' := s.toks) (fun b u q => Heap.get?_push_of_some _ q) (Nat.le_of_eq (Heap.size_push _ _)) ?_
  have ne : s.heap.objs.size ≠ s.heap.objs.size + 1 := Nat.ne_of_lt (Nat.lt_succ_self _)
  refine ⟨by rw [upd_ne ne, upd_same], Nat.zero_le _, ne, e2, fun _ => none, (Heap.Ns1.of_empty e3).at fun o q => Heap.get?_push_of_some _ q, fun _ => True.intro, fun y hy => absurd rfl hy⟩
theorem attr_of {prog : Program} {w : World} {env : Env} {e : Expr} {f : Str} {pos : Pos} {s : Shared} {Q : Value → Shared → Prop} (hb : attributeBase e f env (eval e env) = eval e env)
    (h : wpAny (model prog w) A (eval e env) (fun o s₁ => wpAny (model prog w) A (getAttr o f true) Q E s₁) E s) : wpAny (model prog w) A (eval (.Attribute e f pos) env) Q E s :=
  Attribute_any_ h (by rw [arm_eval_Attribute, hb])
end
def tFld (K : PySem.W.Frag) (ta : TE) (f : Str) : TE := fun σ H Q => ta σ H fun x H1 => ∃ a C dx fs v, x = .ref a ∧ H1 a = some (.ins C dx fs) ∧ Cls K C ∧ NoAttr K C f ∧ fs.lookup f = some v ∧ Q v H1
def sFld (K : PySem.W.Frag) (ta tv : TE) (f : Str) : TS := fun D σ H => tv σ H fun y H1 => ta σ H1 fun x H2 => ∃ a C dx fs, x = .ref a ∧ H2 a = some (.ins C dx fs) ∧ Cls K C ∧ NoAttr K C f ∧ fs.length < 1000 ∧
  D.nx σ (upd H2 a (.ins C dx (putF f y fs)))
def InOp (X : Cx) (op : Operator) (rd : V → V → Hp → VK → Prop) : Prop :=
  ∀ (pins : List (Addr × Obj)) (s : Shared) (σ : St) (H : Hp) (x y : V) (u v : Value) (Q : VK), Inv X pins σ H s → RelV x u → RelV y v → rd x y H Q → wpAny (model X.prog X.w) X.A (inplaceOp op u v) (EP X pins σ Q) X.xe s
def sFldAug (K : PySem.W.Frag) (ta tv : TE) (rd : V → V → Hp → VK → Prop) (f : Str) : TS := fun D σ H => ta σ H fun x H1 => ∃ a C dx fs v, x = .ref a ∧ H1 a = some (.ins C dx fs) ∧ Cls K C ∧ NoAttr K C f ∧ fs.lookup f = some v ∧
  tv σ H1 fun y H2 => rd v y H2 fun z H3 => ∃ dx' fs', H3 a = some (.ins C dx' fs') ∧ fs'.length < 1000 ∧ D.nx σ (upd H3 a (.ins C dx' (putF f z fs')))
section
variable {X : Cx} {o e value : Expr} {f : Str} {pos pos' tpos : Pos} {ta tv : TE}
theorem pe_fld (he : PE X e ta) (hb : attributeBase e f X.env (eval e X.env) = eval e X.env) : PE X (.Attribute e f pos) (tFld X.K ta f) := by
  intro pins s σ H Q I h
  refine attr_of hb (thn (he pins s σ H _ I h) fun u s1 zz => ?_)
  obtain ⟨x, H1, I1, rx, a, C, dx, fs, v, ex, ea, c, n, l, q⟩ := zz
  subst ex
  obtain rfl : u = Value.ref a := rx
  exact getattr_ok I1 ea c n l fun u' s2 I2 ru => ⟨v, H1, I2, ru, q⟩
theorem ps_fld (ha : PE X o ta) (hv : PE X value tv) (hs : swapsWith value (some (.Attribute o f pos')) pos.line X.env = pure false) : PS X (.Assign [.Attribute o f pos'] value pos) (sFld X.K ta tv f) := by
  intro pins s σ H D I h
  refine plainObj_wpAny_Assign_Attribute (thn (hv pins s σ H _ I h) fun u s1 ⟨y, H1, I1, ry, q⟩ => thn (ha pins s1 σ H1 _ I1 q) fun ov s2 ⟨x, H2, I2, rx, a, C, dx, fs, ex, ea, c, n, l, q2⟩ => ?_) hs
  subst ex
  obtain rfl : ov = Value.ref a := rx
  exact setattr_ok I2 ea c n l ry fun s3 I3 => ⟨σ, _, I3, q2⟩
theorem ps_fldaug {op : Operator} {rd : V → V → Hp → VK → Prop} (ha : PE X o ta) (hv : PE X value tv) (hop : InOp X op rd) : PS X (.AugAssign (.Attribute o f tpos) op value pos) (sFldAug X.K ta tv rd f) := by
  intro pins s σ H D I h
  refine wpAny_AugAssign_AttributeAny (thn (ha pins s σ H _ I h) fun ov s1 zz => ?_)
  obtain ⟨x, H1, I1, rx, a, C, dx, fs, v, ex, ea, c, n, l, q⟩ := zz
  subst ex
  obtain rfl : ov = Value.ref a := rx
  refine getattr_ok I1 ea c n l fun u s2 I2 ru => thn (hv pins s2 σ H1 _ I2 q) fun w3 s3 ⟨y, H2, I3, ry, q3⟩ => thn (hop pins s3 σ H2 v y u w3 _ I3 ru ry q3) fun w4 s4 zz => ?_
  obtain ⟨z, H3, I4, rz, dx', fs', ea', l', q4⟩ := zz
  exact setattr_ok I4 ea' c n l' rz fun s5 I5 => ⟨σ, _, I5, q4⟩
def rAdd : V → V → Hp → VK → Prop := fun x y H Q => ∃ i j, x = .int i ∧ y = .int j ∧ Q (.int (i + j)) H
theorem in_add : InOp X .Add rAdd := by
  rintro pins s σ H x y u v Q I rx ry ⟨i, j, rfl, rfl, q⟩
  obtain ⟨t, rfl⟩ := (show ∃ t, u = Value.int i t from rx)
  obtain ⟨t', rfl⟩ := (show ∃ t', v = Value.int j t' from ry)
  exact PyProof.Rows.iadd_int ⟨.int (i + j), H, I.tok _, ⟨_, rfl⟩, q⟩
end
section
variable {X : Cx} {pins : List (Addr × Obj)} {σ : St} {H : Hp} {s : Shared} {A : Around} {E : Value → Shared → Prop} {Q : Value → Shared → Prop} {c : Value} {b : Bool}
inductive TyOf (K : PySem.W.Frag) (H : Hp) : V → Value → Prop where
  | non : TyOf K H .non (.type "NoneType")
  | bl (x : Bool) : TyOf K H (.bl x) (.type "bool")
  | int (i : Int) : TyOf K H (.int i) (.type "int")
  | str (x : Str) : TyOf K H (.str x) (.type "str")
  | flt (x : UInt64) : TyOf K H (.flt x) (.type "float")
  | lst {a : Addr} {xs : List V} (e : H a = some (.lst xs)) : TyOf K H (.ref a) (.type "list")
  | frz {a : Addr} {o : Obj} {xs : List V} (e : H a = some (.frz o (.lst xs))) : TyOf K H (.ref a) (.type "list")
  | tup {a : Addr} {xs : List V} (e : H a = some (.tup xs)) : TyOf K H (.ref a) (.type "tuple")
  | dK {a : Addr} {kvs : List (Key × V)} (e : H a = some (.dK kvs)) : TyOf K H (.ref a) (.type "dict")
  | dT {a : Addr} {kvs : List (List Key × V)} (e : H a = some (.dT kvs)) : TyOf K H (.ref a) (.type "dict")
  | ins {a C dx : Addr} {fs : List (Str × V)} (e : H a = some (.ins C dx fs)) (cl : Cls K C) (ha : PySem.W.findIn K (.ref C) "__class__" = some (some (.builtin "object.__class__")))
      (hn : PySem.W.specialIn K (.builtin "object.__class__") "__get__" = some (some (.builtin "getset_descriptor.__get__"))) (htk : PySem.W.takesIn K (.builtin "object.__class__") = some true)
      (hm : PySem.W.mroIn K C (.type "object") = some true) : TyOf K H (.ref a) (.ref C)
theorem isinst_ok {x : V} {u t : Value} (I : Inv X pins σ H s) (rx : RelV x u) (ty : TyOf X.K H x t) (e : PySem.W.kitOne X.K t c = some b) (h : ∀ tk, Q (.bool b) { s with toks := tk }) :
    wpAny (model X.prog X.w) A (call (.builtin "isinstance") [u, c]) Q E s := by
  cases ty with
  | non => cases (show u = Value.none from rx); exact PySem.W.kia_one PySem.W.kitx_none I.kIn True.intro e (fun z => nomatch z) h
  | bl y => cases (show u = Value.bool y from rx); exact PySem.W.kia_one PySem.W.kitx_bool I.kIn True.intro e (fun z => nomatch z) h
  | int i => obtain ⟨t, q⟩ := (show ∃ t, u = Value.int i t from rx); cases q; exact PySem.W.kia_one PySem.W.kitx_int I.kIn True.intro e (fun z => nomatch z) h
  | str y => obtain ⟨t, q⟩ := (show ∃ t, u = Value.str y t from rx); cases q; exact PySem.W.kia_one PySem.W.kitx_str I.kIn True.intro e (fun z => nomatch z) h
  | flt y => obtain ⟨t, q⟩ := (show ∃ t, u = Value.float y t from rx); cases q; exact PySem.W.kia_one PySem.W.kitx_float I.kIn True.intro e (fun z => nomatch z) h
  | @lst a xs ea =>
    cases (show u = Value.ref a from rx)
    obtain ⟨_, _, n, _, h1⟩ := (show ObjOk X.prog X.w H s.heap a (.lst xs) from I.hok a _ ea)
    exact PySem.W.kia_one PySem.W.kitx_list I.kIn ⟨_, h1, rfl⟩ e (fun z => nomatch z) h
  | @frz a ob xs ea =>
    cases (show u = Value.ref a from rx)
    obtain ⟨_, _, _, n, _, h1⟩ := (show ObjOk X.prog X.w H s.heap a (.frz ob (.lst xs)) from I.hok a _ ea)
    exact PySem.W.kia_one PySem.W.kitx_list I.kIn ⟨_, h1, rfl⟩ e (fun z => nomatch z) h
  | @tup a xs ea =>
    cases (show u = Value.ref a from rx)
    obtain ⟨_, _, _, p⟩ := (show ObjOk X.prog X.w H s.heap a (.tup xs) from I.hok a _ ea)
    obtain ⟨o, h1, h2, _⟩ := p
    exact PySem.W.kia_one PySem.W.kitx_tuple I.kIn ⟨o, h1, h2⟩ e (fun z => nomatch z) h
  | @dK a kvs ea =>
    cases (show u = Value.ref a from rx)
    obtain ⟨_, _, vs, _, p⟩ := (show ObjOk X.prog X.w H s.heap a (.dK kvs) from I.hok a _ ea)
    obtain ⟨o, es, ep, h1, h2, _⟩ := p
    exact PySem.W.kia_one PySem.W.kitx_dict I.kIn ⟨o, h1, h2.1⟩ e (fun z => nomatch z) h
  | @dT a kvs ea =>
    cases (show u = Value.ref a from rx)
    obtain ⟨_, _, xs, _, o, es, ep, h1, h2, _⟩ := (show ObjOk X.prog X.w H s.heap a (.dT kvs) from I.hok a _ ea)
    exact PySem.W.kia_one PySem.W.kitx_dict I.kIn ⟨o, h1, h2.1⟩ e (fun z => nomatch z) h
  | @ins a C dx fs ea cl ha hn htk hm =>
    cases (show u = Value.ref a from rx)
    obtain ⟨mA, O, _⟩ := ins_get I.hok ea
    obtain ⟨od, J, _⟩ := O.look
    exact PySem.W.kia_one (PySem.W.kitx_own (cl.get _) cl.hd ha hn htk hm) I.kIn J e (fun z => nomatch z) h
end
end L2
namespace L2
open PySem PySem.Spec PyProof.Rows
structure Room (k : Nat) (A : Around) : Prop where
  hd : A.handled = none
  dp : A.depth + 3 * k + 5 < recursionLimit
  un : A.units + 16 * k + 200 < cLine
theorem Room.mono {j k : Nat} {A : Around} (r : Room k A) (h : j ≤ k) : Room j A := ⟨r.hd, by have := r.dp; omega, by have := r.un; omega⟩
theorem Room.deeper {k : Nat} {A : Around} (r : Room (k + 1) A) (env : Env) : Room k (A.deeper env) :=
  ⟨r.hd, by have := r.dp; show A.depth + 1 + 3 * k + 5 < _; omega, by have := r.un; show A.units + 3 + 16 * k + 200 < _; omega⟩
theorem make_depth {A : Around} {C : Addr} {us : List Value} {kw : List (Str × Value)} : (A.under (.builtin "type.__call__" ⟨.ref C :: us, kw⟩)).depth = A.depth + 1 := by
  first | rfl | simp [Around.under, Code.weight, Code.isCreation, Code.isGuard, Code.isCaller, Code.frames, Code.isFrame, guardIds]
theorem make_units {A : Around} {C : Addr} {us : List Value} {kw : List (Str × Value)} : (A.under (.builtin "type.__call__" ⟨.ref C :: us, kw⟩)).units = A.units + 1 := by
  first | rfl | simp [Around.under, Code.cUnits, Code.frames, Code.isFrame]
theorem Room.make {k : Nat} {A : Around} (r : Room (k + 1) A) (C : Addr) (us : List Value) (kw : List (Str × Value)) : Room k (A.under (.builtin "type.__call__" ⟨.ref C :: us, kw⟩)) :=
  ⟨r.hd, by have := r.dp; rw [make_depth]; omega, by have := r.un; rw [make_units]; omega⟩
theorem Room.depth {k : Nat} {A : Around} (r : Room k A) : A.depth < recursionLimit := by have := r.dp; omega
def tNil : TA := fun _ H Q => Q [] H
def tCons (ta : TE) (tr : TA) : TA := fun σ H Q => ta σ H fun x H1 => tr σ H1 fun xs H2 => Q (x :: xs) H2
section
variable {X : Cx} {e : Expr} {es : List Expr} {te : TE} {t : TA} {pos : Pos}
theorem pa_nil : PA X [] tNil := fun _ _ _ _ H Q I h => Calls.spliced_nil ⟨[], H, I, .nil, h⟩
theorem pa_cons (ha : PE X e te) (hr : PA X es t) (hs : starEach (e :: es) X.env = (false, eval e X.env) :: starEach es X.env := by rfl) : PA X (e :: es) (tCons te t) := by
  intro pos pins s σ H Q I h
  rw [hs]
  show wpAny _ _ (spliced ((false, eval e X.env) :: backTo pos (starEach es X.env))) _ _ s
  refine Calls.spliced_cons (thn (ha pins s σ H _ I h) fun u s1 zz => ?_)
  obtain ⟨x, H1, I1, r1, q1⟩ := zz
  exact thn (hr pos pins s1 σ H1 _ I1 q1) fun us s2 ⟨xs, H2, I2, r2, q2⟩ => ⟨x :: xs, H2, I2, .cons r1 r2, q2⟩
def tTup (t : TA) : TE := fun σ H Q => t σ H fun xs H1 => xs.length ≤ sizeLine ∧ ∀ p, H1 p = none → Q (.ref p) (upd H1 p (.tup xs))
def tLst (t : TA) : TE := fun σ H Q => t σ H fun xs H1 => xs.length ≤ sizeLine ∧ ∀ p, H1 p = none → Q (.ref p) (upd H1 p (.lst xs))
theorem pe_tup {x1} (h : PA X es t) : PE X (.Tuple es x1 pos) (tTup t) := by
  intro pins s σ H Q I hq
  refine wpAny_Tuple_spliced (thn (h pos pins s σ H _ I hq) fun us s1 ⟨xs, H1, I1, r, z, q⟩ => ⟨by rw [← r.length]; exact z, ?_⟩)
  have hf : H1 s1.heap.objs.size = none := I1.hok.fresh (Nat.le_refl _)
  refine ⟨.ref s1.heap.objs.size, upd H1 s1.heap.objs.size (.tup xs), I1.laid (t' := s1.toks) (fun b u e => Heap.get?_push_of_some _ e) (Nat.le_refl _) ?_, rfl, q _ hf⟩
  exact ⟨z, us, r, ⟨_, Heap.get?_push_size _ rfl, rfl, _, rfl⟩⟩
theorem pe_lst (h : PA X es t) : PE X (.List es pos) (tLst t) := by
  intro pins s σ H Q I hq
  refine wpAny_List_spliced (thn (h pos pins s σ H _ I hq) fun us s1 ⟨xs, H1, I1, r, z, q⟩ => ⟨by rw [← r.length]; exact z, ?_⟩)
  have hf : H1 s1.heap.objs.size = none := I1.hok.fresh (Nat.le_refl _)
  refine ⟨.ref s1.heap.objs.size, upd H1 s1.heap.objs.size (.lst xs), I1.laid (t' := s1.toks) (fun b u e => Heap.get?_push_of_some _ e) (Nat.le_refl _) ?_, rfl, q _ hf⟩
  exact ⟨z, us, 0, r, Heap.get?_push_size _ rfl⟩
end
abbrev Sp := List V → Hp → VK → XK → Prop
abbrev CXT := List Env → Hp → Shared → XK → Value → Shared → Prop
structure Env0 (P : Program) (w : World) (K : PySem.W.Frag) (mg : Str → Option Value) (base : Heap) (A : Around) (outer : List Env) (s : Shared) (H : Hp) : Prop where
  frames : A.frames = some outer
  mod : Mod K mg base
  bs : ∀ b o, base.get? b = some o → s.heap.get? b = some o ∧ H b = none
  bsz : base.objs.size ≤ s.heap.objs.size
  funs : s.heap.FunFrames base outer
  frf : ∀ b ∈ frs outer, H b = none
  hok : HOk P w H s.heap
  bare : AllBare s.gens
def CE (outer : List Env) (P : Program) (w : World) (H : Hp) (s : Shared) (Q : VK) (u : Value) (s' : Shared) : Prop :=
  ∃ v H', s'.os = s.os ∧ AllBare s'.gens ∧ Un (frs outer) [] H H' s.heap s'.heap ∧ HOk P w H' s'.heap ∧ RelV v u ∧ Q v H'
def CR (CX : CXT) (outer : List Env) (P : Program) (w : World) (H : Hp) (s : Shared) (Q : VK) (E : XK) (r : Result) (s' : Shared) : Prop :=
  match r with
  | .ok (.ret u) => CE outer P w H s Q u s'
  | .ok _ => False
  | .error e => CX outer H s E e s'
structure FnOk (P : Program) (w : World) (K : PySem.W.Frag) (mg : Str → Option Value) (base : Heap) (CX : CXT) (k : Nat) (f : Addr) (fd : FuncData) (ps : List Str) (sp : Sp) : Prop where
  len : ∀ vs H Q E, sp vs H Q E → vs.length = ps.length
  run : ∀ (A : Around) (outer : List Env) (s : Shared) (H : Hp) (args : Args) (us : List Value) (vs : List V) (Q : VK) (E : XK), Room k A → Env0 P w K mg base A outer s H → BindsTo s fd args (ps.zip us) → Vals vs us → sp vs H Q E →
    codeAny (model P w) A (.call (.ref f) args) (CR CX outer P w H s Q E) s
theorem Env0.make {P : Program} {w : World} {K : PySem.W.Frag} {mg : Str → Option Value} {base : Heap} {A : Around} {outer : List Env} {s : Shared} {H : Hp} (e : Env0 P w K mg base A outer s H) (C : Addr) (us : List Value) (kw : List (Str × Value)) :
    Env0 P w K mg base (A.under (.builtin "type.__call__" ⟨.ref C :: us, kw⟩)) outer s H := ⟨by first | exact e.frames | (simpa [Around.under, Code.envs, Code.isFrame, pushEnvs] using e.frames), e.mod, e.bs, e.bsz, e.funs, e.frf, e.hok, e.bare⟩
section
variable {X : Cx} {pins : List (Addr × Obj)} {σ : St} {H : Hp} {s s' : Shared}
theorem Inv.env0 (I : Inv X pins σ H s) : Env0 X.prog X.w X.K X.mg X.base X.A X.stack s H :=
  ⟨I.ok.frames, I.ok.mod, I.bs, Nat.le_trans I.ok.bsz I.sz, I.stack, I.stkFree, I.hok, I.bare⟩
theorem Inv.after {Q : VK} {u : Value} (I : Inv X pins σ H s) (h : CE X.stack X.prog X.w H s Q u s') : EP X pins σ Q u s' := by
  obtain ⟨v, H', os, bare, un, hok, r, q⟩ := h
  obtain ⟨hh, g, d, t, os'⟩ := s'
  obtain rfl : os' = s.os := os
  exact ⟨v, H', I.call (h' := hh) (g' := g) (d' := d) (t' := t) (ch := []) un hok bare (fun b z => absurd z (by simp)), r, q⟩
end
def tCall (sp : Sp) (dvs : List V) (E : XK) (t : TA) : TE := fun σ H Q => t σ H fun vs H1 => sp (vs ++ dvs) H1 Q E
def tMeth (C : Addr) (m : Str) (sp : Sp) (dvs : List V) (E : XK) (ta : TE) (t : TA) : TE := fun σ H Q => ta σ H fun x H1 => ∃ a dx fs, x = .ref a ∧ H1 a = some (.ins C dx fs) ∧ fs.lookup m = none ∧
  t σ H1 fun vs H2 => sp (x :: (vs ++ dvs)) H2 Q E
def tMake (C : Addr) (sp : Sp) (dvs : List V) (E : XK) (t : TA) : TE := fun σ H Q => t σ H fun vs H1 => ∀ x dx, H1 x = none → H1 dx = none → dx ≠ x →
  sp (.ref x :: (vs ++ dvs)) (upd (upd H1 dx (.own x)) x (.ins C dx [])) (fun v H2 => v = .non ∧ Q (.ref x) H2) E
def Binds (K : PySem.W.Frag) (fd : FuncData) (ps : List Str) (ds : List Value) : Prop :=
  ∀ (s : Shared) (us : List Value), K.In s.heap → (us ++ ds).length = ps.length → BindsTo s fd ⟨us, []⟩ (ps.zip (us ++ ds))
theorem Binds.all {K : PySem.W.Frag} {fd : FuncData} {ps : List Str} (h : ∀ us : List Value, us.length = ps.length → bindArgs fd ⟨us, []⟩ = pure (ps.zip us)) : Binds K fd ps [] := fun s us _ hl => by
  rw [List.append_nil] at hl ⊢
  exact .of_eq (h us hl)
def Passes (CX : CXT) (X : Cx) (E : XK) : Prop := ∀ (pins : List (Addr × Obj)) (σ : St) (H : Hp) (s : Shared) (e : Value) (s' : Shared), Inv X pins σ H s → CX X.stack H s E e s' → X.xe e s'
section
variable {X : Cx} {CX : CXT} {k : Nat} {f C : Addr} {fd : FuncData} {ps : List Str} {sp : Sp} {dvs : List V} {ds : List Value} {E : XK} {x m : Str} {p pos apos : Pos} {e o : Expr} {es : List Expr} {ta : TE} {t : TA}
theorem run_fn {pins : List (Addr × Obj)} {σ : St} {H : Hp} {s : Shared} {Q : VK} {us : List Value} {vs : List V} (F : FnOk X.prog X.w X.K X.mg X.base CX k f fd ps sp) (hr : Room k X.A) (hb : Binds X.K fd ps ds) (hd : Vals dvs ds) (hx : Passes CX X E)
    (I : Inv X pins σ H s) (r : Vals vs us) (h : sp (vs ++ dvs) H Q E) : wpAny (model X.prog X.w) X.A (call (.ref f) us) (EP X pins σ Q) X.xe s := by
  have r2 : Vals (vs ++ dvs) (us ++ ds) := r.append hd
  have hl : (us ++ ds).length = ps.length := by rw [← r2.length]; exact F.len _ _ _ _ h
  refine wpAny_call (codeAny_mono (F.run X.A X.stack s H ⟨us, []⟩ (us ++ ds) (vs ++ dvs) Q E hr I.env0 (hb s us I.kIn hl) r2 h) fun r s' hq => ?_)
  cases r with
  | error e => exact hx pins σ H s e s' I hq
  | ok fl =>
    cases fl with
    | ret u => exact I.after hq
    | next => exact False.elim hq
    | brk => exact False.elim hq
    | cont => exact False.elim hq
theorem pe_call (F : FnOk X.prog X.w X.K X.mg X.base CX k f fd ps sp) (hr : Room k X.A) (hg : Gl X x) (hm : X.mg x = some (.ref f)) (hk : PySem.W.keepIn X.K (.ref f) = true) (hb : Binds X.K fd ps ds) (hd : Vals dvs ds) (hx : Passes CX X E)
    (ha : PA X (e :: es) t) (hdb : (x == ("__debug__" : Str)) = false := by decide) (he : starEach (e :: es) X.env = (false, eval e X.env) :: starEach es X.env := by rfl) (hpl : (backTo pos (starEach es X.env)).any (·.1) = false := by rfl) :
    PE X (.Call (.Name x p) (e :: es) [] pos) (tCall sp dvs E t) := by
  intro pins s σ H Q I h
  refine wpAny_Call_Name_kw (ld_glob I hg hm ?_ hdb)
  refine PySem.W.callWith_K (h₀ := X.base) I.ok.mod.kin hk (thn (ha pos pins s σ H _ I h) fun us s1 ⟨vs, H1, I1, r, q⟩ => ⟨I1.kIn, ?_⟩) he hpl
  exact run_fn F hr hb hd hx I1 r q
theorem pe_meth {pl : Sem Bool} (he : PE X o ta) (c : Cls X.K C) (hm : Meth X.K C m f) (F : FnOk X.prog X.w X.K X.mg X.base CX k f fd ps sp) (hr : Room k X.A) (hb : Binds X.K fd ps ds) (hd : Vals dvs ds) (hx : Passes CX X E) (ha : PA X (e :: es) t)
    (hst : starEach (e :: es) X.env = (false, eval e X.env) :: starEach es X.env := by rfl) (hpl : (backTo pos (starEach es X.env)).any (·.1) = false := by rfl)
    (ht : eval (.Call (.Attribute o m apos) (e :: es) [] pos) X.env = (do
      let ov ← eval o X.env
      standAt apos.atName
      let (f, first) ← holding [ov] (getMethod ov m pl)
      callWith pos f first (backTo pos (starEach (e :: es) X.env)) (backToKw pos (keywordEach [] X.env))) := by rfl) :
    PE X (.Call (.Attribute o m apos) (e :: es) [] pos) (tMeth C m sp dvs E ta t) := by
  intro pins s σ H Q I h
  refine PySem.W.methodCall_KW (pl := pl) (thn (he pins s σ H _ I h) fun u s1 ⟨x, H1, I1, rx, a, dx, fs, ex, ea, l, q⟩ => ?_) ht
  subst ex
  obtain rfl : u = Value.ref a := rx
  refine getmeth_ok I1 ea c hm l ?_
  refine PySem.W.callWith_K (first := [.ref a]) (h₀ := X.base) I.ok.mod.kin hm.kp (thn (ha pos pins s1 σ H1 _ I1 q) fun us s2 ⟨vs, H2, I2, r, q2⟩ => ⟨I2.kIn, ?_⟩) hst hpl
  exact run_fn (us := .ref a :: us) (vs := .ref a :: vs) F hr hb hd hx I2 (.cons rfl r) q2
theorem pe_meth0 {pl : Sem Bool} (he : PE X o ta) (c : Cls X.K C) (hm : Meth X.K C m f) (F : FnOk X.prog X.w X.K X.mg X.base CX k f fd ps sp) (hr : Room k X.A) (hb : Binds X.K fd ps ds) (hd : Vals dvs ds) (hx : Passes CX X E)
    (ht : eval (.Call (.Attribute o m apos) [] [] pos) X.env = (do
      let ov ← eval o X.env
      standAt apos.atName
      let (f, first) ← holding [ov] (getMethod ov m pl)
      callWith pos f first (backTo pos (starEach [] X.env)) (backToKw pos (keywordEach [] X.env))) := by rfl) :
    PE X (.Call (.Attribute o m apos) [] [] pos) (tMeth C m sp dvs E ta tNil) := by
  intro pins s σ H Q I h
  refine PySem.W.methodCall_KW (pl := pl) (thn (he pins s σ H _ I h) fun u s1 ⟨x, H1, I1, rx, a, dx, fs, ex, ea, l, q⟩ => ?_) ht
  subst ex
  obtain rfl : u = Value.ref a := rx
  refine getmeth_ok I1 ea c hm l ?_
  exact PySem.W.callWith_K0 (first := [.ref a]) I1.kIn hm.kp (run_fn (us := [.ref a]) (vs := [.ref a]) F hr hb hd hx I1 (.cons rfl .nil) q)
structure Mk (K : PySem.W.Frag) (C f : Addr) : Prop where
  makes : PySem.W.makesIn K C = true
  init : PySem.W.findIn K (.ref C) "__init__" = some (some (.ref f))
  fn : PySem.W.isFn K (.ref f) = true
  kp : PySem.W.keepIn K (.ref C) = true
theorem run_make {pins : List (Addr × Obj)} {σ : St} {H : Hp} {s : Shared} {Q : VK} {us : List Value} {vs : List V} (M : Mk X.K C f) (F : FnOk X.prog X.w X.K X.mg X.base CX k f fd ps sp) (hr : Room (k + 1) X.A) (hb : Binds X.K fd ps ds) (hd : Vals dvs ds)
    (hx : Passes CX X E) (I : Inv X pins σ H s) (r : Vals vs us)
    (h : ∀ x dx, H x = none → H dx = none → dx ≠ x → sp (.ref x :: (vs ++ dvs)) (upd (upd H dx (.own x)) x (.ins C dx [])) (fun v H2 => v = .non ∧ Q (.ref x) H2) E) :
    wpAny (model X.prog X.w) X.A (call (.ref C) us) (EP X pins σ Q) X.xe s := by
  have hq := h (s.heap.objs.size + 1) s.heap.objs.size (I.hok.fresh (Nat.le_succ _)) (I.hok.fresh (Nat.le_refl _)) (Nat.ne_of_lt (Nat.lt_succ_self _))
  have I2 := Inv.made (C := C) I
  have r2 : Vals (V.ref (s.heap.objs.size + 1) :: (vs ++ dvs)) (Value.ref (s.heap.objs.size + 1) :: (us ++ ds)) := .cons rfl (r.append hd)
  have hl : (Value.ref (s.heap.objs.size + 1) :: us ++ ds).length = ps.length := by
    have e := r2.length
    rw [F.len _ _ _ _ hq] at e
    exact e.symm
  refine wpAny_call (make_map (f := f) I.kIn M.makes M.init (beq_iff_eq.mp M.fn) (codeAny_mono (F.run _ X.stack _ _ ⟨Value.ref (s.heap.objs.size + 1) :: us, []⟩ (Value.ref (s.heap.objs.size + 1) :: (us ++ ds)) _ _ E (hr.make C us [])
    (I2.env0.make C us []) (hb _ (Value.ref (s.heap.objs.size + 1) :: us) I2.kIn hl) r2 hq) fun r s' hq' => ?_))
  cases r with
  | error e => exact hx pins σ _ _ e s' I2 hq'
  | ok fl =>
    cases fl with
    | ret u =>
      obtain ⟨v, H', I3, rv, ev, q3⟩ := I2.after hq'
      subst ev
      exact ⟨rv, ⟨V.ref (s.heap.objs.size + 1), H', I3, rfl, q3⟩⟩
    | next => exact False.elim hq'
    | brk => exact False.elim hq'
    | cont => exact False.elim hq'
theorem pe_make (M : Mk X.K C f) (F : FnOk X.prog X.w X.K X.mg X.base CX k f fd ps sp) (hr : Room (k + 1) X.A) (hg : Gl X x) (hm : X.mg x = some (.ref C)) (hb : Binds X.K fd ps ds) (hd : Vals dvs ds) (hx : Passes CX X E)
    (ha : PA X (e :: es) t) (hdb : (x == ("__debug__" : Str)) = false := by decide) (he : starEach (e :: es) X.env = (false, eval e X.env) :: starEach es X.env := by rfl) (hpl : (backTo pos (starEach es X.env)).any (·.1) = false := by rfl) :
    PE X (.Call (.Name x p) (e :: es) [] pos) (tMake C sp dvs E t) := by
  intro pins s σ H Q I h
  refine wpAny_Call_Name_kw (ld_glob I hg hm ?_ hdb)
  refine PySem.W.callWith_K (h₀ := X.base) I.ok.mod.kin M.kp (thn (ha pos pins s σ H _ I h) fun us s1 ⟨vs, H1, I1, r, q⟩ => ⟨I1.kIn, ?_⟩) he hpl
  exact run_make M F hr hb hd hx I1 r q
theorem pe_make0 (M : Mk X.K C f) (F : FnOk X.prog X.w X.K X.mg X.base CX k f fd ps sp) (hr : Room (k + 1) X.A) (hg : Gl X x) (hm : X.mg x = some (.ref C)) (hb : Binds X.K fd ps ds) (hd : Vals dvs ds) (hx : Passes CX X E)
    (hdb : (x == ("__debug__" : Str)) = false := by decide) : PE X (.Call (.Name x p) [] [] pos) (tMake C sp dvs E tNil) := by
  intro pins s σ H Q I h
  refine wpAny_Call_Name_kw (ld_glob I hg hm ?_ hdb)
  exact PySem.W.callWith_K0 I.kIn M.kp (run_make (us := []) M F hr hb hd hx I .nil h)
end
section
variable {X : Cx} {CX : CXT} {k : Nat} {f C : Addr} {fd : FuncData} {ps ks : List Str} {sp : Sp} {E : XK} {x m : Str} {p pos apos kpos : Pos} {e o : Expr} {es : List Expr} {kws : List Keyword} {te ta : TE} {t tk : TA} {nm : Option Str}
variable {g : List Value → List Value → List Value} {gV : List V → List V → List V}
end
structure FnScope (N P : List Str) (sc : Scope) : Prop where
  kind : sc.kind = .function
  co : sc.isCoroutine = false
  gen : sc.isGenerator = false
  nd : N.Nodup
  pre : N.take P.length = P
  par : ∀ x ∈ P, sc.names.lookup x = some .local ∨ sc.names.lookup x = some .cell
  nofree : ∀ y ∈ sc.names, y.2 ≠ .free
theorem bindL_out {kindOf : Str → Option NameKind} {x : Str} : ∀ {binds : List (Str × Value)} {m : Str → Option Value}, (∀ v, (x, v) ∉ binds) → bindL kindOf binds m x = m x
  | [], _, _ => rfl
  | (n, v) :: r, m, h => by
    unfold bindL
    rw [bindL_out fun w hw => h w (List.mem_cons_of_mem _ hw)]
    split
    · have : x ≠ n := by rintro rfl; exact h v List.mem_cons_self
      simp [this]
    · rfl
theorem bindC_out {kindOf : Str → Option NameKind} {x : Str} : ∀ {binds : List (Str × Value)} {m : Str → Option Value}, (∀ v, (x, v) ∉ binds) → bindC kindOf binds m x = m x
  | [], _, _ => rfl
  | (n, v) :: r, m, h => by
    unfold bindC
    rw [bindC_out fun w hw => h w (List.mem_cons_of_mem _ hw)]
    split
    · rfl
    · have : x ≠ n := by rintro rfl; exact h v List.mem_cons_self
      simp [this]
theorem bindL_get {kindOf : Str → Option NameKind} {x : Str} {v : Value} : ∀ {P : List Str} {vs : List Value} {i : Nat} {m : Str → Option Value}, P.Nodup → P[i]? = some x → vs[i]? = some v → kindOf x = some .local →
    bindL kindOf (P.zip vs) m x = some v
  | [], _, _, _, _, h, _, _ => by simp at h
  | _ :: _, [], _, _, _, _, h, _ => by simp at h
  | p :: P, w :: vs, 0, m, nd, h1, h2, hk => by
    simp at h1 h2; subst h1; subst h2
    show bindL kindOf ((p, w) :: P.zip vs) m p = _
    unfold bindL
    rw [bindL_out fun v hv => (List.nodup_cons.mp nd).1 (List.of_mem_zip hv).1, if_pos hk]
    simp
  | p :: P, w :: vs, i + 1, m, nd, h1, h2, hk => by
    show bindL kindOf ((p, w) :: P.zip vs) m x = _
    unfold bindL
    exact bindL_get (i := i) (List.nodup_cons.mp nd).2 (by simpa using h1) (by simpa using h2) hk
theorem bindC_get {kindOf : Str → Option NameKind} {x : Str} {v : Value} : ∀ {P : List Str} {vs : List Value} {i : Nat} {m : Str → Option Value}, P.Nodup → P[i]? = some x → vs[i]? = some v → kindOf x ≠ some .local →
    bindC kindOf (P.zip vs) m x = some v
  | [], _, _, _, _, h, _, _ => by simp at h
  | _ :: _, [], _, _, _, _, h, _ => by simp at h
  | p :: P, w :: vs, 0, m, nd, h1, h2, hk => by
    simp at h1 h2; subst h1; subst h2
    show bindC kindOf ((p, w) :: P.zip vs) m p = _
    unfold bindC
    rw [bindC_out fun v hv => (List.nodup_cons.mp nd).1 (List.of_mem_zip hv).1, if_neg hk]
    simp
  | p :: P, w :: vs, i + 1, m, nd, h1, h2, hk => by
    show bindC kindOf ((p, w) :: P.zip vs) m x = _
    unfold bindC
    exact bindC_get (i := i) (List.nodup_cons.mp nd).2 (by simpa using h1) (by simpa using h2) hk
def start (N : List Str) (vs : List V) : St := vs.map some ++ List.replicate (N.length - vs.length) none
def cxOf (CX : CXT) (P : Program) (w : World) (K : PySem.W.Frag) (mg : Str → Option Value) (base : Heap) (N : List Str) (qual : Str) (scope : Scope) (f : Addr) (cd : Value) (A : Around) (outer : List Env) (s : Shared) (H : Hp) (E : XK) : Cx where
  prog := P
  w := w
  K := K
  mg := mg
  base := base
  A := A.deeper (envOfC qual scope s.heap.objs.size f cd)
  N := N
  s_0 := s
  H_0 := H
  env := envOfC qual scope s.heap.objs.size f cd
  outer := outer
  stack := envOfC qual scope s.heap.objs.size f cd :: outer
  ex := []
  calm := true
  fn := fun _ => true
  pn := []
  xe := fun e s' => wpAny (model P w) (A.deeper (envOfC qual scope s.heap.objs.size f cd)) (leaving (envOfC qual scope s.heap.objs.size f cd) e) (fun _ s'' => CX outer H s E e s'') (fun e' s'' => CX outer H s E e' s'') s'
theorem cell_has {sc : Scope} {n : Nat} {x : Str} (h : sc.names.lookup x = some .cell) : ∃ c, (cellsFrom n sc.names []).lookup x = some c := by
  have q := PySem.W.cellsFrom_some sc.names n [] (.inl h)
  exact Option.isSome_iff_exists.mp q
theorem inv_start {CX : CXT} {P : Program} {w : World} {K : PySem.W.Frag} {mg : Str → Option Value} {base : Heap} {N ps : List Str} {qual : Str} {scope : Scope} {f : Addr} {cd : Value} {A : Around} {outer : List Env} {s s1 : Shared} {H : Hp} {E : XK} {us : List Value} {vs : List V}
    (S : FnScope N ps scope) (hd : A.handled = none) (e0 : Env0 P w K mg base A outer s H) (hl : vs.length = ps.length) (r : Vals vs us)
    (x : InCallC s s.heap.objs.size (bindL (envOfC qual scope s.heap.objs.size f cd).kindOf (ps.zip us) fun _ => none) (cellsFrom (s.heap.objs.size + 1) scope.names []) (bindC (envOfC qual scope s.heap.objs.size f cd).kindOf (ps.zip us) fun _ => none) s1) :
    Inv (cxOf CX P w K mg base N qual scope f cd A outer s H E) [] (start N vs) H s1 := by
  have hpl : ps.length ≤ N.length := by have := congrArg List.length S.pre; rw [List.length_take] at this; omega
  obtain ⟨h1, tk, rfl, hk⟩ := x.done
  have noA : ∀ b : Addr, b ∉ (cxOf CX P w K mg base N qual scope f cd A outer s H E).ex := fun b z => absurd (show b ∈ ([] : List Addr) from z) (by simp)
  refine ⟨⟨e0.mod, S.kind, rfl, rfl, Nat.le_refl _, fun y z c h1 h2 => ?_, fun y hy => ?_, fun y c _ h => ?_, fun _ => hd, Around.frames_deeper e0.frames, .inr ⟨rfl, rfl⟩, fun b z => absurd z (noA b), e0.bs, e0.bsz, fun b _ _ => noA b, fun b z => absurd z (noA b), e0.funs, e0.frf⟩,
    rfl, e0.bare, Un.kept hk, ⟨_, x.toInCall.ns, fun i y v h1 h2 h3 => ?_⟩, fun y c h => ⟨_, x.cell y c h⟩, e0.hok.fresh (Nat.le_refl _), fun y c h => ?_, fun p hp => absurd (show p ∈ ([] : List (Addr × Obj)) from hp) (by simp), e0.hok.kept hk, ?_⟩
  · exact name_of_addr x.apart (PySem.mem_of_lookup h1) (PySem.mem_of_lookup h2)
  · have hy : scope.names.lookup y = some .cell ∨ scope.names.lookup y = some .free := hy
    rcases hy with hy | hy
    · exact cell_has hy
    · exact absurd rfl (S.nofree _ (PySem.mem_of_lookup hy))
  · exact Nat.le_of_lt (x.above y c (PySem.mem_of_lookup h))
  · have hi : i < vs.length := by
      unfold start at h2
      by_cases hi : i < vs.length
      · exact hi
      · rw [List.getElem?_append_right (by simpa using hi)] at h2
        rw [List.getElem?_replicate] at h2
        split at h2 <;> cases h2
    have ha : vs[i]? = some v := by
      unfold start at h2
      rw [List.getElem?_append_left (by simpa using hi), List.getElem?_map] at h2
      cases e : vs[i]? with
      | none => rw [e] at h2; cases h2
      | some a => rw [e] at h2; cases h2; rfl
    obtain ⟨u, hu, rv⟩ := r.get ha
    have hp : ps[i]? = some y := by
      rw [← S.pre, List.getElem?_take_of_lt (by omega)]; exact h1
    have ndP : ps.Nodup := by rw [← S.pre]; exact S.nd.sublist (List.take_sublist _ _)
    refine ⟨u, rv, ?_⟩
    rcases S.par y (List.mem_of_getElem? hp) with k | k
    · exact .inl ⟨k, bindL_get ndP hp hu k⟩
    · obtain ⟨c, e⟩ := cell_has (n := s.heap.objs.size + 1) k
      refine .inr ⟨.inl k, c, e, ?_⟩
      have q := x.cell y c e
      rw [bindC_get ndP hp hu (by show scope.names.lookup y ≠ _; rw [k]; decide)] at q
      exact q
  · exact e0.hok.fresh (Nat.le_of_lt (x.above y c (PySem.mem_of_lookup h)))
  · unfold start
    show _ = N.length
    rw [List.length_append, List.length_map, List.length_replicate]
    omega
theorem fn_of {CX : CXT} {P : Program} {w : World} {K : PySem.W.Frag} {mg : Str → Option Value} {base : Heap} {k : Nat} {f : Addr} {name qual : Str} {params : Arguments} {body : List Stmt} {scope : Scope} {dV kV doc pm cdv ct oc : Value} {an od : Option Addr}
    {osl : Array (Option Value)} {N ps : List Str} {sp : Sp} (lk : K.lookup f = some ⟨oc, od, .func (PySem.W.fnOf name qual params body scope dV kV doc pm an cdv ct), osl⟩) (hcd : PySem.W.codeIn K cdv qual = true) (S : FnScope N ps scope)
    (len : ∀ vs H Q E, sp vs H Q E → vs.length = ps.length)
    (hbody : ∀ (A : Around) (outer : List Env) (s : Shared) (H : Hp) (vs : List V) (Q : VK) (E : XK), Room k (A.deeper (envOfC qual scope s.heap.objs.size f cdv)) → sp vs H Q E →
      ∃ t, PSs (cxOf CX P w K mg base N qual scope f cdv A outer s H E) body t ∧ t { nx := fun _ H' => Q .non H', rt := Q } (start N vs) H) :
    FnOk P w K mg base CX (k + 1) f (PySem.W.fnOf name qual params body scope dV kV doc pm an cdv ct) ps sp := by
  refine ⟨len, fun A outer s H args us vs Q E hr e0 hb r hsp => ?_⟩
  have hl := len _ _ _ _ hsp
  have KX : K.In s.heap := e0.mod.kin.keeps fun b o e => (e0.bs b o e).1
  have lim : s.heap.NoLimit := e0.mod.nolimit.keeps fun b o e => (e0.bs b o e).1
  have hkind : ∀ y ∈ ps.zip us, scope.names.lookup y.1 = some .local ∨ (scope.names.lookup y.1 = some .cell ∧ ((cellsFrom (s.heap.objs.size + 1) scope.names []).lookup y.1).isSome = true) := fun ⟨n, v⟩ hy => by
    rcases S.par n (List.of_mem_zip hy).1 with q | q
    · exact .inl q
    · exact .inr ⟨q, PySem.W.cellsFrom_some _ _ _ (.inl q)⟩
  refine codeAny_call_function hr.depth (KX _ _ lk) rfl S.co S.gen rfl (PySem.W.codeRec_of KX hcd) (hb _ _ _ _ ?_)
  refine wpAny_newFunctionEnv_cells S.kind hkind fun env he s1 x => ?_
  subst he
  refine ⟨lim.keeps x.toInCall.keep, codeAny_func ?_⟩
  obtain ⟨t, ht, hq⟩ := hbody A outer s H vs Q E (hr.deeper _) hsp
  have I : Inv (cxOf CX P w K mg base N qual scope f cdv A outer s H E) [] (start N vs) H s1 := inv_start S hr.hd e0 hl r x
  refine wpAny_mono (ht [] s1 (start N vs) H _ I hq) (fun fl s' hs => ?_) fun e s' hs => hs
  have fin : ∀ {σ' : St} {H' : Hp} {v : V} {u : Value}, Inv (cxOf CX P w K mg base N qual scope f cdv A outer s H E) [] σ' H' s' → RelV v u → Q v H' → CE outer P w H s Q u s' :=
    fun {σ' H' v u} J rv q => ⟨v, H', J.os, J.bare, J.base, J.hok, rv, q⟩
  cases fl with
  | ret u =>
    obtain ⟨v, σ', H', J, rv, q⟩ := hs
    exact fin J rv q
  | next =>
    obtain ⟨σ', H', J, q⟩ := hs
    exact fin (v := V.non) (u := Value.none) J rfl q
  | brk =>
    obtain ⟨_, _, _, q⟩ := hs
    exact False.elim q
  | cont =>
    obtain ⟨_, _, _, q⟩ := hs
    exact False.elim q
end L2
namespace L2
open PySem PySem.Spec PyProof.Rows
section
variable {X : Cx} {x : Str} {p pos : Pos} {e : Expr} {es : List Expr} {t : TA} {id T : String} {r : List V → Hp → VK → Prop}
def tCB (r : List V → Hp → VK → Prop) (t : TA) : TE := fun σ H Q => t σ H fun vs H1 => r vs H1 Q
theorem pe_callB (hc : CallR X (.builtin id) r) (hg : Gl X x) (hm : X.mg x = none) (hv : bootBuiltins x = some (.builtin id)) (ha : PA X (e :: es) t) (hn : x ≠ "__name__" := by decide) (hdb : (x == ("__debug__" : Str)) = false := by decide)
    (he : starEach (e :: es) X.env = (false, eval e X.env) :: starEach es X.env := by rfl) (hpl : (backTo pos (starEach es X.env)).any (·.1) = false := by rfl) : PE X (.Call (.Name x p) (e :: es) [] pos) (tCB r t) := by
  intro pins s σ H Q I h
  refine wpAny_Call_Name_kw (ld_blt I hg hm hv ?_ hn hdb)
  exact PyProof.Rows.callWith_builtin1 (thn (ha pos pins s σ H _ I h) fun us s1 ⟨vs, H1, I1, r1, q1⟩ => hc pins s1 σ H1 vs us Q I1 r1 q1) he hpl
end
end L2
namespace HT
open PySem PyProof.Rows
section
open PySem.SeqAt
open PySem.AutoSeq1 (wpAny_loadPart')
open PySem.MeetsSeq PySem.MeetsSeq2 PySem.MeetsSeq3
end
section
variable {prog : Program} {w : World} {A : Around} {E : Value → Shared → Prop} {s : Shared}
def sIx (n d : Nat) : Option Int → Nat
  | none => d
  | some v => if v < 0 then (v + (n : Int)).toNat else min v.toNat n
theorem sIx_nat (n d k : Nat) : sIx n d (some (k : Int)) = min k n := by
  show (if (k : Int) < 0 then ((k : Int) + (n : Int)).toNat else min (k : Int).toNat n) = min k n
  rw [if_neg (by omega), Int.toNat_natCast]
end
end HT
namespace L2
open PySem PySem.Spec PyProof.Rows
abbrev TO := St → Hp → (Option Int → Hp → Prop) → Prop
def PO (X : Cx) (e : Option Expr) (t : TO) : Prop :=
  ∀ (pins : List (Addr × Obj)) (s : Shared) (σ : St) (H : Hp) (Q : Option Int → Hp → Prop), Inv X pins σ H s → t σ H Q →
    wpAny (model X.prog X.w) X.A (evalPart e X.env) (fun u s' => ∃ o H', Inv X pins σ H' s' ∧ IsPart u o ∧ Q o H') X.xe s
def tPart (t : TE) : TO := fun σ H Q => t σ H fun x H1 => ∃ i, x = .int i ∧ Q (some i) H1
section
variable {X : Cx} {e : Expr} {te : TE} {lo hi : Option Expr} {tl th : TO} {pos p2 : Pos}
theorem po_some (h : PE X e te) : PO X (some e) (tPart te) := by
  intro pins s σ H Q I hw
  rw [evalPart_some]
  refine thn (h pins s σ H _ I hw) fun u s1 zz => ?_
  obtain ⟨x, H1, I1, r1, q1⟩ := zz
  obtain ⟨i, rfl, q⟩ := q1
  obtain ⟨t, rfl⟩ := r1
  exact ⟨some i, H1, I1, .int i t, q⟩
def SlR (X : Cx) (r : V → Option Int → Option Int → Hp → VK → Prop) : Prop :=
  ∀ (pins : List (Addr × Obj)) (s : Shared) (σ : St) (H : Hp) (x : V) (v vl vu : Value) (lo hi : Option Int) (sl : Addr) (Q : VK), Inv X pins σ H s → RelV x v → s.heap.IsSliceOf sl vl vu .none → IsPart vl lo → IsPart vu hi → r x lo hi H Q →
    ∃ T id, typeLookup (.type T) "__getitem__" = pure (some (.builtin id)) ∧ s.TypeIs v T ∧ wpAny (model X.prog X.w) X.A (getItem v (.ref sl)) (EP X pins σ Q) X.xe s
def tSl (r : V → Option Int → Option Int → Hp → VK → Prop) (te : TE) (tl th : TO) : TE := fun σ H Q => te σ H fun x H1 => tl σ H1 fun l H2 => th σ H2 fun u H3 => r x l u H3 Q
theorem pe_slice {r : V → Option Int → Option Int → Hp → VK → Prop} (hr : SlR X r) (he : PE X e te) (hl : PO X lo tl) (hu : PO X hi th) : PE X (.Subscript e (.Slice lo hi none p2) pos) (tSl r te tl th) := by
  intro pins s σ H Q I h
  refine Subscript_ (thn (he pins s σ H _ I h) fun v s1 zz => ?_)
  obtain ⟨x, H1, I1, r1, q1⟩ := zz
  refine wpAny_Slice (thn (hl pins s1 σ H1 _ I1 q1) fun vl s2 ⟨l, H2, I2, pl, q2⟩ => thn (hu pins s2 σ H2 _ I2 q2) fun vu s3 zz => ?_)
  obtain ⟨u, H3, I3, pu, q3⟩ := zz
  rw [evalPart_none]
  refine wpAny_pure ?_
  have I4 : Inv X pins σ H3 { s3 with heap := s3.heap.push { cls := .type "slice", data := .fields #[vl, vu, .none] } } := I3.kept (t' := s3.toks) fun b ob q => Heap.get?_push_of_some _ q
  obtain ⟨T, id, hT, ht, hg⟩ := hr pins { s3 with heap := s3.heap.push { cls := .type "slice", data := .fields #[vl, vu, .none] } } σ H3 x v vl vu l u s3.heap.objs.size Q I4 r1 (Heap.IsSliceOf.new ..) pl pu q3
  show wpAny (model X.prog X.w) X.A (subscriptTail e (.Slice lo hi none p2) v (.ref s3.heap.objs.size)) (EP X pins σ Q) X.xe { s3 with heap := s3.heap.push { cls := .type "slice", data := .fields #[vl, vu, .none] } }
  exact tail_any (ops := [.ref s3.heap.objs.size, v]) ht hT hg (by with_unfolding_all rfl)
def cutV (xs : List V) (lo hi : Option Int) : List V := (xs.drop (HT.sIx xs.length 0 lo)).take (HT.sIx xs.length xs.length hi - HT.sIx xs.length 0 lo)
theorem cutV_length (xs : List V) (lo hi : Option Int) : (cutV xs lo hi).length ≤ xs.length := by
  unfold cutV
  rw [List.length_take, List.length_drop]
  omega
end
end L2
namespace L2
open PySem PySem.Spec PyProof.Rows
def ixN (n : Nat) (i : Int) : Option Nat := if 0 ≤ i then (if i < n then some i.toNat else none) else if -(n : Int) ≤ i then some (i + n).toNat else none
def atI {α : Type} (xs : List α) (i : Int) : Option α := (ixN xs.length i).bind fun j => xs[j]?
theorem ixN_seq {n : Nat} {i : Int} {j : Nat} (h : ixN n i = some j) : seqIndex? i n = some j ∧ j < n ∧ -(n : Int) ≤ i ∧ i < n := by
  unfold ixN at h
  by_cases h0 : 0 ≤ i
  · rw [if_pos h0] at h
    by_cases h1 : i < n
    · rw [if_pos h1] at h
      have e : i.toNat = j := Option.some.inj h
      exact ⟨by rw [seqIndex_of h0 h1, e], by omega, by omega, h1⟩
    · rw [if_neg h1] at h; cases h
  · rw [if_neg h0] at h
    by_cases h1 : -(n : Int) ≤ i
    · rw [if_pos h1] at h
      have e : (i + n).toNat = j := Option.some.inj h
      exact ⟨by rw [seqIndex_neg (by omega) h1, e], by omega, h1, by omega⟩
    · rw [if_neg h1] at h; cases h
theorem atI_get {α : Type} {xs : List α} {i : Int} {v : α} (h : atI xs i = some v) : ∃ j, seqIndex? i xs.length = some j ∧ xs[j]? = some v ∧ j < xs.length ∧ -(xs.length : Int) ≤ i ∧ i < xs.length := by
  unfold atI at h
  cases e : ixN xs.length i with
  | none => rw [e] at h; cases h
  | some j =>
    rw [e] at h
    obtain ⟨h1, h2, h3, h4⟩ := ixN_seq e
    exact ⟨j, h1, h, h2, h3, h4⟩
theorem atI_nat {α : Type} {xs : List α} {j : Nat} {v : α} (h : xs[j]? = some v) : atI xs (j : Int) = some v := by
  have hj : j < xs.length := (List.getElem?_eq_some_iff.mp h).1
  have e : ixN xs.length (j : Int) = some j := by
    unfold ixN
    rw [if_pos (by omega), if_pos (by omega)]; simp
  unfold atI; rw [e]; exact h
def PlainIx (b : Expr) : Prop := ∀ o i, subscripted b false o i = operate [o, i] (getItem o i)
def IxR (X : Cx) (r : R2) : Prop :=
  ∀ (value slice : Expr) (pins : List (Addr × Obj)) (s : Shared) (σ : St) (H : Hp) (x y : V) (v u : Value) (Q : VK), Inv X pins σ H s → RelV x v → RelV y u → r x y H Q →
    subscripted slice false v u = operate [v, u] (getItem v u) → wpAny (model X.prog X.w) X.A (subscriptTail value slice v u) (EP X pins σ Q) X.xe s
def MtR (X : Cx) (id : String) (r : V → List V → Hp → VK → Prop) : Prop :=
  ∀ (pins : List (Addr × Obj)) (s : Shared) (σ : St) (H : Hp) (x : V) (xs : List V) (v : Value) (us : List Value) (Q : VK), Inv X pins σ H s → RelV x v → Vals xs us → r x xs H Q →
    wpAny (model X.prog X.w) X.A (call (.builtin id) (v :: us)) (EP X pins σ Q) X.xe s
section
variable {X : Cx} {a b : Expr} {ta tb : TE} {pos : Pos}
theorem pe_ix {r : R2} (hr : IxR X r) (ha : PE X a ta) (hb : PE X b tb) (hs : PlainIx b) : PE X (.Subscript a b pos) (tOp r ta tb) := by
  intro pins s σ H Q I h
  exact Subscript_ (binT ha hb I h fun v u s2 x y H2 I2 rx ry q => hr a b pins s2 σ H2 x y v u Q I2 rx ry q (hs _ _))
def rIxL (K : PySem.W.Frag) : R2 := fun x y H Q => ∃ p xs i v, x = .ref p ∧ y = .int i ∧ SqL K H p xs ∧ atI xs i = some v ∧ Q v H
def rIxT (K : PySem.W.Frag) : R2 := fun x y H Q => ∃ p xs i v, x = .ref p ∧ y = .int i ∧ SqT K H p xs ∧ atI xs i = some v ∧ Q v H
theorem ix_list : IxR X (rIxL X.K) := by
  intro value slice pins s σ H x y v u Q I rx ry h hs
  obtain ⟨p, xs, i, z, rfl, rfl, hq, he, q⟩ := h
  cases rx
  obtain ⟨t, rfl⟩ := ry
  obtain ⟨its, r, pl, hz⟩ := I.list hq
  obtain ⟨j, h1, h2, h3, h4, h5⟩ := atI_get he
  obtain ⟨w, ew, rw'⟩ := r.get h2
  have hl := r.length
  have hn := line63
  have fin : EP X pins σ Q w s := ⟨z, H, I, rw', q⟩
  by_cases h0 : 0 ≤ i
  · have hj : i.toNat = j := by
      rw [seqIndex_of h0 h5] at h1
      exact Option.some.inj h1
    exact item_listR pl.isList h0 (by omega) (by rw [hj]; simpa using ew) fin hs
  · have hj : (i + (its.toArray.size : Int)).toNat = j := by
      rw [seqIndex_neg (by omega) h4] at h1
      rw [List.size_toArray, ← hl]
      exact Option.some.inj h1
    exact subscriptTail_builtinR (x := w) pl.isList.typeIs slot_list_getitem.lookup
      (wpAny_getItem_list_neg (Q := fun r s' => r = w ∧ EP X pins σ Q r s') pl.isList (by omega) (by rw [List.size_toArray] <;> omega) (by omega) (by rw [hj]; simpa using ew) ⟨rfl, fin⟩) hs
theorem ix_tup : IxR X (rIxT X.K) := by
  intro value slice pins s σ H x y v u Q I rx ry h hs
  obtain ⟨p, xs, i, z, rfl, rfl, hq, he, q⟩ := h
  cases rx
  obtain ⟨t, rfl⟩ := ry
  obtain ⟨its, r, pl, hz⟩ := I.tuple hq
  obtain ⟨j, h1, h2, h3, h4, h5⟩ := atI_get he
  obtain ⟨w, ew, rw'⟩ := r.get h2
  have hl := r.length
  have hn := line63
  have fin : EP X pins σ Q w s := ⟨z, H, I, rw', q⟩
  exact subscriptTail_builtinR (x := w) pl.typeIs slot_tuple_getitem.lookup
    (getItem_tuple (j := j) (Q := fun r s' => r = w ∧ EP X pins σ Q r s') pl (by omega) (by omega) (by rw [List.size_toArray, ← hl]; exact h1) (by simpa using ew) ⟨rfl, fin⟩) hs
theorem mapSeq_set (its : List Value) (n j : Nat) (u : Value) : Obj.mapSeq (·.setIfInBounds j u) { cls := .type "list", data := .seq its.toArray n } = { cls := .type "list", data := .seq (its.set j u).toArray n } := by
  simp [Obj.mapSeq]
theorem Inv.lst {pins : List (Addr × Obj)} {σ : St} {H : Hp} {s : Shared} {p : Addr} {xs : List V} (I : Inv X pins σ H s) (h : H p = some (.lst xs)) :
    ∃ (its : List Value) (n : Nat), Vals xs its ∧ s.heap.get? p = some { cls := .type "list", data := .seq its.toArray n } ∧ xs.length ≤ sizeLine := by
  obtain ⟨z, its, n, r, e⟩ := I.hok p _ h
  exact ⟨its, n, r, e, z⟩
theorem Inv.lstUpd {pins : List (Addr × Obj)} {σ : St} {H : Hp} {s : Shared} {p : Addr} {xs ys : List V} {its its' : List Value} {n n' : Nat} {f : Obj → Obj} (I : Inv X pins σ H s) (h : H p = some (.lst xs))
    (ho : s.heap.get? p = some { cls := .type "list", data := .seq its.toArray n }) (hf : f { cls := .type "list", data := .seq its.toArray n } = { cls := .type "list", data := .seq its'.toArray n' }) (r : Vals ys its') (hz : ys.length ≤ sizeLine) (t : Nat) :
    Inv X pins σ (upd H p (.lst ys)) { s with heap := s.heap.update p f, toks := t } := by
  have e : (s.heap.update p f).get? p = some { cls := .type "list", data := .seq its'.toArray n' } := by
    rw [Heap.get?_update_self f ho (by rw [hf] <;> rfl), hf]
  refine I.write (x := p) (e := p) (by rw [h]; trivial) (.inl rfl) (fun b u hb q => (Heap.get?_update_other _ _ (Ne.symm hb)).trans q) ⟨_, e⟩ ?_
  exact ⟨hz, its', n', r, e⟩
def rSetL : V → V → V → Hp → (Hp → Prop) → Prop := fun o i v H Q => ∃ p xs k j, o = .ref p ∧ i = .int k ∧ H p = some (.lst xs) ∧ ixN xs.length k = some j ∧ Q (upd H p (.lst (xs.set j v)))
theorem set_list : PSet X rSetL := by
  intro pins s σ H o i v ov iv u Q I ro ri rv h
  obtain ⟨p, xs, k, j, rfl, rfl, hp, hj, q⟩ := h
  cases ro
  obtain ⟨t, rfl⟩ := ri
  obtain ⟨its, n, r, ho, hz⟩ := I.lst hp
  obtain ⟨h1, h2, h3, h4⟩ := ixN_seq hj
  have hl := r.length
  have hn := line63
  have I' : Inv X pins σ (upd H p (.lst (xs.set j v))) { s with heap := s.heap.update p (Obj.mapSeq (·.setIfInBounds j u)) } :=
    I.lstUpd hp ho (mapSeq_set its n j u) (r.set rv j) (by rw [List.length_set]; exact hz) s.toks
  by_cases h0 : 0 ≤ k
  · have hk : k.toNat = j := by
      rw [seqIndex_of h0 h4] at h1
      exact Option.some.inj h1
    exact PySem.W.ki_setAt ho h0 (by omega) (by rw [List.size_toArray, ← hl]; exact h4) (by rw [hk]; exact ⟨_, I', q⟩)
  · have hk : (k + (its.toArray.size : Int)).toNat = j := by
      rw [seqIndex_neg (by omega) h3] at h1
      rw [List.size_toArray, ← hl]
      exact Option.some.inj h1
    exact PySem.W.ki_setBack ho (by omega) (by rw [List.size_toArray, ← hl]; exact h3) (by omega) (by rw [hk]; exact ⟨_, I', q⟩)
theorem slice_bounds (lo hi : Option Int) (n : Nat) : (sliceBounds lo hi none n).1 = ((HT.sIx n 0 lo : Nat) : Int) ∧ (sliceBounds lo hi none n).2.1 = ((HT.sIx n n hi : Nat) : Int) ∧ (sliceBounds lo hi none n).2.2 = 1 := by
  refine ⟨?_, ?_, rfl⟩
  · cases lo with
    | none => simp [sliceBounds, HT.sIx]
    | some i =>
      simp only [sliceBounds, HT.sIx, Option.getD_none, show (1 : Int) > 0 by decide, if_true]
      by_cases h : i < 0
      · simp only [h, if_true] <;> omega
      · simp only [h, if_false] <;> omega
  · cases hi with
    | none => simp [sliceBounds, HT.sIx]
    | some i =>
      simp only [sliceBounds, HT.sIx, Option.getD_none, show (1 : Int) > 0 by decide, if_true]
      by_cases h : i < 0
      · simp only [h, if_true] <;> omega
      · simp only [h, if_false] <;> omega
theorem slicePick_cut (its : List Value) (lo hi : Option Int) : slicePick its.toArray lo hi none = ((its.drop (HT.sIx its.length 0 lo)).take (HT.sIx its.length its.length hi - HT.sIx its.length 0 lo)).toArray := by
  obtain ⟨h1, h2, h3⟩ := slice_bounds lo hi its.toArray.size
  unfold slicePick
  rw [h1, h2, h3]
  simp only [sliceRange_one, pick_run, List.size_toArray] <;> rfl
def rSlL (K : PySem.W.Frag) : V → Option Int → Option Int → Hp → VK → Prop := fun x lo hi H Q => ∃ a xs, x = .ref a ∧ SqL K H a xs ∧ ∀ p, H p = none → Q (.ref p) (upd H p (.lst (cutV xs lo hi)))
theorem sl_list : SlR X (rSlL X.K) := by
  intro pins s σ H x v vl vu lo hi sl Q I rx hs pl pu h
  obtain ⟨a, xs, rfl, hx, q⟩ := h
  cases rx
  obtain ⟨its, r, ht, hz⟩ := I.list hx
  have hlen := r.length
  refine ⟨"list", _, slot_list_getitem.lookup, ht.isList.typeIs, ?_⟩
  refine wpAny_getItem_list_slice ht.isList hs pl pu .none (by simp) ?_ (by rw [List.size_toArray] <;> omega)
  rw [slicePick_cut, ← hlen]
  refine ⟨.ref s.heap.objs.size, _, I.laid (t' := s.toks) (o := .lst (cutV xs lo hi)) (fun b ob q => Heap.get?_push_of_some _ q) (Nat.le_refl _) ?_, rfl, q _ (I.hok.fresh (Nat.le_refl _))⟩
  exact ⟨Nat.le_trans (cutV_length xs lo hi) hz, _, 0, (r.drop (HT.sIx xs.length 0 lo)).take (HT.sIx xs.length xs.length hi - HT.sIx xs.length 0 lo), Heap.get?_push_size _ rfl⟩
def flatV : V → Bool
  | .non => true
  | .bl _ => true
  | .int _ => true
  | .str _ => true
  | _ => false
def eqV : V → V → Bool
  | .non, .non => true
  | .bl a, .bl b => a == b
  | .bl a, .int b => (if a then 1 else 0) == b
  | .int a, .bl b => a == (if b then 1 else 0)
  | .int a, .int b => a == b
  | .str a, .str b => a == b
  | _, _ => false
theorem eqAt_V {A : Around} {s : Shared} {y x : V} {u v : Value} (ry : RelV y u) (rx : RelV x v) (fy : flatV y = true) (fx : flatV x = true) : SeqAt.EqAt A s u v (eqV y x) := by
  cases y with
  | non =>
    cases ry
    cases x with
    | non => cases rx; exact SeqAt.EqAt.same _
    | bl b => cases rx; exact SeqAt.EqAt.none_bool b
    | int b => obtain ⟨t, rfl⟩ := rx; exact SeqAt.EqAt.none_int b t
    | str b => obtain ⟨t, rfl⟩ := rx; exact SeqAt.EqAt.none_str b t
    | _ => exact absurd (show false = true from fx) Bool.false_ne_true
  | bl a =>
    cases ry
    cases x with
    | non => cases rx; exact SeqAt.EqAt.bool_none a
    | bl b => cases rx; exact SeqAt.EqAt.bool_bool a b
    | int b => obtain ⟨t, rfl⟩ := rx; exact SeqAt.EqAt.bool_int a b t
    | str b => obtain ⟨t, rfl⟩ := rx; exact SeqAt.EqAt.bool_str a b t
    | _ => exact absurd (show false = true from fx) Bool.false_ne_true
  | int a =>
    obtain ⟨t', rfl⟩ := ry
    cases x with
    | non => cases rx; exact SeqAt.EqAt.int_none a t'
    | bl b => cases rx; exact SeqAt.EqAt.int_bool a t' b
    | int b => obtain ⟨t, rfl⟩ := rx; exact SeqAt.EqAt.int_int a t' b t
    | str b => obtain ⟨t, rfl⟩ := rx; exact SeqAt.EqAt.int_str a t' b t
    | _ => exact absurd (show false = true from fx) Bool.false_ne_true
  | str a =>
    obtain ⟨t', rfl⟩ := ry
    cases x with
    | non => cases rx; exact SeqAt.EqAt.str_none a t'
    | bl b => cases rx; exact SeqAt.EqAt.str_bool a t' b
    | int b => obtain ⟨t, rfl⟩ := rx; exact SeqAt.EqAt.str_int a t' b t
    | str b => obtain ⟨t, rfl⟩ := rx; exact SeqAt.EqAt.str_str a t' b t
    | _ => exact absurd (show false = true from fx) Bool.false_ne_true
  | _ => exact absurd (show false = true from fy) Bool.false_ne_true
def eqU (x : V) (u : Value) : Bool := match u with
  | .none => eqV .non x
  | .bool b => eqV (.bl b) x
  | .int i _ => eqV (.int i) x
  | .str z _ => eqV (.str z) x
  | _ => false
theorem eqU_of {x y : V} {u : Value} (r : RelV y u) (f : flatV y = true) : eqU x u = eqV y x := by
  cases y with
  | non => cases r; rfl
  | bl b => cases r; rfl
  | int i => obtain ⟨t, rfl⟩ := r; rfl
  | str z => obtain ⟨t, rfl⟩ := r; rfl
  | _ => exact absurd (show false = true from f) Bool.false_ne_true
theorem any_eqU {x : V} : ∀ {xs : List V} {us : List Value}, Vals xs us → xs.all flatV = true → us.any (eqU x) = xs.any fun y => eqV y x
  | _, _, .nil, _ => rfl
  | y :: xs, u :: us, .cons r t, f => by
    rw [List.all_cons, Bool.and_eq_true] at f
    rw [List.any_cons, List.any_cons, eqU_of r f.1, any_eqU t f.2]
theorem mem_eqAt {A : Around} {s : Shared} {x : V} {v : Value} (rx : RelV x v) (fx : flatV x = true) : ∀ {xs : List V} {us : List Value}, Vals xs us → xs.all flatV = true → ∀ u ∈ us, SeqAt.EqAt A s u v (eqU x u)
  | _, _, .nil, _ => fun u hu => by cases hu
  | y :: xs, u :: us, .cons r t, f => fun u' hu => by
    rw [List.all_cons, Bool.and_eq_true] at f
    rcases List.mem_cons.mp hu with rfl | hu
    · rw [eqU_of r f.1]; exact eqAt_V r rx f.1 fx
    · exact mem_eqAt rx fx t f.2 u' hu
def inV (x : V) (xs : List V) : Bool := xs.any fun y => eqV y x
def rIn (K : PySem.W.Frag) (neg : Bool) : R2 := fun x y H Q => ∃ p xs, y = .ref p ∧ (SqL K H p xs ∨ SqT K H p xs) ∧ flatV x = true ∧ xs.all flatV = true ∧ Q (.bl (if neg then !inV x xs else inV x xs)) H
theorem op_in_seq : OpR X (compareOp .In) (rIn X.K false) := by
  intro pins s σ H x y v u Q I rx ry h
  obtain ⟨p, xs, rfl, hq, fx, fs, q⟩ := h
  cases ry
  rcases hq with hq | hq
  · obtain ⟨its, r, pl, hz⟩ := I.list hq
    refine SeqAt.in_listAt (eqU x) pl.isList (fun w hw => mem_eqAt rx fx r fs w (by simpa using hw)) ⟨.bl _, H, I, rfl, ?_⟩
    rw [show its.toArray.any (eqU x) = its.any (eqU x) by simp, any_eqU r fs]
    exact q
  · obtain ⟨its, r, pl, hz⟩ := I.tuple hq
    refine SeqAt.in_tupleAt (eqU x) pl (fun w hw => mem_eqAt rx fx r fs w (by simpa using hw)) ⟨.bl _, H, I, rfl, ?_⟩
    rw [show its.toArray.any (eqU x) = its.any (eqU x) by simp, any_eqU r fs]
    exact q
theorem op_notIn_seq : OpR X (compareOp .NotIn) (rIn X.K true) := by
  intro pins s σ H x y v u Q I rx ry h
  obtain ⟨p, xs, rfl, hq, fx, fs, q⟩ := h
  cases ry
  rcases hq with hq | hq
  · obtain ⟨its, r, pl, hz⟩ := I.list hq
    refine SeqAt.notIn_listAt (eqU x) pl.isList (fun w hw => mem_eqAt rx fx r fs w (by simpa using hw)) ⟨.bl _, H, I, rfl, ?_⟩
    rw [show its.toArray.any (eqU x) = its.any (eqU x) by simp, any_eqU r fs]
    exact q
  · obtain ⟨its, r, pl, hz⟩ := I.tuple hq
    refine SeqAt.notIn_tupleAt (eqU x) pl (fun w hw => mem_eqAt rx fx r fs w (by simpa using hw)) ⟨.bl _, H, I, rfl, ?_⟩
    rw [show its.toArray.any (eqU x) = its.any (eqU x) by simp, any_eqU r fs]
    exact q
theorem call_len_seq : CallR X (.builtin "len") (fun xs H Q => ∃ p ys, xs = [.ref p] ∧ (SqL X.K H p ys ∨ SqT X.K H p ys) ∧ Q (.int ys.length) H) := by
  intro pins s σ H xs us Q I r h
  obtain ⟨p, ys, rfl, hq, q⟩ := h
  obtain ⟨u, rfl, rx⟩ := vals1 r
  cases rx
  have hn := line63
  rcases hq with hq | hq
  · obtain ⟨its, r', pl, hz⟩ := I.list hq
    have hlen := r'.length
    exact Calls.call_len_list pl.isList (by simp only [List.size_toArray] <;> omega) ⟨.int ys.length, H, I.tok _, ⟨s.toks + 1, by rw [List.size_toArray, hlen]⟩, q⟩
  · obtain ⟨its, r', pl, hz⟩ := I.tuple hq
    have hlen := r'.length
    exact len_tuple pl (by simp only [List.size_toArray] <;> omega) ⟨.int ys.length, H, I.tok _, ⟨s.toks + 1, by rw [List.size_toArray, hlen]⟩, q⟩
def tyV (K : PySem.W.Frag) (T : String) (x : V) (H : Hp) : Prop := match x with
  | .str _ => T = "str"
  | .int _ => T = "int"
  | .ref p => (T = "list" ∧ ∃ xs, SqL K H p xs) ∨ (T = "tuple" ∧ ∃ o, K.lookup p = some o ∧ o.cls = .type "tuple" ∧ o.dict = none) ∨
      (T = "dict" ∧ ((∃ kvs, H p = some (.dK kvs)) ∨ ∃ kvs, H p = some (.dT kvs))) ∨ (T = "set" ∧ ∃ S n, H p = some (.set S n))
  | _ => False
theorem tyV_is {pins : List (Addr × Obj)} {σ : St} {H : Hp} {s : Shared} {T : String} {x : V} {v : Value} (I : Inv X pins σ H s) (r : RelV x v) (ty : tyV X.K T x H) :
    s.TypeIs v T ∧ ∀ a, v = .ref a → ∃ ob, s.heap.get? a = some ob ∧ ob.dict = none := by
  cases x with
  | str z =>
    obtain ⟨t, rfl⟩ := r
    cases (show T = "str" from ty)
    exact ⟨typeIs_str s z t, fun _ e => nomatch e⟩
  | int i =>
    obtain ⟨t, rfl⟩ := r
    cases (show T = "int" from ty)
    exact ⟨typeIs_int s i t, fun _ e => nomatch e⟩
  | ref p =>
    cases r
    rcases ty with ⟨rfl, xs, hq⟩ | ⟨rfl, o, hk, hc, hd⟩ | ⟨rfl, hk⟩ | ⟨rfl, S, n, hk⟩
    · obtain ⟨its, _, pl, _⟩ := I.list hq
      refine ⟨pl.isList.typeIs, fun a e => ?_⟩
      cases e
      obtain ⟨o, n, e, c, hd, _⟩ := pl
      exact ⟨o, e, hd⟩
    · refine ⟨⟨o, I.kIn p o hk, hc⟩, fun a e => ?_⟩
      cases e
      exact ⟨o, I.kIn _ o hk, hd⟩
    · have z : ∃ o, s.heap.get? p = some o ∧ o.ExactDict := by
        rcases hk with ⟨kvs, hk⟩ | ⟨kvs, hk⟩
        · obtain ⟨_, _, _, _, o, _, _, e, ex, _⟩ := I.hok p _ hk
          exact ⟨o, e, ex⟩
        · obtain ⟨_, _, _, _, o, _, _, e, ex, _⟩ := I.hok p _ hk
          exact ⟨o, e, ex⟩
      obtain ⟨o, e, ex⟩ := z
      refine ⟨⟨o, e, ex.1⟩, fun a e2 => ?_⟩
      cases e2
      exact ⟨o, e, ex.2.1⟩
    · obtain ⟨o, _, _, _, e, ex, _⟩ := I.hok p _ hk
      refine ⟨⟨o, e, ex.1⟩, fun a e2 => ?_⟩
      cases e2
      exact ⟨o, e, ex.2.1⟩
  | _ => exact False.elim ty
def tBM (K : PySem.W.Frag) (T : String) (r : V → List V → Hp → VK → Prop) (to : TE) (t : TA) : TE := fun σ H Q => to σ H fun x H1 => tyV K T x H1 ∧ t σ H1 fun xs H2 => r x xs H2 Q
variable {o e : Expr} {es : List Expr} {to : TE} {t : TA} {name : Str} {apos cpos : Pos} {T id : String} {r : V → List V → Hp → VK → Prop}
theorem pe_bm (pa : PlainAttrs T) (slot : Slot T name id) (hty : typeOf (.builtin id) = pure (.type "method_descriptor")) (hm : MtR X id r) (ho : PE X o to) (ha : PA X (e :: es) t)
    (hbase : attributeBase o name X.env (eval o X.env) = eval o X.env := by rfl)
    (hfew : ((backTo cpos (starEach (e :: es) X.env)).all (fun x => !x.1) && (backToKw cpos (keywordEach [] X.env)).all (fun x => x.1.isSome)
      && decide ((e :: es).length + ([] : List Keyword).length + (if ([] : List Keyword).isEmpty then 0 else 1) < 30)) = true := by rfl)
    (hline : (apos.endLine == cpos.line) = true := by rfl) (hs : starEach (e :: es) X.env = (false, eval e X.env) :: starEach es X.env := by rfl) (hplain : (backTo cpos (starEach es X.env)).any (·.1) = false := by rfl) :
    PE X (.Call (.Attribute o name apos) (e :: es) [] cpos) (tBM X.K T r to t) := by
  intro pins s σ H Q I h
  refine wpAny_Call_method_late hbase hfew hline rfl (thn (ho pins s σ H _ I h) fun v s1 zz => ?_)
  obtain ⟨x, H1, I1, r1, ty, q1⟩ := zz
  obtain ⟨h1, h2⟩ := tyV_is I1 r1 ty
  refine ⟨T, id, pa, slot, hty, h1, h2, ?_⟩
  have hA := ha cpos pins s1 σ H1 _ I1 q1
  rw [hs] at hA ⊢
  refine Calls.callWith_builtin (by show (false || (backTo cpos (starEach es X.env)).any (·.1)) = false; rw [hplain] <;> rfl) (Calls.evalArgs_plain ?_)
  exact thn hA fun us s2 ⟨vs, H2, I2, r2, q2⟩ => hm pins s2 σ H2 x vs v us Q I2 r1 r2 q2
end
end L2
namespace L2
open PySem PySem.Spec PyProof.Rows
def MtM (X : Cx) (id : String) (r : V → List V → Hp → VK → Prop) : Prop :=
  ∀ (pins : List (Addr × Obj)) (s : Shared) (σ : St) (H : Hp) (x : V) (xs : List V) (v : Value) (us : List Value) (Q : VK), Inv X pins σ H s → RelV x v → Vals xs us → r x xs H Q →
    wpAny (model X.prog X.w) X.A (call (.builtin id) (v :: us)) (EP X pins σ Q) X.xe s
theorem Vals.one : ∀ {x : V} {us : List Value}, Vals [x] us → ∃ u, us = [u] ∧ RelV x u
  | _, _, .cons r .nil => ⟨_, rfl, r⟩
theorem Vals.two : ∀ {x y : V} {us : List Value}, Vals [x, y] us → ∃ u v, us = [u, v] ∧ RelV x u ∧ RelV y v
  | _, _, _, .cons r (.cons q .nil) => ⟨_, _, rfl, r, q⟩
section
variable {X : Cx} {pins : List (Addr × Obj)} {σ : St} {H : Hp} {s : Shared} {l b : Addr} {xs ys zs : List V}
theorem Inv.lset {its its' : List Value} {n : Nat} {f : Array Value → Array Value} {t' : Nat} (I : Inv X pins σ H s) (hH : H l = some (.lst xs))
    (e : s.heap.get? l = some { cls := .type "list", data := .seq its.toArray n }) (hf : f its.toArray = its'.toArray) (hv : Vals ys its') (hz : ys.length ≤ sizeLine) :
    Inv X pins σ (upd H l (.lst ys)) { s with heap := s.heap.update l (Obj.mapSeq f), toks := t' } := by
  have q := PySem.IsL.update e f
  rw [hf] at q
  refine I.write (x := l) (e := l) (by rw [hH]; exact trivial) (.inl rfl) (fun b' u hb hu => (Heap.get?_update_other s.heap (Obj.mapSeq f) (Ne.symm hb)).trans hu) ⟨_, q⟩ ?_
  exact ⟨hz, its', _, hv, q⟩
theorem Inv.lnew {its : List Value} {t' : Nat} (I : Inv X pins σ H s) (hv : Vals ys its) (hz : ys.length ≤ sizeLine) :
    Inv X pins σ (upd H s.heap.objs.size (.lst ys)) { s with heap := s.heap.push { cls := .type "list", data := .seq its.toArray }, toks := t' } :=
  I.laid (fun _ _ q => Heap.get?_push_of_some _ q) (Nat.le_refl _) ⟨hz, its, 0, hv, Heap.get?_push_size _ rfl⟩
theorem Inv.fresh (I : Inv X pins σ H s) : H s.heap.objs.size = none := I.hok.fresh (Nat.le_refl _)
theorem Inv.lstM (I : Inv X pins σ H s) (hH : H l = some (.lst xs)) : xs.length ≤ sizeLine ∧ ∃ (its : List Value) (n : Nat), Vals xs its ∧ xs.length = its.length ∧ s.heap.get? l = some { cls := .type "list", data := .seq its.toArray n } := by
  obtain ⟨z, its, n, r, e⟩ := I.hok l _ hH
  exact ⟨z, its, n, r, r.length, e⟩
theorem notLongL {n : Nat} (h : n ≤ sizeLine) : Builtin.List.listTooLong n = false := by
  unfold Builtin.List.listTooLong
  exact decide_eq_false (by omega)
end
section
variable {X : Cx}
def rAppend : V → List V → Hp → VK → Prop := fun x vs H Q => ∃ l xs y, x = .ref l ∧ vs = [y] ∧ H l = some (.lst xs) ∧ xs.length < sizeLine ∧ Q .non (upd H l (.lst (xs ++ [y])))
theorem mt_append : MtM X "list.append" rAppend := by
  intro pins s σ H x vs v us Q I rx rv h
  obtain ⟨l, xs, y, rfl, rfl, hH, hz, q⟩ := h
  cases rx
  obtain ⟨u, rfl, ru⟩ := rv.one
  obtain ⟨z, its, n, r, hl, e⟩ := I.lstM hH
  refine call_meets F.slot_list_append ⟨_, e, rfl⟩ F.entry_list_append (F.args_list_append_2 _ _) (PySem.list_append l its.toArray n u (by rw [List.size_toArray]; omega)) ⟨e, ?_⟩
  refine ⟨.non, _, I.lset (its' := its ++ [u]) hH e (by simp) (r.append (.cons ru .nil)) ?_, rfl, q⟩
  rw [List.length_append, List.length_singleton]
  omega
def rExtend : V → List V → Hp → VK → Prop := fun x vs H Q => ∃ l b xs zs, x = .ref l ∧ vs = [.ref b] ∧ H l = some (.lst xs) ∧ H b = some (.lst zs) ∧ xs.length + zs.length ≤ sizeLine ∧ Q .non (upd H l (.lst (xs ++ zs)))
theorem mt_extend : MtM X "list.extend" rExtend := by
  intro pins s σ H x vs v us Q I rx rv h
  obtain ⟨l, b, xs, zs, rfl, rfl, hH, hB, hz, q⟩ := h
  cases rx
  obtain ⟨u, rfl, ru⟩ := rv.one
  cases ru
  obtain ⟨z, its, n, r, hl, e⟩ := I.lstM hH
  obtain ⟨z2, its2, n2, r2, hl2, e2⟩ := I.lstM hB
  have hsz : its.toArray.size + its2.toArray.size ≤ sizeLine := by rw [List.size_toArray, List.size_toArray]; omega
  have hlong : ¬ (!its.toArray.isEmpty && Builtin.List.listTooLong (its.toArray.size + its2.toArray.size)) = true := by
    rw [notLongL hsz, Bool.and_false]
    exact Bool.false_ne_true
  refine call_meets F.slot_list_extend ⟨_, e, rfl⟩ F.entry_list_extend (F.args_list_extend_2 _ _)
    (AutoSeq1.list_extend_list_list_0 l its.toArray n b its2.toArray n2 hlong (by rw [List.size_toArray]; omega) (by omega)) ⟨e, e2, ?_⟩
  refine ⟨.non, _, I.lset (its' := its ++ its2) hH e (by simp) (r.append r2) ?_, rfl, q⟩
  rw [List.length_append]
  omega
def rCat : R2 := fun x y H Q => ∃ l b xs zs, x = .ref l ∧ y = .ref b ∧ H l = some (.lst xs) ∧ H b = some (.lst zs) ∧ xs.length + zs.length ≤ sizeLine ∧ ∀ p, H p = none → Q (.ref p) (upd H p (.lst (xs ++ zs)))
theorem op_cat : OpR X (binaryOp .Add) rCat := by
  intro pins s σ H x y v u Q I rx ry h
  obtain ⟨l, b, xs, zs, rfl, rfl, hH, hB, hz, q⟩ := h
  cases rx
  cases ry
  obtain ⟨z, its, n, r, hl, e⟩ := I.lstM hH
  obtain ⟨z2, its2, n2, r2, hl2, e2⟩ := I.lstM hB
  refine PySem.P.add_list e e2 ?_ (by rw [List.size_toArray, List.size_toArray]; omega)
  have ea : its.toArray ++ its2.toArray = (its ++ its2).toArray := by simp
  rw [ea]
  exact ⟨.ref _, _, I.lnew (t' := s.toks) (r.append r2) (by rw [List.length_append]; omega), rfl, q _ I.fresh⟩
end
section
variable {prog : Program} {w : World} {A : Around} {E : Value → Shared → Prop} {s : Shared}
set_option maxRecDepth 100000 in
end
section
variable {X : Cx}
end
end L2
namespace L2
open PySem PySem.Spec PyProof.Rows
theorem Vals.ints : ∀ {ns : List Int} {us : List Value}, Vals (ns.map V.int) us → IntsAre us ns
  | [], us, h => by
    rw [List.map_nil] at h
    cases h
    exact IntsAre.nil
  | n :: ns, us, h => by
    rw [List.map_cons] at h
    cases h with
    | cons r t =>
      obtain ⟨k, rfl⟩ := r
      exact IntsAre.cons n k (Vals.ints t)
theorem vals_of_ints : ∀ {us : List Value} {ns : List Int}, IntsAre us ns → Vals (ns.map V.int) us
  | _, _, .nil => by rw [List.map_nil]; exact Paired.nil
  | _, _, .cons n t h => by rw [List.map_cons]; exact Paired.cons (show RelV (V.int n) (Value.int n t) from ⟨t, rfl⟩) (vals_of_ints h)
theorem Vals.bls : ∀ {bs : List Bool} {us : List Value}, Vals (bs.map V.bl) us → us = bs.map Value.bool
  | [], us, h => by
    rw [List.map_nil] at h
    cases h
    rfl
  | b :: bs, us, h => by
    rw [List.map_cons] at h
    cases h with
    | cons r t =>
      cases r
      rw [Vals.bls t, List.map_cons]
theorem Vals.ref1 {a : Addr} {us : List Value} (r : Vals [V.ref a] us) : us = [Value.ref a] := by
  cases r with
  | cons r t =>
    cases t
    cases r
    rfl
section
variable {prog : Program} {w : World} {A : Around} {E : Value → Shared → Prop} {s : Shared} {l : Addr} {its : List Value} {ns : List Int} {Q : Value → Shared → Prop}
theorem sum_raw (hh : A.handled = none) (hl : s.heap.IsList l its.toArray) (hi : IntsAre its ns)
    (h : ∀ h' tk t', (∀ b o, s.heap.get? b = some o → h'.get? b = some o) → Q (.int ns.sum t') { s with heap := h', toks := tk }) : wpAny (model prog w) A (call (.builtin "sum") [.ref l]) Q E s := by
  obtain ⟨xs, e⟩ := hi.allInts.items
  have hn : numsOf (intItems xs).toList = ns := by rw [← e]; exact hi.numsOf
  rw [nums_intItems] at hn
  rw [e] at hl
  refine PySem.sum_intListG hh hl fun h' tk t' hk => ?_
  have := h h' tk t' hk
  rw [preSum_eq, List.take_of_length_le (by simp), hn]; exact this
end
section
variable {X : Cx}
def rSum (K : PySem.W.Frag) : List V → Hp → VK → Prop := fun vs H Q => ∃ (a : Addr) (ns : List Int), vs = [V.ref a] ∧ SqL K H a (ns.map V.int) ∧ Q (.int ns.sum) H
theorem cr_sum (hc : X.calm = true) : CallR X (.builtin "sum") (rSum X.K) := by
  intro pins s σ H vs us Q I r h
  obtain ⟨a, ns, rfl, hs, q⟩ := h
  obtain ⟨its, rv, hl, _⟩ := I.list hs
  rw [Vals.ref1 r]
  exact sum_raw (I.ok.hd hc) hl.isList rv.ints fun h' tk t' hk => ⟨.int _, H, I.kept hk, ⟨_, rfl⟩, q⟩
end
section
variable {X : Cx}
def rIndex (K : PySem.W.Frag) : V → List V → Hp → VK → Prop := fun x xs H Q => ∃ (a : Addr) (ys : List V) (y : V) (j : Nat) (z : V), x = V.ref a ∧ xs = [y] ∧ SqL K H a ys ∧ flatV y = true ∧ ys.all flatV = true ∧ ys[j]? = some z ∧ eqV z y = true ∧
  (∀ (m : Nat) (z' : V), m < j → ys[m]? = some z' → eqV z' y = false) ∧ Q (.int (j : Nat)) H
theorem flat_at {ys : List V} (f : ys.all flatV = true) {j : Nat} {z : V} (h : ys[j]? = some z) : flatV z = true := List.all_eq_true.mp f z (List.mem_of_getElem? h)
theorem mt_index : MtR X "list.index" (rIndex X.K) := by
  intro pins s σ H x xs v us Q I rx rxs h
  obtain ⟨a, ys, y, j, z, rfl, rfl, hs, fy, fys, hz, hzj, hno, q⟩ := h
  cases rx
  cases rxs with
  | cons ry rt =>
    rename_i uy ut
    cases rt
    obtain ⟨its, rv, ⟨⟨cls, dd, data, sl⟩, n, ho, hc, hdn, hd⟩, hlen⟩ := I.list hs
    simp only at hc hd
    subst hc hd
    obtain ⟨u, hu, ru⟩ := rv.get hz
    obtain ⟨hjl, hje⟩ := List.getElem?_eq_some_iff.mp hu
    have hvl := rv.length
    have hj : j < its.toArray.size := by simpa using hjl
    have hsl := sizeLine_eq
    refine call_meets PySem.F.slot_list_index ⟨_, ho, rfl⟩ PySem.F.entry_list_index (PySem.F.args_list_index_2 _ _)
      (SeqAt.list_indexAt a its.toArray n dd sl uy (eqU y) j hj (by omega) ?_ ?_) ⟨ho, fun u' hu' => mem_eqAt ry fy rv fys u' (by simpa using hu'), ?_⟩
    · have e1 : its.toArray[j] = u := by simpa using hje
      rw [e1, eqU_of ru (flat_at fys hz)]
      exact hzj
    · intro m hm hmj
      have hml : m < its.length := by simpa using hm
      have hmy : m < ys.length := by omega
      have hy' : ys[m]? = some ys[m] := List.getElem?_eq_getElem hmy
      obtain ⟨u2, hu2, ru2⟩ := rv.get hy'
      obtain ⟨_, hme⟩ := List.getElem?_eq_some_iff.mp hu2
      have e1 : its.toArray[m] = u2 := by simpa using hme
      rw [e1, eqU_of ru2 (flat_at fys hy')]
      exact hno m _ hmj hy'
    · exact ⟨.int (j : Nat), H, I.tok _, ⟨_, rfl⟩, q⟩
end
section
variable {X : Cx}
end
theorem iter_any {prog : Program} {w : World} {A : Around} {E : Value → Shared → Prop} {s : Shared} {l : Addr} {items : Array Value} {Q : Value → Shared → Prop} (hl : s.heap.IsList l items)
    (h : ∀ s₂ : Shared, s₂ = { s with heap := s.heap.push { cls := .type "list_iterator", data := .fields #[.ref l, .int 0 0] } } →
      (s₂.heap.IsListIter s.heap.objs.size l 0 ∧ s₂.heap.IsList l items) → l ≠ s.heap.objs.size → Q (.ref s.heap.objs.size) s₂) : wpAny (model prog w) A (pyIter (.ref l)) Q E s := by
  have hlt : l < s.heap.objs.size := by obtain ⟨_, e, _⟩ := hl; exact Heap.lt_size e
  exact wpAny_pyIter_list hl (h _ rfl ⟨⟨_, Heap.get?_push_size _ rfl, rfl, rfl⟩, hl.push _⟩ (Nat.ne_of_lt hlt))
theorem truth_bools {prog : Program} {w : World} {A : Around} {bs : List Bool} {its : List Value} (e : its = bs.map Value.bool) :
    TruthOf prog w A (fun i v => its.toArray[i]? = some v) (fun i => bs.getD i false) := fun i v s Q E hv hq => by
  have hv' : its[i]? = some v := by simpa using hv
  rw [e, List.getElem?_map] at hv'
  obtain ⟨b, hb, rfl⟩ := Option.map_eq_some_iff.mp hv'
  have hg : bs.getD i false = b := by rw [List.getD_eq_getElem?_getD, hb] <;> rfl
  have hq' : Q (bs.getD i false) s := hq
  rw [hg] at hq'
  exact wpAny_truthy_bool hq'
theorem any_range : ∀ bs : List Bool, (List.range bs.length).any (fun i => bs.getD i false) = bs.any id
  | [] => rfl
  | b :: bs => by
    rw [List.length_cons, List.range_succ_eq_map, List.any_cons, List.any_map, List.any_cons, ← any_range bs]
    all_goals rfl
theorem all_range : ∀ bs : List Bool, (List.range bs.length).all (fun i => bs.getD i false) = bs.all id
  | [] => rfl
  | b :: bs => by
    rw [List.length_cons, List.range_succ_eq_map, List.all_cons, List.all_map, List.all_cons, ← all_range bs]
    all_goals rfl
section
variable {X : Cx}
def rAll (K : PySem.W.Frag) : List V → Hp → VK → Prop := fun vs H Q => ∃ (a : Addr) (bs : List Bool), vs = [V.ref a] ∧ SqL K H a (bs.map V.bl) ∧ Q (.bl (bs.all id)) H
theorem cr_all (hc : X.calm = true) : CallR X (.builtin "all") (rAll X.K) := by
  intro pins s σ H vs us Q I r h
  obtain ⟨a, bs, rfl, hs, q⟩ := h
  obtain ⟨its, rv, hl, _⟩ := I.list hs
  rw [Vals.ref1 r]
  have hb := rv.bls
  refine call_all_walk (iter_any hl.isList fun s₂ e2 st hne => ?_)
  subst e2
  refine ⟨_, _, _, _, _, _, _, rfl, Walks.list (A := X.A.in1) (I.ok.hd hc) _ a hne its.toArray, st, truth_bools hb, fun h' tk hk => ?_⟩
  refine ⟨.bl _, H, I.kept fun b o eo => hk b o (fun hmem => ?_) (Heap.get?_push_of_some _ eo), ?_, q⟩
  · rcases List.mem_cons.mp hmem with e1 | hmem
    · exact absurd (e1 ▸ Heap.lt_size eo) (Nat.lt_irrefl _)
    · cases hmem
  · show Value.bool _ = Value.bool _
    rw [← all_range, hb, List.size_toArray, List.length_map]
end
section
variable {X : Cx} {pins : List (Addr × Obj)} {σ : St} {H : Hp} {s : Shared}
end
section
variable {X : Cx}
end
end L2
namespace L2
open PySem PySem.Spec PyProof.Rows
abbrev CellAt (h : Heap) (c : Addr) (v : Option Value) : Prop := h.IsCell c v
def relS (scope sc : Scope) : Scope :=
  { scope with names := scope.names.map fun (n, k) => if (k == .free && sc.kind == .function && sc.names.lookup n == some .cell) then (n, .cell) else (n, k) }
def cloFrom (cells : List (Str × Addr)) : List (Str × NameKind) → List (Str × Addr) → List (Str × Addr)
  | [], acc => acc
  | (n, k) :: r, acc => if k == .free then cloFrom cells r ((n, (cells.lookup n).getD 0) :: acc) else cloFrom cells r acc
theorem closure_loop (env : Env) (f : Str × NameKind → List (Str × Addr) → Sem (ForInStep (List (Str × Addr))))
    (hf : ∀ n k c, f (n, k) c = if k == .free then (do let a ← cellOf env n; pure (.yield ((n, a) :: c))) else pure (.yield c)) :
    ∀ (names : List (Str × NameKind)) (acc : List (Str × Addr)), (∀ y ∈ names, y.2 = .free → ∃ c, env.cells.lookup y.1 = some c) → forIn names acc f = pure (cloFrom env.cells names acc)
  | [], acc, _ => by rw [List.forIn_nil]; rfl
  | (n, k) :: r, acc, h => by
    rw [List.forIn_cons, hf]
    have ih := fun acc => closure_loop env f hf r acc fun y hy => h y (List.mem_cons_of_mem _ hy)
    unfold cloFrom
    by_cases hk : (k == NameKind.free) = true
    · rw [if_pos hk, if_pos hk]
      obtain ⟨c, hc⟩ := h (n, k) List.mem_cons_self (by simpa using hk)
      have e : cellOf env n = pure c := by unfold cellOf; rw [hc]
      rw [e]
      have e2 : (env.cells.lookup n).getD 0 = c := by rw [hc]; rfl
      rw [e2]
      exact ih _
    · rw [if_neg hk, if_neg hk]
      exact ih _
theorem closure_ok {scope : Scope} {env : Env} (h : ∀ y ∈ scope.names, y.2 = .free → ∃ c, env.cells.lookup y.1 = some c) : closureFor scope env = pure (cloFrom env.cells scope.names []) := by
  simp only [closureFor]
  rw [closure_loop env _ (fun n k c => rfl) scope.names [] h]
  rfl
theorem mem_lookup {α : Type} : ∀ {l : List (Str × α)} {n : Str} {c : α}, (n, c) ∈ l → ∃ c', l.lookup n = some c'
  | (k, v) :: r, n, c, h => by
    rw [List.lookup_cons]
    cases hb : n == k with
    | true => exact ⟨_, rfl⟩
    | false =>
      rcases List.mem_cons.mp h with e | h
      · cases e; simp at hb
      · exact mem_lookup h
theorem cloFrom_mem {cells : List (Str × Addr)} : ∀ {names : List (Str × NameKind)} {acc : List (Str × Addr)} {n : Str} {c : Addr}, (n, c) ∈ cloFrom cells names acc → (n, c) ∈ acc ∨ ((n, .free) ∈ names ∧ c = (cells.lookup n).getD 0)
  | [], _, _, _, h => .inl h
  | (m, k) :: r, acc, n, c, h => by
    unfold cloFrom at h
    split at h
    · rename_i hk
      have hk : k = .free := by simpa using hk
      rcases cloFrom_mem h with h | ⟨h1, h2⟩
      · rcases List.mem_cons.mp h with e | h
        · cases e; exact .inr ⟨hk ▸ List.mem_cons_self, rfl⟩
        · exact .inl h
      · exact .inr ⟨List.mem_cons_of_mem _ h1, h2⟩
    · rcases cloFrom_mem h with h | ⟨h1, h2⟩
      · exact .inl h
      · exact .inr ⟨List.mem_cons_of_mem _ h1, h2⟩
theorem cloFrom_acc {cells : List (Str × Addr)} : ∀ {names : List (Str × NameKind)} {acc : List (Str × Addr)} {p : Str × Addr}, p ∈ acc → p ∈ cloFrom cells names acc
  | [], _, _, h => h
  | (m, k) :: r, acc, p, h => by
    unfold cloFrom
    split
    · exact cloFrom_acc (List.mem_cons_of_mem _ h)
    · exact cloFrom_acc h
theorem cloFrom_has {cells : List (Str × Addr)} : ∀ {names : List (Str × NameKind)} {acc : List (Str × Addr)} {n : Str}, (n, .free) ∈ names → (n, (cells.lookup n).getD 0) ∈ cloFrom cells names acc
  | (m, k) :: r, acc, n, h => by
    unfold cloFrom
    rcases List.mem_cons.mp h with e | h
    · cases e
      exact cloFrom_acc List.mem_cons_self
    · split
      · exact cloFrom_has h
      · exact cloFrom_has h
theorem cells_mem : ∀ {names : List (Str × NameKind)} {h : Heap} {acc : List (Str × Addr)} {x : Str} {c : Addr}, (x, c) ∈ cellsFrom h.objs.size names acc →
    (x, c) ∈ acc ∨ ((x, .cell) ∈ names ∧ h.objs.size ≤ c ∧ CellAt (pushCells h names) c none)
  | [], _, _, _, _, h => .inl h
  | (n, k) :: r, h, acc, x, c, hm => by
    unfold cellsFrom at hm
    unfold pushCells
    split at hm
    · rename_i hk
      rw [if_pos hk]
      have hk : k = .cell := by simpa using hk
      rw [← Heap.size_push h { cls := .type "cell", data := .cell none }] at hm
      rcases cells_mem hm with hm | ⟨h1, h2, h3⟩
      · rcases List.mem_cons.mp hm with e | hm
        · cases e
          exact .inr ⟨hk ▸ List.mem_cons_self, Nat.le_refl _, _, pushCells_keeps r _ _ _ (Heap.get?_push_size _ rfl), rfl⟩
        · exact .inl hm
      · rw [Heap.size_push] at h2
        exact .inr ⟨List.mem_cons_of_mem _ h1, Nat.le_of_succ_le h2, h3⟩
    · rename_i hk
      rw [if_neg hk]
      rcases cells_mem hm with hm | ⟨h1, h2, h3⟩
      · exact .inl hm
      · exact .inr ⟨List.mem_cons_of_mem _ h1, h2, h3⟩
theorem cells_acc : ∀ {names : List (Str × NameKind)} {n : Nat} {acc : List (Str × Addr)} {p : Str × Addr}, p ∈ acc → p ∈ cellsFrom n names acc
  | [], _, _, _, h => h
  | (m, k) :: r, n, acc, p, h => by
    unfold cellsFrom
    split
    · exact cells_acc (List.mem_cons_of_mem _ h)
    · exact cells_acc h
theorem cells_has : ∀ {names : List (Str × NameKind)} {n : Nat} {acc : List (Str × Addr)} {x : Str}, (x, .cell) ∈ names → ∃ c, (x, c) ∈ cellsFrom n names acc
  | (m, k) :: r, n, acc, x, h => by
    unfold cellsFrom
    rcases List.mem_cons.mp h with e | h
    · cases e
      exact ⟨n, cells_acc List.mem_cons_self⟩
    · split
      · exact cells_has h
      · exact cells_has h
theorem cells_inj : ∀ {names : List (Str × NameKind)} {h : Heap} {acc : List (Str × Addr)} {x y : Str} {c : Addr}, (∀ p ∈ acc, p.2 < h.objs.size) → (∀ x y c, (x, c) ∈ acc → (y, c) ∈ acc → x = y) →
    (x, c) ∈ cellsFrom h.objs.size names acc → (y, c) ∈ cellsFrom h.objs.size names acc → x = y
  | [], _, _, _, _, _, _, hi, h1, h2 => hi _ _ _ h1 h2
  | (n, k) :: r, h, acc, x, y, c, hl, hi, h1, h2 => by
    unfold cellsFrom at h1 h2
    split at h1
    · rename_i hk
      rw [if_pos hk] at h2
      rw [← Heap.size_push h { cls := .type "cell", data := .cell none }] at h1 h2
      refine cells_inj (h := h.push _) (fun p hp => ?_) (fun x y c a b => ?_) h1 h2
      · rw [Heap.size_push]
        rcases List.mem_cons.mp hp with rfl | hp
        · exact Nat.lt_succ_self _
        · exact Nat.lt_succ_of_lt (hl p hp)
      · rcases List.mem_cons.mp a with e | a <;> rcases List.mem_cons.mp b with e' | b
        · cases e; cases e'; rfl
        · cases e; exact absurd (hl _ b) (Nat.lt_irrefl _)
        · cases e'; exact absurd (hl _ a) (Nat.lt_irrefl _)
        · exact hi _ _ _ a b
    · rename_i hk
      rw [if_neg hk] at h2
      exact cells_inj hl hi h1 h2
theorem newEnv_comp {M : Model} {A : Around} {E : Value → Shared → Prop} {s : Shared} {scope : Scope} {globals : Addr} {closure : List (Str × Addr)} {qual : Str} {func : Option Addr} {code : Value} {around : Env} {builtins : Addr} {Q : Env → Shared → Prop}
    (h : Q (newEnv scope s.heap.objs.size globals (cellsFrom (s.heap.objs.size + 1) scope.names closure) qual func code (some around) builtins)
      { s with heap := pushCells (s.heap.push { cls := .type "dict", data := .dict #[] }) scope.names }) :
    wpAny M A (newFunctionEnv scope globals closure [] qual func code (some around) builtins) Q E s := by
  simp only [newFunctionEnv, Option.isSome_some, if_true]
  refine wpAny_bind (wpAny_alloc ?_)
  refine wpAny_bind (wpAny_layCells _ (fun n k c => rfl) scope.names closure _ _ ?_)
  rw [show ({ s with heap := s.heap.push { cls := .type "dict", data := .dict #[] } } : Shared).heap.objs.size = s.heap.objs.size + 1 from Heap.size_push ..]
  rw [List.forIn_nil]
  exact wpAny_bind (wpAny_pure (wpAny_pure h))
theorem lookup_relS {sc : Scope} : ∀ {names : List (Str × NameKind)} {x : Str} {k : NameKind},
    (names.map fun (n, k) => if (k == NameKind.free && sc.kind == .function && sc.names.lookup n == some .cell) then (n, NameKind.cell) else (n, k)).lookup x = some k →
    ∃ k', names.lookup x = some k' ∧ (k = k' ∨ (k' = .free ∧ k = .cell))
  | [], _, _, h => by simp at h
  | (n, k₀) :: r, x, k, h => by
    have ih := @lookup_relS sc r x k
    have h' : List.lookup x ((if (k₀ == NameKind.free && sc.kind == .function && sc.names.lookup n == some .cell) = true then (n, NameKind.cell) else (n, k₀)) :: (r.map _)) = some k := h
    cases hx : x == n with
    | true =>
      simp only [List.lookup_cons, hx]
      by_cases hc : (k₀ == NameKind.free && sc.kind == .function && sc.names.lookup n == some .cell) = true
      · rw [if_pos hc] at h'
        simp only [List.lookup_cons, hx] at h'
        cases h'
        simp only [Bool.and_eq_true, beq_iff_eq] at hc
        exact ⟨k₀, rfl, .inr ⟨hc.1.1, rfl⟩⟩
      · rw [if_neg hc] at h'
        simp only [List.lookup_cons, hx] at h'
        cases h'
        exact ⟨_, rfl, .inl rfl⟩
    | false =>
      simp only [List.lookup_cons, hx]
      by_cases hc : (k₀ == NameKind.free && sc.kind == .function && sc.names.lookup n == some .cell) = true
      · rw [if_pos hc] at h'
        simp only [List.lookup_cons, hx] at h'
        exact ih h'
      · rw [if_neg hc] at h'
        simp only [List.lookup_cons, hx] at h'
        exact ih h'
structure BlkOk (N : List Str) (sc scope : Scope) (own : List (Str × Nat)) : Prop where
  kind : scope.kind = .function
  uniq : ∀ y ∈ scope.names, scope.names.lookup y.1 = some y.2
  ix : ∀ p ∈ own, N[p.2]? = some p.1
  free : ∀ y ∈ scope.names, y.2 = .free → sc.names.lookup y.1 = some .cell ∨ sc.names.lookup y.1 = some .free
  own : ∀ y ∈ scope.names, y.2 = .local ∨ y.2 = .cell → y.1 ∈ own.map (·.1) ∨ y.1 ∉ N
def wipe (σ : St) : List Nat → St
  | [] => σ
  | v :: vs => (wipe σ vs).set v none
theorem wipe_length (σ : St) : ∀ vs : List Nat, (wipe σ vs).length = σ.length
  | [] => rfl
  | v :: vs => by unfold wipe; rw [List.length_set, wipe_length σ vs]
theorem wipe_some {σ : St} {i : Nat} {x : V} : ∀ {vs : List Nat}, (wipe σ vs)[i]? = some (some x) → σ[i]? = some (some x) ∧ i ∉ vs
  | [], h => ⟨h, by simp⟩
  | v :: vs, h => by
    unfold wipe at h
    by_cases hi : v = i
    · subst hi
      by_cases hv : v < (wipe σ vs).length
      · rw [List.getElem?_set_self hv] at h; cases h
      · rw [List.getElem?_eq_none (by simpa using hv)] at h; cases h
    · rw [List.getElem?_set_ne hi] at h
      obtain ⟨h1, h2⟩ := wipe_some h
      exact ⟨h1, by simp only [List.mem_cons, not_or]; exact ⟨fun e => hi e.symm, h2⟩⟩
abbrev Cx.blk (X : Cx) (s : Shared) (H : Hp) (scope : Scope) (cenv : Env) (fp : List Addr) : Cx := { X with s_0 := s, H_0 := H, env := cenv, outer := X.stack, ex := fp, fn := fun x => scope.names.lookup x == some .cell, pn := [], xe := fun _ _ => False }
section
variable {X : Cx} {pins : List (Addr × Obj)} {σ : St} {H : Hp} {s : Shared}
theorem block_start {scope : Scope} {own : List (Str × Nat)} {fp : List Addr} (I : Inv X pins σ H s) (ok : BlkOk X.N X.env.scope scope own) (hN : X.N.Nodup) (hfp : ∀ b ∈ fp, FpOk X pins H b ∧ b < s.heap.objs.size) :
    Inv (X.blk s H scope (compEnvC scope (cellsFrom (s.heap.objs.size + 1) scope.names (cloFrom X.env.cells scope.names [])) s.heap.objs.size X.env) fp) [] (wipe σ (own.map (·.2))) H { s with heap := pushCells (s.heap.push { cls := .type "dict", data := .dict #[] }) scope.names } := by
  have hfree : ∀ y ∈ scope.names, y.2 = .free → ∃ c, X.env.cells.lookup y.1 = some c := fun y hy e => by
    rcases ok.free y hy e with k | k
    · exact I.ok.has _ (.inl k)
    · exact I.ok.has _ (.inr k)
  generalize hcenv : compEnvC scope (cellsFrom (s.heap.objs.size + 1) scope.names (cloFrom X.env.cells scope.names [])) s.heap.objs.size X.env = cenv
  have kp : ∀ b o, s.heap.get? b = some o → (pushCells (s.heap.push { cls := .type "dict", data := .dict #[] }) scope.names).get? b = some o := fun b o e => pushCells_keeps _ _ _ _ (Heap.get?_push_of_some _ e)
  have hL : cenv.locals = s.heap.objs.size := by rw [← hcenv]; rfl
  have hcl : cenv.cells = cellsFrom (s.heap.objs.size + 1) scope.names (cloFrom X.env.cells scope.names []) := by rw [← hcenv]; rfl
  have hsc : cenv.scope = relS scope X.env.scope := by rw [← hcenv]; rfl
  rw [← Heap.size_push s.heap { cls := .type "dict", data := .dict #[] }] at hcl
  have cm : ∀ {y c}, (y, c) ∈ cloFrom X.env.cells scope.names [] → X.env.cells.lookup y = some c ∧ c < s.heap.objs.size := fun {y c} hm => by
    rcases cloFrom_mem hm with hm | ⟨h1, rfl⟩
    · cases hm
    · obtain ⟨c, hc⟩ := hfree _ h1 rfl
      rw [hc]
      obtain ⟨w, z⟩ := I.cell _ _ hc
      exact ⟨rfl, z.lt⟩
  have mem : ∀ {y c}, cenv.cells.lookup y = some c → (X.env.cells.lookup y = some c ∧ c < s.heap.objs.size) ∨ (s.heap.objs.size + 1 ≤ c ∧ CellAt (pushCells (s.heap.push { cls := .type "dict", data := .dict #[] }) scope.names) c none) := fun {y c} e => by
    rw [hcl] at e
    rcases cells_mem (PySem.mem_of_lookup e) with hm | ⟨_, h2, h3⟩
    · exact .inl (cm hm)
    · rw [Heap.size_push] at h2; exact .inr ⟨h2, h3⟩
  have look : ∀ {y}, scope.names.lookup y = some .free → ∃ c, cenv.cells.lookup y = some c ∧ X.env.cells.lookup y = some c := fun {y} hl => by
    have hy : (y, NameKind.free) ∈ scope.names := PySem.mem_of_lookup hl
    obtain ⟨c', e'⟩ := mem_lookup (cells_acc (names := scope.names) (n := (s.heap.push { cls := .type "dict", data := .dict #[] }).objs.size) (cloFrom_has (cells := X.env.cells) (acc := []) hy))
    rw [← hcl] at e'
    refine ⟨c', e', ?_⟩
    rw [hcl] at e'
    rcases cells_mem (PySem.mem_of_lookup e') with hm | ⟨h1, _, _⟩
    · exact (cm hm).1
    · have := ok.uniq _ h1
      rw [hl] at this; cases this
  have okB : (X.blk s H scope cenv fp).Ok := by
    refine ⟨I.ok.mod, by show cenv.scope.kind = _; rw [hsc]; exact ok.kind, by show cenv.globals = _; rw [← hcenv]; exact I.ok.glob, by show cenv.builtins = _; rw [← hcenv]; exact I.ok.blt, by show s.heap.objs.size ≤ cenv.locals; rw [hL]; exact Nat.le_refl _,
      fun y z c e1 e2 => ?_, fun y hy => ?_, fun y c z e => ?_, I.ok.hd, I.ok.frames, .inl rfl, fun b hb => ⟨?_, fun y c e z => ?_⟩, I.bs, Nat.le_trans I.ok.bsz I.sz, fun b o e hb => ?_, fun b hb z => ?_, I.stack, I.stkFree⟩
    · have e1 : cenv.cells.lookup y = some c := e1
      have e2 : cenv.cells.lookup z = some c := e2
      rw [hcl] at e1 e2
      refine cells_inj (fun p hp => ?_) (fun y z c a b => I.ok.inj y z c (cm a).1 (cm b).1) (PySem.mem_of_lookup e1) (PySem.mem_of_lookup e2)
      rw [Heap.size_push]
      exact Nat.lt_succ_of_lt (cm (y := p.1) (c := p.2) hp).2
    · show ∃ c, cenv.cells.lookup y = some c
      have key : ∀ k, cenv.kindOf y = some k → (k = .cell ∨ k = .free) → ∃ c, cenv.cells.lookup y = some c := fun k hk hk' => by
        unfold Env.kindOf at hk
        rw [hsc] at hk
        obtain ⟨k', e, r⟩ := lookup_relS hk
        have : k' = .cell ∨ k' = .free := by
          rcases r with rfl | ⟨rfl, _⟩
          · exact hk'
          · exact .inr rfl
        rcases this with rfl | rfl
        · obtain ⟨c, hm⟩ := cells_has (n := (s.heap.push { cls := .type "dict", data := .dict #[] }).objs.size) (acc := cloFrom X.env.cells scope.names []) (PySem.mem_of_lookup e)
          obtain ⟨c', e'⟩ := mem_lookup hm
          exact ⟨c', by rw [hcl]; exact e'⟩
        · obtain ⟨c, h1, _⟩ := look e
          exact ⟨c, h1⟩
      rcases hy with hy | hy
      · exact key _ hy (.inl rfl)
      · exact key _ hy (.inr rfl)
    · have z : (scope.names.lookup y == some NameKind.cell) = true := z
      have z : scope.names.lookup y = some .cell := by simpa using z
      have e : cenv.cells.lookup y = some c := e
      rw [hcl] at e
      rcases cells_mem (PySem.mem_of_lookup e) with hm | ⟨_, h2, _⟩
      · rcases cloFrom_mem hm with hm | ⟨h1, _⟩
        · cases hm
        · have q := ok.uniq _ h1
          rw [z] at q; cases q
      · rw [Heap.size_push] at h2
        exact Nat.le_of_succ_le h2
    · show b ≠ cenv.locals
      rw [hL]; exact Nat.ne_of_lt (hfp b hb).2
    · have e : cenv.cells.lookup y = some c := e
      rcases mem e with ⟨h1, _⟩ | ⟨h1, _⟩
      · exact (hfp b hb).1.2.2.2.2.1 y c h1 z
      · have h2 : s.heap.objs.size + 1 ≤ b := by rw [← z]; exact h1
        exact absurd (Nat.lt_of_lt_of_le (hfp b hb).2 (Nat.le_of_succ_le h2)) (Nat.lt_irrefl _)
    · rcases (hfp b hb).1.2.2.2.1 with z | z
      · exact I.ok.noex b o e z
      · exact absurd (Nat.lt_of_lt_of_le (Heap.lt_size e) (Nat.le_trans I.ok.bsz z)) (Nat.lt_irrefl _)
    · rcases List.mem_cons.mp (I.stkSub b z) with z | z
      · exact (hfp b hb).1.2.1 z
      · exact (hfp b hb).1.2.2.1 z
  refine ⟨okB, rfl, I.bare, Un.kept kp, ⟨fun _ => none, ?_, fun i y av e1 e2 e3 => ?_⟩, fun y c e => ?_, ?_, fun y c e => ?_, fun p hp => ?_, I.hok.kept kp, by rw [wipe_length]; exact I.len⟩
  · show Heap.Ns _ cenv.locals _
    rw [hL]
    exact Heap.Ns.keeps (Heap.Ns.new ..) fun b o e => pushCells_keeps _ _ _ _ e
  · obtain ⟨e2, hne⟩ := wipe_some e2
    have hfr : scope.names.lookup y = some .free ∧ (cenv.kindOf y = some .cell ∨ cenv.kindOf y = some .free) := by
      have key : ∀ k, cenv.scope.names.lookup y = some k → k = .local ∨ k = .cell ∨ k = .free → scope.names.lookup y = some .free ∧ (cenv.kindOf y = some .cell ∨ cenv.kindOf y = some .free) := fun k hk hk' => by
        have hk0 := hk
        rw [hsc] at hk
        obtain ⟨k', e, r⟩ := lookup_relS hk
        have no : ¬ (k' = .local ∨ k' = .cell) := fun hh => by
          rcases ok.own _ (PySem.mem_of_lookup e) hh with e' | e'
          · obtain ⟨p, hp, hpy⟩ := List.mem_map.mp e'
            have e3 := ok.ix p hp
            have : p.1 = y := hpy
            rw [this] at e3
            exact hne (List.mem_map.mpr ⟨p, hp, nodup_ix hN e3 e1⟩)
          · exact e' (List.mem_of_getElem? e1)
        rcases r with rfl | ⟨rfl, rfl⟩
        · rcases hk' with rfl | rfl | rfl
          · exact absurd (.inl rfl) no
          · exact absurd (.inr rfl) no
          · exact ⟨e, .inr hk0⟩
        · exact ⟨e, .inl hk0⟩
      have e3 : Vis cenv.scope y := e3
      rcases e3 with e3 | e3 | e3
      · exact key _ e3 (.inl rfl)
      · exact key _ e3 (.inr (.inl rfl))
      · exact key _ e3 (.inr (.inr rfl))
    obtain ⟨m, hn, hl⟩ := I.loc
    have hvis : Vis X.env.scope y := (ok.free _ (PySem.mem_of_lookup hfr.1) rfl).elim (fun k => .inr (.inl k)) (fun k => .inr (.inr k))
    obtain ⟨w, r, q⟩ := hl i y av e1 e2 hvis
    refine ⟨w, r, .inr ⟨hfr.2, ?_⟩⟩
    obtain ⟨c, h1, h2⟩ := look hfr.1
    rcases q with ⟨k, _⟩ | ⟨_, c', e', z⟩
    · have k : X.env.scope.names.lookup y = some .local := k
      rcases ok.free _ (PySem.mem_of_lookup hfr.1) rfl with k' | k' <;> rw [show X.env.scope.names.lookup y = _ from k'] at k <;> cases k
    · rw [h2] at e'; cases e'
      exact ⟨c, h1, z.keeps kp⟩
  · have e : cenv.cells.lookup y = some c := e
    rcases mem e with ⟨h1, _⟩ | ⟨_, z⟩
    · obtain ⟨w, z⟩ := I.cell y c h1
      exact ⟨w, z.keeps kp⟩
    · exact ⟨_, z⟩
  · show H cenv.locals = none
    rw [hL]; exact I.hok.fresh (Nat.le_refl _)
  · have e : cenv.cells.lookup y = some c := e
    rcases mem e with ⟨h1, _⟩ | ⟨h1, _⟩
    · exact I.freeC y c h1
    · exact I.hok.fresh (Nat.le_of_succ_le h1)
  · exact absurd (show p ∈ ([] : List (Addr × Obj)) ++ [] from hp) (by simp)
theorem app_ok {E : Value → Shared → Prop} {D : Addr} {xs : List V} {y : V} {v : Value} {Q : Value → Shared → Prop} (I : Inv X pins σ H s) (hD : H D = some (.lst xs)) (hz : xs.length < sizeLine) (r : RelV y v)
    (h : ∀ s', Inv X pins σ (upd H D (.lst (xs ++ [y]))) s' → Q .none s') : wpAny (model X.prog X.w) X.A (call (.builtin "list.append") [.ref D, v]) Q E s := by
  obtain ⟨hz', its, n, ri, e⟩ := I.hok D _ hD
  have hl := ri.length
  refine append_at (hsz := by rw [List.size_toArray]; omega) e fun h' sb ho' => ?_
  refine h { s with heap := h' } (I.write (t' := s.toks) (by rw [hD]; trivial) (.inl rfl) (fun b u hb q => (sb.2 b hb).trans q) ⟨_, ho'⟩ ⟨by rw [List.length_append]; exact hz, its ++ [v], n + 1, ri.append (.cons r .nil), ?_⟩)
  rw [ho']
  simp
def PTs (X : Cx) (ifs : List Expr) (t : TT) : Prop :=
  ∀ (pins : List (Addr × Obj)) (s : Shared) (σ : St) (H : Hp) (Q : Bool → Hp → Prop), Inv X pins σ H s → t σ H Q →
    wpAny (model X.prog X.w) X.A (forIn ifs true fun c r => if r = true then do let ok ← isTrue c X.env (eval c X.env); pure (ForInStep.yield ok) else pure (ForInStep.yield r)) (TP X pins σ Q) X.xe s
def tYes : TT := fun _ H Q => Q true H
theorem pts_nil : PTs X [] tYes := fun _ _ _ H _ I h => wpAny_tests_nil ⟨H, I, h⟩
end
theorem thnF {α : Type} {t : Sem α} {Q Q' : α → Shared → Prop} {M : Model} {A : Around} {E : Value → Shared → Prop} {s : Shared} (h : wpAny M A t Q (fun _ _ => False) s) (hQ : ∀ a s, Q a s → Q' a s) : wpAny M A t Q' E s := wpAny_mono h hQ fun _ _ z => False.elim z
theorem compLoop_any {prog : Program} {w : World} {A : Around} {R : Result → Shared → Prop} {s : Shared} {elt target iter : Expr} {ifs : List Expr} {scope : Scope} {pos : Pos} {it acc : Value} {env : Env} (I : Nat → Shared → Prop)
    (turn : ∀ n s, I n s → wpAny (model prog w) A (pyNext it) (fun r s₁ => match r with
      | none => R (.ok .next) s₁
      | some v => wpAny (model prog w) A (letOwnedTupleGo target it v) (fun _ s₁' => wpAny (model prog w) A (assign target env v) (fun _ s₂ =>
          wpAny (model prog w) A (forIn ifs true fun c r => if r = true then do let ok ← isTrue c env (eval c env); pure (ForInStep.yield ok) else pure (ForInStep.yield r)) (fun ok s₃ =>
            if ok = true then wpAny (model prog w) A (eval elt env) (fun x s₄ =>
              wpAny (model prog w) A (call (.builtin "list.append") [acc, x]) (fun _ s₅ => ∃ m, m < n ∧ I m s₅) (notedBy (model prog w) A env fun e s' => R (.error e) s') s₄) (notedBy (model prog w) A env fun e s' => R (.error e) s') s₃
            else ∃ m, m < n ∧ I m s₃) (notedBy (model prog w) A env fun e s' => R (.error e) s') s₂) (notedBy (model prog w) A env fun e s' => R (.error e) s') s₁') (notedBy (model prog w) A env fun e s' => R (.error e) s') s₁) (notedBy (model prog w) A env fun e s' => R (.error e) s') s)
    (n : Nat) (h : I n s) :
    codeAny (model prog w) A (.compLoop (.ListComp elt [⟨target, iter, ifs, 0⟩] scope pos) 0 it acc env) R s := by
  refine codeAny_loop rfl I (fun n s hI => ?_) n h
  show wpAny _ A ((compTurn (.ListComp elt [⟨target, iter, ifs, 0⟩] scope pos) 0 it acc env).onRaise (fun x => do noteFrame x env; theTreesLotGoes x)) _ _ s
  refine wpAny_noted ?_
  rw [compTurn_list]
  refine wpAny_bind (wpAny_standAt (wpAny_bind (wpAny_mono (turn n s hI) (fun r s₁ h₁ => ?_) fun _ _ h' => h')))
  cases r with
  | none => exact wpAny_pure h₁
  | some v =>
    refine wpAny_bind (wpAny_mono h₁ (fun _ s₁' h₁' => ?_) fun _ _ h' => h')
    refine wpAny_bind (wpAny_mono h₁' (fun _ s₂ h₂ => wpAny_bind (wpAny_mono h₂ (fun ok s₃ h₃ => ?_) fun _ _ h' => h')) fun _ _ h' => h')
    cases ok with
    | false => exact wpAny_pure ⟨rfl, h₃⟩
    | true =>
      exact wpAny_bind (wpAny_bind (wpAny_mono h₃ (fun x s₄ h₄ => wpAny_bind (wpAny_mono h₄ (fun _ s₅ h₅ => wpAny_pure (wpAny_pure ⟨rfl, h₅⟩)) fun _ _ h' => h')) fun _ _ h' => h'))
section
variable {X : Cx}
def tLc (wi : TI) (g : TG) (tt : TT) (te : TE) (vs : List Nat) : TE := fun σ H Q => wi σ H fun J H1 => ∀ D, H1 D = none → ∃ W : Nat → Nat → Hp → Prop, (∃ m, W 0 m (upd H1 D (.lst []))) ∧ ∀ i m H, W i m H →
  (J.stop i H ∧ Q (.ref D) H) ∨ (J.go i H ∧ ∃ Nx : Hp → Prop, (∀ H', Nx H' → ∃ m', m' < m ∧ W (i + 1) m' H') ∧ ∀ x H', J.yld i H x H' → g x (wipe σ vs) H' fun σ2 H2 => wipe σ2 vs = wipe σ vs ∧ tt σ2 H2 fun b H3 =>
    if b = true then te σ2 H3 fun y H4 => ∃ acc, H4 D = some (.lst acc) ∧ acc.length < sizeLine ∧ Nx (upd H4 D (.lst (acc ++ [y]))) else Nx H3)
theorem lc_core {pins : List (Addr × Obj)} {s : Shared} {σ : St} {H : Hp} {Q : VK} {elt tg iter : Expr} {ifs : List Expr} {scope : Scope} {own : List (Str × Nat)} {pos pos' : Pos} {wi : TI} {g : TG} {tt : TT} {te : TE} {use : Option (Value → Sem Unit)} {Qf : Value → Shared → Prop}
    (hc : X.calm = true) (hN : X.N.Nodup) (I : Inv X pins σ H s) (hi : PI X tg iter wi) (ok : BlkOk X.N X.env.scope scope own)
    (hg : ∀ (s : Shared) (H : Hp) (C : Addr) (cl : List (Str × Addr)) (fp : List Addr), PG (X.blk s H scope (compEnvC scope cl C X.env) fp) tg g) (ht : ∀ (s : Shared) (H : Hp) (C : Addr) (cl : List (Str × Addr)) (fp : List Addr), PTs (X.blk s H scope (compEnvC scope cl C X.env) fp) ifs tt)
    (he : ∀ (s : Shared) (H : Hp) (C : Addr) (cl : List (Str × Addr)) (fp : List Addr), PE (X.blk s H scope (compEnvC scope cl C X.env) fp) elt te) (hs : ∀ x, foldedSetIterable iter X.env x = pure x)
    (h : tLc wi g tt te (own.map (·.2)) σ H Q)
    (hRR : ∀ D C s' m H', Inv X pins σ H' s' → Q (.ref D) H' → s'.heap.Ns C m → FpOk X pins H' C → compPost (model X.prog X.w) X.A X.xe use Qf (.ref D) C (.ok .next) s') :
    wpAny (model X.prog X.w) X.A (comprehension (.ListComp elt [⟨tg, iter, ifs, 0⟩] scope pos) scope X.env pos' (newList []) false (eval iter X.env) use) Qf X.xe s := by
  have hfree : ∀ y ∈ scope.names, y.2 = .free → ∃ c, X.env.cells.lookup y.1 = some c := fun y hy e => by
    rcases ok.free y hy e with k | k
    · exact I.ok.has _ (.inl k)
    · exact I.ok.has _ (.inr k)
  refine wpAny_comprehension_free (use := use) rfl hs (closure_ok hfree) ok.kind (fun y hy e => by rw [ok.uniq y hy, e])
    (thn (hi pins s σ H _ I h) fun xv s1 hx => thn hx fun itv s2 h2 => ?_)
  obtain ⟨it, fp, tn, J, H2, e, I2, T, st2, f2, q⟩ := h2
  subst e
  refine wpAny_newObj_type (newEnv_comp ?_) (by show 0 ≤ sizeLine; decide)
  generalize hD : s2.heap.objs.size = D
  have hDn : H2 D = none := I2.hok.fresh (Nat.le_of_eq hD)
  obtain ⟨W, ⟨m0, w0⟩, turn⟩ := q D hDn
  -- the new list
  generalize hs3 : ({ s2 with heap := s2.heap.push { cls := .type "list", data := .seq ([] : List Value).toArray } } : Shared) = s3
  have I3 : Inv X pins σ (upd H2 D (.lst [])) s3 := by
    rw [← hs3]
    refine I2.laid (t' := s2.toks) (fun b o e => Heap.get?_push_of_some _ e) (Nat.le_of_eq hD) ⟨Nat.zero_le _, [], 0, .nil, ?_⟩
    rw [← hD]
    exact Heap.get?_push_size _ rfl
  have h3 : s3.heap = s2.heap.push { cls := .type "list", data := .seq ([] : List Value).toArray } := by rw [← hs3]
  have sz : ∀ b ∈ fp, b < s2.heap.objs.size := fun b hb => by
    obtain ⟨o, e, _⟩ := T.obj _ _ st2 b hb
    exact Heap.lt_size e
  have f3 : ∀ b ∈ fp, FpOk X pins (upd H2 D (.lst [])) b ∧ b < s3.heap.objs.size := fun b hb => by
    have hlt := sz b hb
    refine ⟨⟨?_, (f2 b hb).2⟩, by rw [h3, Heap.size_push]; exact Nat.lt_succ_of_lt hlt⟩
    rw [upd_ne (by rw [← hD]; exact Nat.ne_of_lt hlt)]
    exact (f2 b hb).1
  have st3 : tn 0 s3.heap := T.keep _ _ _ st2 fun b _ o e => by rw [h3]; exact Heap.get?_push_of_some _ e
  have I4 := block_start I3 ok hN f3
  have pg := hg s3 (upd H2 D (.lst [])) s3.heap.objs.size (cellsFrom (s3.heap.objs.size + 1) scope.names (cloFrom X.env.cells scope.names [])) fp
  have pt := ht s3 (upd H2 D (.lst [])) s3.heap.objs.size (cellsFrom (s3.heap.objs.size + 1) scope.names (cloFrom X.env.cells scope.names [])) fp
  have pe := he s3 (upd H2 D (.lst [])) s3.heap.objs.size (cellsFrom (s3.heap.objs.size + 1) scope.names (cloFrom X.env.cells scope.names [])) fp
  show codeAny _ _ (.compStart (.ListComp elt [⟨tg, iter, ifs, 0⟩] scope pos) 0 (.ref it) (.ref D) (compEnvC scope (cellsFrom (s3.heap.objs.size + 1) scope.names (cloFrom X.env.cells scope.names [])) s3.heap.objs.size X.env)) (compPost (model X.prog X.w) X.A X.xe use Qf (.ref D) s3.heap.objs.size) { s3 with heap := pushCells (s3.heap.push { cls := .type "dict", data := .dict #[] }) scope.names }
  have nfp : ∀ b ∈ fp, (upd H2 D (.lst [])) b = none := fun b hb => (f3 b hb).1.1
  generalize hce : compEnvC scope (cellsFrom (s3.heap.objs.size + 1) scope.names (cloFrom X.env.cells scope.names [])) s3.heap.objs.size X.env = ce at I4 pg pt pe ⊢
  have cL : ce.locals = s3.heap.objs.size := by subst hce; rfl
  generalize hH3 : upd H2 D (.lst []) = H3 at I3 I4 pg pt pe w0 nfp f3
  generalize hs4 : ({ s3 with heap := pushCells (s3.heap.push { cls := .type "dict", data := .dict #[] }) scope.names } : Shared) = s4 at I4 ⊢
  have st4 : tn 0 s4.heap := T.keep _ _ _ st3 fun b _ o e => by rw [← hs4]; exact pushCells_keeps _ _ _ _ (Heap.get?_push_of_some _ e)
  have stat : ∀ {σ' : St} {H' : Hp} {s' : Shared}, Inv (X.blk s3 H3 scope ce fp) [] σ' H' s' → (∀ b ∈ fp, H' b = none) → ∀ b ∈ fp, FpOk (X.blk s3 H3 scope ce fp) [] H' b := fun {σ' H' s'} I' hn b hb =>
    ⟨hn b hb, (I'.ok.exf b hb).1, I'.ok.exfs b hb, .inl hb, fun x c e => (I'.ok.exf b hb).2 x c e, fun p hp => absurd (show p ∈ ([] : List (Addr × Obj)) ++ [] from hp) (by simp)⟩
  have loop : codeAny (model X.prog X.w) X.A (.compLoop (.ListComp elt [⟨tg, iter, ifs, 0⟩] scope pos) 0 (.ref it) (.ref D) ce) (compPost (model X.prog X.w) X.A X.xe use Qf (.ref D) s3.heap.objs.size) s4 := by
    refine compLoop_any (fun n s' => ∃ i H', Inv (X.blk s3 H3 scope ce fp) [] (wipe σ (own.map (·.2))) H' s' ∧ tn i s'.heap ∧ (∀ b ∈ fp, H' b = none) ∧ W i n H') ?_ m0 ⟨0, H3, I4, st4, nfp, w0⟩
    rintro n s5 ⟨i, H5, I5, st5, n5, w5⟩
    rcases turn i n H5 w5 with ⟨stop, qq⟩ | ⟨go, Nx, hNx, step⟩
    · have td := T.done (X.blk s3 H3 scope ce fp) rfl rfl rfl hc i [] s5 _ H5 (fun _ _ => False) I5 (stat I5 n5) st5 stop
      refine thnF td fun r s6 zz => ?_
      obtain ⟨hr, I6⟩ := zz
      subst hr
      -- back in the def's context
      have I7 : Inv X pins σ H5 s6 := I3.call' (ch := fp) I6.os I6.base I6.hok I6.bare fun b hb => ⟨(f3 b hb).1.2.2.2.1, (f3 b hb).1.2.1, (f3 b hb).1.2.2.2.2.1, (f3 b hb).1.2.2.2.2.2⟩
      have nC : H5 s3.heap.objs.size = none := by
        have z : H5 ce.locals = none := I6.free
        rw [cL] at z
        exact z
      obtain ⟨m, hn, _⟩ := I6.loc
      have hn : s6.heap.Ns ce.locals m := hn
      rw [cL] at hn
      exact hRR D s3.heap.objs.size s6 m H5 I7 qq hn (I3.fpOk (Nat.le_refl _) nC)
    · have ti := T.item (X.blk s3 H3 scope ce fp) rfl rfl rfl hc i [] s5 _ H5 (fun _ _ => False) I5 (stat I5 n5) st5 go
      refine thnF ti fun r s6 zz => ?_
      obtain ⟨u, hr, h6⟩ := zz
      subst hr
      refine thnF h6 fun _ s7 zz => ?_
      obtain ⟨x, H7, I7, r7, y7, st7, n7⟩ := zz
      have I7' := I7.pinned (stat I7 n7) (T.obj _ _ st7)
      refine thnF (pg _ s7 _ H7 x u _ I7' r7 (step x H7 y7)) fun _ s8 zz => ?_
      obtain ⟨σ8, H8, I8, hw8, q8⟩ := zz
      refine thnF (pt _ s8 σ8 H8 _ I8 q8) fun b s9 zz => ?_
      obtain ⟨H9, I9, q9⟩ := zz
      -- the turn's end
      have fin : ∀ {s' : Shared} {H' : Hp}, Inv (X.blk s3 H3 scope ce fp) ([] ++ pinsAt fp s7.heap) σ8 H' s' → Nx H' → ∃ m, m < n ∧ ∃ i H', Inv (X.blk s3 H3 scope ce fp) [] (wipe σ (own.map (·.2))) H' s' ∧ tn i s'.heap ∧ (∀ b ∈ fp, H' b = none) ∧ W i m H' := fun {s' H'} I' nx => by
        obtain ⟨m', hm, w'⟩ := hNx H' nx
        have pin' : ∀ b ∈ fp, ∀ o, s7.heap.get? b = some o → s'.heap.get? b = some o ∧ H' b = none := fun b hb o e =>
          let z := I'.pin (b, o) (List.mem_append_right _ (List.mem_append_right _ (mem_pinsAt hb e)))
          ⟨z.1, z.2.1⟩
        have hl : (wipe σ (own.map (·.2))).length = σ8.length := by rw [← hw8, wipe_length]
        refine ⟨m', hm, i + 1, H', (I'.unpinned (pins := [])).weak hl (fun j v e => ?_), T.keep _ _ _ st7 fun b hb o e => (pin' b hb o e).1, fun b hb => ?_, w'⟩
        · rw [← hw8] at e
          exact (wipe_some e).1
        · obtain ⟨o, e, _⟩ := T.obj _ _ st7 b hb
          exact (pin' b hb o e).2
      cases b with
      | false =>
        simp only [Bool.false_eq_true, if_false] at q9 ⊢
        exact fin I9 q9
      | true =>
        simp only [if_true] at q9 ⊢
        refine thnF (pe _ s9 σ8 H9 _ I9 q9) fun z s10 zz => ?_
        obtain ⟨yv, H10, I10, r10, acc, hD10, hz10, nx⟩ := zz
        exact app_ok (X := X.blk s3 H3 scope ce fp) I10 hD10 hz10 r10 fun s11 I11 => fin I11 nx
  exact codeAny_compStart_list loop (T.self X.A 0 _ _ _ st4 loop)
theorem pe_lc {elt tg iter : Expr} {ifs : List Expr} {scope : Scope} {own : List (Str × Nat)} {pos : Pos} {wi : TI} {g : TG} {tt : TT} {te : TE} (hc : X.calm = true) (hN : X.N.Nodup) (hi : PI X tg iter wi) (ok : BlkOk X.N X.env.scope scope own)
    (hg : ∀ (s : Shared) (H : Hp) (C : Addr) (cl : List (Str × Addr)) (fp : List Addr), PG (X.blk s H scope (compEnvC scope cl C X.env) fp) tg g) (ht : ∀ (s : Shared) (H : Hp) (C : Addr) (cl : List (Str × Addr)) (fp : List Addr), PTs (X.blk s H scope (compEnvC scope cl C X.env) fp) ifs tt)
    (he : ∀ (s : Shared) (H : Hp) (C : Addr) (cl : List (Str × Addr)) (fp : List Addr), PE (X.blk s H scope (compEnvC scope cl C X.env) fp) elt te) (hs : ∀ x, foldedSetIterable iter X.env x = pure x := by intro _; rfl) :
    PE X (.ListComp elt [⟨tg, iter, ifs, 0⟩] scope pos) (tLc wi g tt te (own.map (·.2))) := by
  intro pins s σ H Q I h
  rw [eval_ListComp]
  refine lc_core hc hN I hi ok hg ht he hs h fun D C s' m H' I' q hn f => ⟨m, hn, fun h'' sb => ?_⟩
  obtain ⟨f0, f1, f2, f3, f4, f5⟩ := f
  exact ⟨.ref D, H', I'.turned (t' := s'.toks) (fun b o hb e => (sb.2 b hb).trans e) f0 f1 f3 f4 f5, rfl, q⟩
theorem ps_setLc {i : Nat} {y : Str} {py : Pos} {elt tg iter : Expr} {ifs : List Expr} {scope : Scope} {own : List (Str × Nat)} {pos spos : Pos} {wi : TI} {g : TG} {tt : TT} {te : TE} (hc : X.calm = true) (hN : X.N.Nodup) (hy : X.N[i]? = some y) (hyl : X.env.scope.names.lookup y = some .local)
    (hsw : swapsWith (.ListComp elt [⟨tg, iter, ifs, 0⟩] scope pos) (some (.Name y py)) spos.line X.env = pure true) (hi : PI X tg iter wi) (ok : BlkOk X.N X.env.scope scope own)
    (hg : ∀ (s : Shared) (H : Hp) (C : Addr) (cl : List (Str × Addr)) (fp : List Addr), PG (X.blk s H scope (compEnvC scope cl C X.env) fp) tg g) (ht : ∀ (s : Shared) (H : Hp) (C : Addr) (cl : List (Str × Addr)) (fp : List Addr), PTs (X.blk s H scope (compEnvC scope cl C X.env) fp) ifs tt)
    (he : ∀ (s : Shared) (H : Hp) (C : Addr) (cl : List (Str × Addr)) (fp : List Addr), PE (X.blk s H scope (compEnvC scope cl C X.env) fp) elt te) (hs : ∀ x, foldedSetIterable iter X.env x = pure x := by intro _; rfl) :
    PS X (.Assign [.Name y py] (.ListComp elt [⟨tg, iter, ifs, 0⟩] scope pos) spos) (tAsg (tLc wi g tt te (own.map (·.2))) (gName i)) := by
  intro pins s σ H D I h
  rw [exec_Assign_Name_used _ _ _ _ hsw]
  refine wpAny_bind (wpAny_standAt (wpAny_bind ?_))
  show wpAny _ X.A (do let _ ← comprehension (.ListComp elt [⟨tg, iter, ifs, 0⟩] scope pos) scope X.env (firstIterPos [⟨tg, iter, ifs, 0⟩] pos) (newList []) false (eval iter X.env) (some (assign (.Name y py) X.env))) _ _ s
  have h : tLc wi g tt te (own.map (·.2)) σ H (fun x H1 => gName i x σ H1 D.nx) := h
  refine wpAny_bind (thn (lc_core (Qf := fun _ s' => SP X pins D .next s') hc hN I hi ok hg ht he hs h fun L C s' m H' I' q hn f => ?_) fun _ s' hq => wpAny_pure (wpAny_pure hq))
  show wpAny _ _ (assign (.Name y py) X.env (.ref L)) _ _ _
  refine wpAny_assign_Name (store_ok2 (v := V.ref L) I' hN hy (.inl hyl) rfl (fun s2 I2 ⟨a, sb, ha⟩ => ?_) (.inr hyl))
  obtain ⟨f0, f1, f2, f3, f4, f5⟩ := f
  have haC : C ≠ a := by
    rcases ha with z | z
    · rw [z]; exact f1
    · exact fun e => f4 y a z e.symm
  refine ⟨m, hn.sameBut sb haC, fun h3 sb3 => ?_⟩
  exact ⟨_, H', I2.turned (t' := s2.toks) (fun b o hb e => (sb3.2 b hb).trans e) f0 f1 f3 f4 f5, q⟩
end
theorem lc_range {lo : Int} {n : Nat} {g : TG} {tt : TT} {te : TE} {vs : List Nat} {σ : St} {H1 : Hp} {D : Addr} {Qd : Hp → Prop} (Pv : Nat → Hp → Prop) (h0 : Pv 0 (upd H1 D (.lst [])))
    (hs : ∀ i H, i < n → Pv i H → g (.int (lo + i)) (wipe σ vs) H fun σ2 H2 => wipe σ2 vs = wipe σ vs ∧ tt σ2 H2 fun b H3 =>
      if b = true then te σ2 H3 fun y H4 => ∃ acc, H4 D = some (.lst acc) ∧ acc.length < sizeLine ∧ Pv (i + 1) (upd H4 D (.lst (acc ++ [y]))) else Pv (i + 1) H3) (hd : ∀ H, Pv n H → Qd H) :
    ∃ W : Nat → Nat → Hp → Prop, (∃ m, W 0 m (upd H1 D (.lst []))) ∧ ∀ i m H, W i m H →
      ((Itr lo n).stop i H ∧ Qd H) ∨ ((Itr lo n).go i H ∧ ∃ Nx : Hp → Prop, (∀ H', Nx H' → ∃ m', m' < m ∧ W (i + 1) m' H') ∧ ∀ x H', (Itr lo n).yld i H x H' → g x (wipe σ vs) H' fun σ2 H2 => wipe σ2 vs = wipe σ vs ∧ tt σ2 H2 fun b H3 =>
        if b = true then te σ2 H3 fun y H4 => ∃ acc, H4 D = some (.lst acc) ∧ acc.length < sizeLine ∧ Nx (upd H4 D (.lst (acc ++ [y]))) else Nx H3) := by
  refine ⟨fun i m H => m = n - i ∧ i ≤ n ∧ Pv i H, ⟨n, by simp, Nat.zero_le _, h0⟩, ?_⟩
  rintro i m H ⟨rfl, hi, p⟩
  by_cases hlt : i < n
  · refine .inr ⟨hlt, Pv (i + 1), fun H' p' => ⟨n - (i + 1), by omega, rfl, hlt, p'⟩, fun x H' y => ?_⟩
    obtain ⟨e, y⟩ := y
    subst e y
    exact hs i _ hlt p
  · have e : i = n := by omega
    subst e
    exact .inl ⟨Nat.le_refl _, hd H p⟩
end L2
namespace L2
open PySem PySem.Spec PyProof.Rows
section
variable {prog : Program} {w : World} {A : Around} {R : Result → Shared → Prop} {s : Shared} {elt t0 i0 t1 i1 : Expr} {ifs0 ifs1 : List Expr} {scope : Scope} {pos : Pos} {it acc : Value} {env : Env}
end
section
variable {X : Cx}
end
end L2
namespace L2
open PySem PySem.Spec PyProof.Rows
section
variable {κ : Type} [DecidableEq κ]
end
section
variable {P : Program} {w : World} {H : Hp} {h : Heap} {a : Addr}
end
section
variable {X : Cx} {pins : List (Addr × Obj)} {σ : St} {H : Hp} {s : Shared} {a : Addr} {y v : V} {u r : Value} {o : Option V} {A : Around} {E : Value → Shared → Prop}
end
section
variable {X : Cx} {pins : List (Addr × Obj)} {σ : St} {H : Hp} {s : Shared} {a : Addr} {kvs : List (Key × V)} {k : Key} {u : Value} {A : Around} {E : Value → Shared → Prop}
end
section
variable {X : Cx} {o i e value : Expr} {pos pos' tpos : Pos} {td ty tv : TE}
end
section
variable {X : Cx} {pos : Pos}
end
section
variable {X : Cx} {pins : List (Addr × Obj)} {σ : St} {H : Hp} {s : Shared} {a : Addr} {y d : V} {u r : Value} {o : Option V} {A : Around} {E : Value → Shared → Prop}
end
section
variable {X : Cx} {o e f : Expr} {apos cpos : Pos} {td ty tx : TE}
end
section
variable {X : Cx} {pins : List (Addr × Obj)} {σ : St} {H : Hp} {s : Shared} {a : Addr} {kvs : List (Key × V)} {A : Around} {E : Value → Shared → Prop}
end
section
variable {X : Cx} {pins : List (Addr × Obj)} {σ : St} {H : Hp} {s : Shared} {a : Addr} {y : V} {u : Value} {A : Around} {E : Value → Shared → Prop}
end
end L2
namespace L2
open PySem PySem.Spec PyProof.Rows
section
variable {prog : Program} {w : World} {A : Around} {E : Value → Shared → Prop}
end
section
variable {X : Cx}
end
end L2
namespace L2
open PySem PySem.Spec PyProof.Rows
section
variable {X : Cx} {pins : List (Addr × Obj)} {σ : St} {H : Hp} {s : Shared} {h' : Heap}
theorem Inv.turnedL {t' : Nat} {ch : List Addr} (I : Inv X pins σ H s) (k : ∀ b o, b ∉ ch → s.heap.get? b = some o → h'.get? b = some o) (hf : ∀ b ∈ ch, FpOk X pins H b) : Inv X pins σ H { s with heap := h', toks := t' } := by
  have nit : ∀ b u, H b = some u → b ∉ ch := fun b u e z => by
    have q := (hf b z).1
    rw [q] at e; cases e
  refine I.step (g' := s.gens) (d' := s.drawn) (ch := ch) (fun b hb => ⟨(hf b hb).2.2.2.1, (hf b hb).2.1, (hf b hb).2.2.2.2.1, (hf b hb).2.2.2.2.2⟩) (fun b o _ _ hc e _ => k b o hc e) (fun b o _ _ hc e _ => ⟨o.slots, k b o hc e⟩)
    (fun _ _ _ _ n => n) (fun b o hc e => ⟨o, k b o hc e⟩) (fun _ _ e => e) (fun _ _ _ e => e) (fun b ps e => ⟨#[], by rw [e]; simp⟩) (fun m hm => ?_) (fun b u e => ?_) I.bare
  · obtain ⟨o, es, ep, ho, r⟩ := hm
    exact ⟨o, es, ep, k _ o (fun z => (hf _ z).2.1 rfl) ho, r⟩
  · refine (I.hok b u e).stay (fun c v hc q => k c v ?_ q) (fun _ q => q) fun _ _ q => q
    rcases hc with z | z
    · rw [z]; exact nit b u e
    · exact nit c _ z
theorem Inv.turnedNew {t' : Nat} {ch : List Addr} {T : Addr} {ob : HO} (I : Inv X pins σ H s) (k : ∀ b o, b ∉ ch → s.heap.get? b = some o → h'.get? b = some o) (hf : ∀ b ∈ ch, FpOk X pins H b) (hT : s.heap.objs.size ≤ T)
    (new : ObjOk X.prog X.w (upd H T ob) h' T ob) : Inv X pins σ (upd H T ob) { s with heap := h', toks := t' } := by
  have hn : H T = none := I.hok.fresh hT
  have nit : ∀ b u, H b = some u → b ∉ ch := fun b u e z => by
    have q := (hf b z).1
    rw [q] at e; cases e
  refine I.step (g' := s.gens) (d' := s.drawn) (ch := ch) (fun b hb => ⟨(hf b hb).2.2.2.1, (hf b hb).2.1, (hf b hb).2.2.2.2.1, (hf b hb).2.2.2.2.2⟩) (fun b o _ _ hc e _ => k b o hc e) (fun b o _ _ hc e _ => ⟨o.slots, k b o hc e⟩)
    (fun b o _ e n => ?_) (fun b o hc e => ⟨o, k b o hc e⟩) (fun b xs e => ?_) (fun b o u e => ?_) (fun b ps e => ⟨#[], ?_⟩) (fun m hm => ?_) (fun b u e => ?_) I.bare
  · rw [upd_ne (Nat.ne_of_lt (Nat.lt_of_lt_of_le (Heap.lt_size e) hT))]; exact n
  · rw [upd_ne (ne_of_none e hn)]; exact e
  · rw [upd_ne (ne_of_none e hn)]; exact e
  · rw [upd_ne (ne_of_none e hn), e]; simp
  · obtain ⟨o, es, ep, ho, r⟩ := hm
    exact ⟨o, es, ep, k _ o (fun z => (hf _ z).2.1 rfl) ho, r⟩
  · by_cases hb : b = T
    · subst hb
      rw [upd_same] at e
      cases e
      exact new
    · rw [upd_ne hb] at e
      refine (I.hok b u e).stay (fun c v hc q => k c v ?_ q) (fun c q => by rw [upd_ne (ne_of_none q hn)]; exact q) fun c xs q => by rw [upd_ne (ne_of_none q hn)]; exact q
      rcases hc with z | z
      · rw [z]; exact nit b u e
      · exact nit c _ z
end
section
variable {X : Cx}
theorem pi_one {tg : Expr} {pins : List (Addr × Obj)} {σ : St} {H : Hp} {s : Shared} {R : It → Hp → Prop} {J : It} {tn : Nat → Heap → Prop} {tk : Nat} (I : Inv X pins σ H s) (o : Obj)
    (T : Turn X.prog X.w X.K tg J [s.heap.objs.size] s.heap.objs.size tn) (st : tn 0 (s.heap.push o)) (q : R J H) : PIE X pins σ tg R (.ref s.heap.objs.size) { s with heap := s.heap.push o, toks := tk } := by
  refine ⟨s.heap.objs.size, [s.heap.objs.size], tn, J, H, rfl, I.kept fun b ob e => Heap.get?_push_of_some _ e, T, st, fun b hb => ?_, q⟩
  have e : b = s.heap.objs.size := by simpa using hb
  subst e
  exact I.fpOk (Nat.le_refl _) (I.hok.fresh (Nat.le_refl _))
end
def Itc (lo c : Int) (n : Nat) : It := ⟨fun i _ => i < n, fun i H x H' => H' = H ∧ x = .int (lo + (i : Nat) * c), fun i _ => n ≤ i⟩
theorem turn_rangeC {P : Program} {w : World} {K : PySem.W.Frag} {tg : Expr} (it : Addr) (lo c : Int) (n : Nat) : Turn P w K tg (Itc lo c n) [it] it (fun i h => IsRangeIter h it (lo + (i : Nat) * c) ((n : Int) - (i : Nat)) c) where
  mem := by simp
  obj := fun i h st b hb => by
    have e : b = it := by simpa using hb
    subst e
    exact ⟨_, st, fun v z => nomatch z⟩
  keep := fun i h h' st k => k it (by simp) _ st
  item := by
    intro X hP hw hK hc i pins s σ H E I hf st hg
    subst hP hw hK
    obtain ⟨f0, f1, f2, f3, f4, f5⟩ := hf it (by simp)
    have W := Walks.range (prog := X.prog) (w := X.w) (I.ok.hd hc) it lo c n
    refine W.item i s _ _ hg st fun v h' tk hv st' kk => ?_
    obtain ⟨t, rfl⟩ := hv
    have I1 : Inv X pins σ H { s with heap := h', toks := tk } := I.turned (fun b o hb e => kk b o (by simpa using hb) e) f0 f1 f3 f4 f5
    exact ⟨_, rfl, go_of (s := { s with heap := h', toks := tk }) (n := "range_iterator") st' rfl rfl (by decide) ⟨.int (lo + (i : Nat) * c), H, I1, ⟨t, rfl⟩, ⟨rfl, rfl⟩, st', fun b hb => (hf b hb).1⟩⟩
  done := by
    intro X hP hw hK hc i pins s σ H E I hf st hg
    subst hP hw hK
    obtain ⟨f0, f1, f2, f3, f4, f5⟩ := hf it (by simp)
    exact wpAny_pyNext_range_end (I.ok.hd hc) st (by have : n ≤ i := hg; omega) fun h' eb => ⟨rfl, I.turned (t' := s.toks) (fun b o hb e => eb b o hb e) f0 f1 f3 f4 f5⟩
  self := fun A i s Q E st h => wpAny_pyIter_rangeiter st h
def RgC (i j c : Int) (n : Nat) : Prop := c ≠ 0 ∧ c.natAbs < 1073741824 ∧ Builtin.Range.small i j c = true ∧ Builtin.Range.rangeSize i j c = n
def iRng3 (ta : TA) : TI := fun σ H R => ta σ H fun vs H1 => ∃ (i j c : Int) (n : Nat), vs = [.int i, .int j, .int c] ∧ RgC i j c n ∧ R (Itc i c n) H1
section
variable {X : Cx} {tg : Expr}
theorem pi_range3 {a b c : Expr} {ta : TA} {p pos : Pos} (hg : Gl X "range") (hm : X.mg "range" = none) (ha : PA X [a, b, c] ta)
    (hs : starEach [a, b, c] X.env = (false, eval a X.env) :: starEach [b, c] X.env := by rfl) (hpl : (backTo pos (starEach [b, c] X.env)).any (·.1) = false := by rfl) :
    PI X tg (.Call (.Name "range" p) [a, b, c] [] pos) (iRng3 ta) := by
  intro pins s σ H R I h
  refine Call_ (ld_blt I hg hm boot_range (PyProof.Rows.callWith_type1 (thn (ha pos pins s σ H _ I h) fun us s1 ⟨vs, H1, I1, r1, q1⟩ => ?_) hs hpl))
  obtain ⟨i, j, k, n, e, ⟨c0, c1, c2, c3⟩, q⟩ := q1
  subst e
  cases r1 with
  | cons r rr =>
    cases rr with
    | cons r' rr =>
      cases rr with
      | cons r'' rr =>
        cases rr
        obtain ⟨t, rfl⟩ := r
        obtain ⟨t', rfl⟩ := r'
        obtain ⟨t'', rfl⟩ := r''
        refine call_range_3 c0 ?_ (.inl (PyProof.noPylong_small c1))
        refine wpAny_pyIter_range (IsRange.new ..) c2 ?_
        have I2 : Inv X pins σ H1 { s1 with heap := s1.heap.push { cls := .type "range", data := .fields #[.int i t, .int j t', .int k t''] } } := I1.kept (t' := s1.toks) fun b o e => Heap.get?_push_of_some _ e
        refine pi_one (tk := s1.toks) I2 _ (turn_rangeC _ i k n) ?_ q
        have e1 : i + ((0 : Nat) : Int) * k = i := by simp
        have e2 : (n : Int) - ((0 : Nat) : Int) = Builtin.Range.rangeSize i j k := by rw [c3]; simp
        show IsRangeIter _ _ (i + ((0 : Nat) : Int) * k) ((n : Int) - ((0 : Nat) : Int)) k
        rw [e1, e2]
        exact Heap.get?_push_size _ rfl
end
section
variable {X : Cx} {tg : Expr}
end
section
variable {prog : Program} {w : World} {A : Around} {E : Value → Shared → Prop} {s : Shared}
end
section
variable {X : Cx} {pins : List (Addr × Obj)} {σ : St} {H : Hp} {s : Shared} {d : Addr} {o : Obj}
end
section
variable {P : Program} {w : World} {K : PySem.W.Frag} {tg : Expr} {d : Addr} {o : Obj} {es : Array DictEntry} {ep : Nat}
end
section
variable {X : Cx} {tg e : Expr} {td : TE} {apos cpos : Pos}
end
def Ite (K : PySem.W.Frag) (a : Addr) : It :=
  ⟨fun i H => ∃ (xs : List V) (x : V), SqL K H a xs ∧ xs[i]? = some x, fun i H v H' => ∃ T x, v = .ref T ∧ H T = none ∧ H' = upd H T (.tup [.int (i : Nat), x]) ∧ ∀ xs, SqL K H a xs → xs[i]? = some x, fun i H => ∃ xs : List V, SqL K H a xs ∧ xs.length ≤ i⟩
theorem turn_enum {P : Program} {w : World} {K : PySem.W.Frag} {elts : List Expr} {kk : Nat} {tpos : Pos} (a e it : Addr) :
    Turn P w K (.Tuple elts kk tpos) (Ite K a) [e, it] e (fun i h => (∃ old, IsEnum h e it ((i : Nat) : Int) old) ∧ h.IsListIter it a i ∧ e ≠ it) where
  mem := by simp
  obj := fun i h st b hb => by
    obtain ⟨⟨old, he⟩, ⟨o, ho, hc, hd⟩, _⟩ := st
    have e' : b = e ∨ b = it := by simpa using hb
    rcases e' with z | z
    · rw [z]; exact ⟨_, he, fun v q => nomatch q⟩
    · rw [z]; exact ⟨o, ho, fun v q => by rw [hd] at q; cases q⟩
  keep := fun i h h' st k => let ⟨⟨old, he⟩, hi, hne⟩ := st; ⟨⟨old, k e (by simp) _ he⟩, hi.at fun o q => k it (by simp) o q, hne⟩
  item := by
    intro X hP hw hK hc i pins s σ H E I hf st hg
    subst hP hw hK
    obtain ⟨⟨old, he⟩, hit, hne⟩ := st
    obtain ⟨xs, x, hq, hx⟩ := hg
    obtain ⟨its, rv, p, hz⟩ := I.list hq
    obtain ⟨u, hu, ru⟩ := rv.get hx
    have hel : e < s.heap.objs.size := Heap.lt_size he
    have hil : it < s.heap.objs.size := by obtain ⟨_, q, _⟩ := hit; exact Heap.lt_size q
    refine wpAny_pyNext_enum_item he hit p.isList (x := u) (by simpa using hu) hne fun h' ho hit' hT hsz hk => ?_
    refine ⟨_, rfl, wpAny_letOwnedTupleGo_enum (s := { s with heap := h', toks := s.toks + 1 }) ho fun h'' he' sb => ?_⟩
    have hT2 : h''.get? s.heap.objs.size = some { cls := .type "tuple", data := .seq #[.int i s.toks, u] } := (sb.2 _ (Nat.ne_of_gt hel)).trans hT
    have new : ObjOk X.prog X.w (upd H s.heap.objs.size (.tup [.int (i : Nat), x])) h'' s.heap.objs.size (.tup [.int (i : Nat), x]) :=
      ⟨by show 2 ≤ sizeLine; decide, [.int i s.toks, u], .cons ⟨_, rfl⟩ (.cons ru .nil), ⟨_, hT2, rfl, _, rfl⟩⟩
    have I1 : Inv X pins σ (upd H s.heap.objs.size (.tup [.int (i : Nat), x])) { s with heap := h'', toks := s.toks + 1 } :=
      I.turnedNew (ch := [e, it]) (fun b ob hb q => (sb.2 b (fun z => hb (by simp [z]))).trans (hk b ob (fun z => hb (by simp [z])) (fun z => hb (by simp [z])) q)) hf (Nat.le_refl _) new
    refine ⟨.ref s.heap.objs.size, _, I1, rfl, ⟨_, x, rfl, I.hok.fresh (Nat.le_refl _), rfl, fun ys hy => by rw [I.list_inj hy hq]; exact hx⟩, ⟨⟨u, ?_⟩, hit'.at fun o q => (sb.2 it (Ne.symm hne)).trans q, hne⟩, fun b hb => ?_⟩
    · have e1 : ((i + 1 : Nat) : Int) = (i : Int) + 1 := by omega
      rw [e1]; exact he'
    · have hb' : b < s.heap.objs.size := by
        have e' : b = e ∨ b = it := by simpa using hb
        rcases e' with z | z
        · rw [z]; exact hel
        · rw [z]; exact hil
      rw [upd_ne (Nat.ne_of_lt hb')]
      exact (hf b hb).1
  done := by
    intro X hP hw hK hc i pins s σ H E I hf st hg
    subst hP hw hK
    obtain ⟨⟨old, he⟩, hit, hne⟩ := st
    obtain ⟨xs, hq, hx⟩ := hg
    obtain ⟨its, rv, p, hz⟩ := I.list hq
    obtain ⟨f0, f1, f2, f3, f4, f5⟩ := hf it (by simp)
    have hl := rv.length
    exact wpAny_pyNext_enum_end (I.ok.hd hc) he hit p.isList (by simp; omega) fun h' eb => ⟨rfl, I.turned (t' := s.toks) (fun b o hb q => eb b o hb q) f0 f1 f3 f4 f5⟩
  self := fun A i s Q E st h => let ⟨⟨_, he⟩, _⟩ := st; wpAny_pyIter_enum he h
def iEnum (K : PySem.W.Frag) (ta : TA) : TI := fun σ H R => ta σ H fun vs H1 => ∃ a xs, vs = [.ref a] ∧ SqL K H1 a xs ∧ R (Ite K a) H1
theorem pi_enum {X : Cx} {e : Expr} {ta : TA} {p pos tpos : Pos} {elts : List Expr} {kk : Nat} (hg : Gl X "enumerate") (hm : X.mg "enumerate" = none) (ha : PA X [e] ta) (hs : starEach [e] X.env = [(false, eval e X.env)] := by rfl) :
    PI X (.Tuple elts kk tpos) (.Call (.Name "enumerate" p) [e] [] pos) (iEnum X.K ta) := by
  intro pins s σ H R I h
  refine Call_ (ld_blt I hg hm boot_enumerate (PyProof.Rows.callWith_type1 (thn (ha pos pins s σ H _ I h) fun us s1 ⟨vs, H1, I1, r1, q1⟩ => ?_) hs rfl))
  obtain ⟨a, xs, ex, hq, q⟩ := q1
  subst ex
  cases r1 with
  | cons r rr =>
    cases rr
    cases r
    obtain ⟨its, rv, p', hz⟩ := I1.list hq
    refine call_enumerate_list p'.isList fun h' he hit hsz hk => wpAny_pyIter_enum he ?_
    have I2 : Inv X pins σ H1 { s1 with heap := h' } := I1.kept (t' := s1.toks) hk
    refine ⟨s1.heap.objs.size + 1, [s1.heap.objs.size + 1, s1.heap.objs.size], _, _, H1, rfl, I2, turn_enum a (s1.heap.objs.size + 1) s1.heap.objs.size, ⟨⟨.none, he⟩, hit, Nat.succ_ne_self _⟩, fun b hb => ?_, q⟩
    have e' : b = s1.heap.objs.size + 1 ∨ b = s1.heap.objs.size := by simpa using hb
    have hle : s1.heap.objs.size ≤ b := by
      rcases e' with z | z
      · rw [z]; exact Nat.le_add_right _ _
      · rw [z]; exact Nat.le_refl _
    exact I1.fpOk hle (I1.hok.fresh hle)
theorem boot_zip5 : bootBuiltins "zip" = some (.type "zip") := by decide +kernel
def Itz (K : PySem.W.Frag) (a b : Addr) : It :=
  ⟨fun i H => ∃ (xs ys : List V) (x y : V), SqL K H a xs ∧ SqL K H b ys ∧ xs[i]? = some x ∧ ys[i]? = some y,
    fun i H v H' => ∃ T x y, v = .ref T ∧ H T = none ∧ H' = upd H T (.tup [x, y]) ∧ (∀ xs, SqL K H a xs → xs[i]? = some x) ∧ ∀ ys, SqL K H b ys → ys[i]? = some y,
    fun i H => ∃ xs ys : List V, SqL K H a xs ∧ SqL K H b ys ∧ (xs.length ≤ i ∨ ys.length ≤ i)⟩
theorem turn_zip {P : Program} {w : World} {K : PySem.W.Frag} {elts : List Expr} {kk : Nat} {tpos : Pos} {a b z TI TO i1 i2 : Addr} (D : ZipApart z TI TO i1 i2 a b) :
    Turn P w K (.Tuple elts kk tpos) (Itz K a b) [z, TI, TO, i1, i2] z (fun i h => IsZip h z TI TO .none ∧ IsPair h TI (.ref i1) (.ref i2) ∧ (∃ x y, IsPair h TO x y) ∧ h.IsListIter i1 a i ∧ h.IsListIter i2 b i) where
  mem := by simp
  obj := fun i h st c hc => by
    obtain ⟨hz, hTI, ⟨x, y, hTO⟩, ⟨o1, e1, _, d1⟩, ⟨o2, e2, _, d2⟩⟩ := st
    have e' : c = z ∨ c = TI ∨ c = TO ∨ c = i1 ∨ c = i2 := by simpa using hc
    rcases e' with q | q | q | q | q
    · rw [q]; exact ⟨_, hz, fun v q => nomatch q⟩
    · rw [q]; exact ⟨_, hTI, fun v q => nomatch q⟩
    · rw [q]; exact ⟨_, hTO, fun v q => nomatch q⟩
    · rw [q]; exact ⟨o1, e1, fun v q => by rw [d1] at q; cases q⟩
    · rw [q]; exact ⟨o2, e2, fun v q => by rw [d2] at q; cases q⟩
  keep := fun i h h' st k => by
    obtain ⟨hz, hTI, ⟨x, y, hTO⟩, h1, h2⟩ := st
    exact ⟨k z (by simp) _ hz, k TI (by simp) _ hTI, ⟨x, y, k TO (by simp) _ hTO⟩, h1.at fun o q => k i1 (by simp) o q, h2.at fun o q => k i2 (by simp) o q⟩
  item := by
    intro X hP hw hK hc i pins s σ H E I hf st hg
    subst hP hw hK
    obtain ⟨hz, hTI, ⟨x0, y0, hTO⟩, h1, h2⟩ := st
    obtain ⟨xs, ys, x, y, hqx, hqy, hx, hy⟩ := hg
    obtain ⟨its, rv, p, _⟩ := I.list hqx
    obtain ⟨its2, rv2, p2, _⟩ := I.list hqy
    obtain ⟨u, hu, ru⟩ := rv.get hx
    obtain ⟨u2, hu2, ru2⟩ := rv2.get hy
    have hzl : z < s.heap.objs.size := Heap.lt_size hz
    refine wpAny_pyNext_zip_item D hz hTI hTO h1 h2 p.isList p2.isList (x := u) (y := u2) (by simpa using hu) (by simpa using hu2) fun h' z' TO' h1' h2' hT hsz hk => ?_
    refine ⟨_, rfl, wpAny_letOwnedTupleGo_zip (s := { s with heap := h' }) z' fun h'' z'' sb => ?_⟩
    have hT2 : h''.get? s.heap.objs.size = some { cls := .type "tuple", data := .seq #[u, u2] } := (sb.2 _ (Nat.ne_of_gt hzl)).trans hT
    have new : ObjOk X.prog X.w (upd H s.heap.objs.size (.tup [x, y])) h'' s.heap.objs.size (.tup [x, y]) :=
      ⟨by show 2 ≤ sizeLine; decide, [u, u2], .cons ru (.cons ru2 .nil), ⟨_, hT2, rfl, _, rfl⟩⟩
    have I1 : Inv X pins σ (upd H s.heap.objs.size (.tup [x, y])) { s with heap := h'' } :=
      I.turnedNew (t' := s.toks) (ch := [z, TI, TO, i1, i2]) (fun c o hb q => (sb.2 c (fun q' => hb (by simp [q']))).trans (hk c o (fun q' => hb (by simp [q'])) (fun q' => hb (by simp [q'])) (fun q' => hb (by simp [q'])) (fun q' => hb (by simp [q'])) q)) hf (Nat.le_refl _) new
    refine ⟨.ref s.heap.objs.size, _, I1, rfl, ⟨_, x, y, rfl, I.hok.fresh (Nat.le_refl _), rfl, fun l hl => by rw [I.list_inj hl hqx]; exact hx, fun l hl => by rw [I.list_inj hl hqy]; exact hy⟩, ⟨z'', ?_, ⟨u, u2, ?_⟩, ?_, ?_⟩, fun c hcm => ?_⟩
    · exact (sb.2 _ D.TIz).trans (hk _ _ D.TIz D.TITO D.TIi1 D.TIi2 hTI)
    · exact (sb.2 _ D.TOz).trans TO'
    · exact h1'.at fun o q => (sb.2 _ D.i1z).trans q
    · exact h2'.at fun o q => (sb.2 _ D.i2z).trans q
    · have hlt : c < s.heap.objs.size := by
        have e' : c = z ∨ c = TI ∨ c = TO ∨ c = i1 ∨ c = i2 := by simpa using hcm
        rcases e' with q | q | q | q | q
        · rw [q]; exact hzl
        · rw [q]; exact Heap.lt_size hTI
        · rw [q]; exact Heap.lt_size hTO
        · rw [q]; obtain ⟨_, e1, _⟩ := h1; exact Heap.lt_size e1
        · rw [q]; obtain ⟨_, e2, _⟩ := h2; exact Heap.lt_size e2
      rw [upd_ne (Nat.ne_of_lt hlt)]
      exact (hf c hcm).1
  done := by
    intro X hP hw hK hc i pins s σ H E I hf st hg
    subst hP hw hK
    obtain ⟨hz, hTI, ⟨x0, y0, hTO⟩, h1, h2⟩ := st
    obtain ⟨xs, ys, hqx, hqy, hend⟩ := hg
    obtain ⟨its, rv, p, _⟩ := I.list hqx
    obtain ⟨its2, rv2, p2, _⟩ := I.list hqy
    have l1 := rv.length
    have l2 := rv2.length
    have he : its.toArray[i]? = none ∨ its2.toArray[i]? = none := by
      rcases hend with q | q
      · exact .inl (by simp; omega)
      · exact .inr (by simp; omega)
    exact wpAny_pyNext_zip_end (I.ok.hd hc) D hz hTI hTO h1 h2 p.isList p2.isList he fun h' hk => ⟨rfl, I.turnedL (t' := s.toks) (ch := [z, TI, TO, i1, i2]) (fun c o hb q =>
      hk c o (fun q' => hb (by simp [q'])) (fun q' => hb (by simp [q'])) (fun q' => hb (by simp [q'])) (fun q' => hb (by simp [q'])) q) hf⟩
  self := fun A i s Q E st h => wpAny_pyIter_zip st.1 h
def iZip (K : PySem.W.Frag) (ta : TA) : TI := fun σ H R => ta σ H fun vs H1 => ∃ a b xs ys, vs = [.ref a, .ref b] ∧ SqL K H1 a xs ∧ SqL K H1 b ys ∧ R (Itz K a b) H1
theorem pi_zip {X : Cx} {e e2 : Expr} {ta : TA} {p pos tpos : Pos} {elts : List Expr} {kk : Nat} (hg : Gl X "zip") (hm : X.mg "zip" = none) (ha : PA X [e, e2] ta)
    (hs : starEach [e, e2] X.env = (false, eval e X.env) :: starEach [e2] X.env := by rfl) (hpl : (backTo pos (starEach [e2] X.env)).any (·.1) = false := by rfl) :
    PI X (.Tuple elts kk tpos) (.Call (.Name "zip" p) [e, e2] [] pos) (iZip X.K ta) := by
  intro pins s σ H R I h
  refine Call_ (ld_blt I hg hm boot_zip5 (PyProof.Rows.callWith_type1 (thn (ha pos pins s σ H _ I h) fun us s1 ⟨vs, H1, I1, r1, q1⟩ => ?_) hs hpl))
  obtain ⟨a, b, xs, ys, ex, hqx, hqy, q⟩ := q1
  subst ex
  cases r1 with
  | cons r rr =>
    cases rr with
    | cons r' rr =>
      cases rr
      cases r
      cases r'
      obtain ⟨its, rv, p1, _⟩ := I1.list hqx
      obtain ⟨its2, rv2, p2, _⟩ := I1.list hqy
      have la : a < s1.heap.objs.size := p1.lt
      have lb : b < s1.heap.objs.size := p2.lt
      refine call_zip_2 p1.isList p2.isList fun h' hz hTI hTO h1 h2 hsz hk => wpAny_pyIter_zip hz ?_
      have I2 : Inv X pins σ H1 { s1 with heap := h' } := I1.kept (t' := s1.toks) hk
      refine ⟨s1.heap.objs.size + 4, [s1.heap.objs.size + 4, s1.heap.objs.size + 2, s1.heap.objs.size + 3, s1.heap.objs.size, s1.heap.objs.size + 1], _, _, H1, rfl, I2, turn_zip (PySem.W.ktu_apart s1.heap.objs.size a b la lb), ⟨hz, hTI, ⟨_, _, hTO⟩, h1, h2⟩, fun c hcm => ?_, q⟩
      have e' : c = s1.heap.objs.size + 4 ∨ c = s1.heap.objs.size + 2 ∨ c = s1.heap.objs.size + 3 ∨ c = s1.heap.objs.size ∨ c = s1.heap.objs.size + 1 := by simpa using hcm
      have hle : s1.heap.objs.size ≤ c := by
        rcases e' with z | z | z | z | z
        · rw [z]; exact Nat.le_add_right _ _
        · rw [z]; exact Nat.le_add_right _ _
        · rw [z]; exact Nat.le_add_right _ _
        · rw [z]; exact Nat.le_refl _
        · rw [z]; exact Nat.le_add_right _ _
      exact I1.fpOk hle (I1.hok.fresh hle)
end L2
section 
namespace Bits
open PySem PyProof.Rows
end Bits
end 
section 
namespace TL
open PySem PySem.Builtin PySem.Builtin.Str PySem.StrLaws
end TL
end 
namespace L2
open PySem PySem.Spec PyProof.Rows
section
variable {X : Cx} {pins : List (Addr × Obj)} {σ : St} {H : Hp} {s : Shared} {Q : VK}
end
section
variable {X : Cx}
end
section
variable {X : Cx} {o e : Expr} {to te : TE}
end
end L2
namespace L2
open PySem PySem.Spec PyProof.Rows
section
variable {X : Cx}
end
end L2
namespace Att
open PySem PySem.W PySem.Calls PyProof.Rows
section
variable {prog : Program} {w : World} {A : Around} {E : Value → Shared → Prop} {s : Shared} {K : Frag}
end
end Att
namespace L2
open PySem PySem.Spec PyProof.Rows
end L2
namespace L2
open PySem PySem.Spec PyProof.Rows
end L2
namespace L2
open PySem PySem.Spec PyProof.Rows
def inClass (s : Stmt) (j : Nat) : Stmt := match s with
  | .ClassDef _ _ _ body _ _ _ _ _ _ _ => body.getD j (.Pass ⟨0, 0, 0, 0⟩)
  | _ => .Pass ⟨0, 0, 0, 0⟩
def defArgs (s : Stmt) : Arguments := match s with
  | .FunctionDef _ a _ _ _ _ _ _ _ _ => a
  | _ => { posonlyargs := [], args := [], vararg := none, kwonlyargs := [], kw_defaults := [], kwarg := none, defaults := [] }
def defBody (s : Stmt) : List Stmt := match s with
  | .FunctionDef _ _ b _ _ _ _ _ _ _ => b
  | _ => []
def defScope (s : Stmt) : Scope := match s with
  | .FunctionDef _ _ _ _ _ _ sc _ _ _ => sc
  | _ => { kind := .function, names := [], isGenerator := false, isCoroutine := false }
abbrev CX0 : CXT := fun _ _ _ _ _ _ => False
abbrev E0 : XK := fun _ _ _ => False
theorem pass0 {X : Cx} : Passes CX0 X E0 := fun _ _ _ _ _ _ _ h => h.elim
structure Fun (K : PySem.W.Frag) (x qual : Str) (st : Stmt) (f : Addr) (fd : FuncData) : Prop where
  ex : ∃ (oc : Value) (od : Option Addr) (kV doc pm : Value) (an : Option Addr) (cdv ct : Value) (osl : Array (Option Value)),
    fd = PySem.W.fnOf x qual (defArgs st) (defBody st) (defScope st) .none kV doc pm an cdv ct ∧ K.lookup f = some ⟨oc, od, .func fd, osl⟩ ∧ PySem.W.codeIn K cdv qual = true
  kp : PySem.W.keepIn K (.ref f) = true
section
variable {P : Program} {w : World} {K : PySem.W.Frag} {mg : Str → Option Value} {base : Heap}
theorem Fun.ok {x qual : Str} {st : Stmt} {f : Addr} {fd : FuncData} {N ps : List Str} {k : Nat} {sp : Sp} (F : Fun K x qual st f fd) (S : FnScope N ps (defScope st)) (len : ∀ vs H Q E, sp vs H Q E → vs.length = ps.length)
    (hbody : ∀ (cdv : Value) (A : Around) (outer : List Env) (s : Shared) (H : Hp) (vs : List V) (Q : VK) (E : XK), Room k (A.deeper (envOfC qual (defScope st) s.heap.objs.size f cdv)) → sp vs H Q E →
      ∃ t, PSs (cxOf CX0 P w K mg base N qual (defScope st) f cdv A outer s H E).nox (defBody st) t ∧ t { nx := fun _ H' => Q .non H', rt := Q } (start N vs) H) : FnOk P w K mg base CX0 (k + 1) f fd ps sp := by
  obtain ⟨oc, od, kV, doc, pm, an, cdv, ct, osl, rfl, lk, hcd⟩ := F.ex
  refine fn_of lk hcd S len fun A outer s H vs Q E hr hsp => ?_
  obtain ⟨t, h, q⟩ := hbody cdv A outer s H vs Q E hr hsp
  exact ⟨t, h.nox, q⟩
theorem Fun.binds {x qual : Str} {st : Stmt} {f : Addr} {fd : FuncData} {ps : List Str} (F : Fun K x qual st f fd)
    (h : ∀ (kV doc pm : Value) (an : Option Addr) (cdv ct : Value) (us : List Value), us.length = ps.length → bindArgs (PySem.W.fnOf x qual (defArgs st) (defBody st) (defScope st) .none kV doc pm an cdv ct) ⟨us, []⟩ = pure (ps.zip us)) : Binds K fd ps [] := by
  obtain ⟨oc, od, kV, doc, pm, an, cdv, ct, osl, rfl, lk, hcd⟩ := F.ex
  exact .all (h kV doc pm an cdv ct)
theorem fun_mk {x qual : Str} {st : Stmt} {f : Addr} {oc : Value} {od an : Option Addr} {osl : Array (Option Value)} {kV doc pm cdv ct : Value} (l : K.lookup f = some ⟨oc, od, .func (PySem.W.fnOf x qual (defArgs st) (defBody st) (defScope st) .none kV doc pm an cdv ct), osl⟩)
    (c : PySem.W.codeIn K cdv qual = true) (k : PySem.W.keepIn K (.ref f) = true) : Fun K x qual st f (PySem.W.fnOf x qual (defArgs st) (defBody st) (defScope st) .none kV doc pm an cdv ct) := ⟨⟨oc, od, kV, doc, pm, an, cdv, ct, osl, rfl, l, c⟩, k⟩
end
section
variable {X : Cx}
theorem pv (i : Nat) {x : Str} {pos : Pos} (hN : X.N[i]? = some x := by rfl) (hv : Vis X.env.scope x := by first | exact Or.inl rfl | exact Or.inr (Or.inl rfl) | exact Or.inr (Or.inr rfl)) (hd : (x == ("__debug__" : Str)) = false := by decide)
    (hcd : (x == ("__classdict__" : Str)) = false := by decide) : PE X (.Name x pos) (tVar i) := pe_var hN hv hd hcd
end
def Same (H H' : Hp) : Prop := ∀ b o, H b = some o → H' b = some o
theorem Same.refl (H : Hp) : Same H H := fun _ _ h => h
theorem Same.trans {H H1 H2 : Hp} (a : Same H H1) (b : Same H1 H2) : Same H H2 := fun c o h => b c o (a c o h)
theorem Same.free {H H' : Hp} (e : Same H H') {l : Addr} (h : H' l = Option.none) : H l = Option.none := by
  cases q : H l with
  | none => rfl
  | some o =>
    rw [e l o q] at h
    cases h
theorem Same.seq {K : PySem.W.Frag} {H H' : Hp} {a : Addr} {xs : List V} (e : Same H H') (h : SqL K H a xs) : SqL K H' a xs := by
  rcases h with (h | ⟨o, h⟩) | h
  · exact .inl (.inl (e _ _ h))
  · exact .inl (.inr ⟨o, e _ _ h⟩)
  · exact .inr h
section
variable {κ : Type} [DecidableEq κ]
theorem nd_snoc : ∀ {l : List κ} {k : κ}, l.Nodup → ¬ k ∈ l → (l ++ [k]).Nodup
  | [], k, _, _ => by simp
  | a :: r, k, h, hk => by
    obtain ⟨h1, h2⟩ := List.nodup_cons.mp h
    show (a :: (r ++ [k])).Nodup
    refine List.nodup_cons.mpr ⟨fun m => ?_, nd_snoc h2 fun m => hk (List.mem_cons.mpr (Or.inr m))⟩
    rcases List.mem_append.mp m with q | q
    · exact h1 q
    · exact hk (List.mem_cons.mpr (Or.inl (List.mem_singleton.mp q).symm))
end
theorem at_of {xs : List V} {z : Int} {j : Nat} {v : V} (e : z = (j : Int)) (h : xs[j]? = some v) : atI xs z = some v := by
  rw [e]
  exact atI_nat h
theorem nd_ix {α : Type} {l : List α} (hN : l.Nodup) {i j : Nat} {x : α} (a : l[i]? = some x) (b : l[j]? = some x) : i = j := by
  obtain ⟨h1, e1⟩ := List.getElem?_eq_some_iff.mp a
  obtain ⟨h2, e2⟩ := List.getElem?_eq_some_iff.mp b
  exact (List.getElem_inj hN).mp (e1.trans e2.symm)
end L2

end
section
set_option Elab.async false
set_option linter.all false
set_option maxRecDepth 100000
set_option maxHeartbeats 2000000
namespace L2
open PySem PySem.Spec PyProof.Rows
open PySem.W (WData Codec OpenSpec Well WellAll ReadsW ReadsAllW)
/-! ### an answer as data -/
mutual
/-- x stands for the datum d, lists and tuples all the way -/
inductive Dw (K : PySem.W.Frag) (H : Hp) : V → WData → Prop
  | non : Dw K H .non .none
  | bl (b : Bool) : Dw K H (.bl b) (.bool b)
  | int (i : Int) : Dw K H (.int i) (.int i)
  | str (x : Str) : Dw K H (.str x) (.str x)
  | byt (b : Array UInt8) : Dw K H (.byt b) (.bytes b.toList)
  | lst {a : Addr} {xs : List V} {ds : List WData} : SqL K H a xs → DwAll K H xs ds → Dw K H (.ref a) (.list ds)
  | tup {a : Addr} {xs : List V} {ds : List WData} : SqT K H a xs → DwAll K H xs ds → Dw K H (.ref a) (.tuple ds)
inductive DwAll (K : PySem.W.Frag) (H : Hp) : List V → List WData → Prop
  | nil : DwAll K H [] []
  | cons {v : V} {vs : List V} {d : WData} {ds : List WData} : Dw K H v d → DwAll K H vs ds → DwAll K H (v :: vs) (d :: ds)
end
theorem dw_ints {K : PySem.W.Frag} {H : Hp} : ∀ ns : List Int, DwAll K H (ns.map V.int) (ns.map WData.int)
  | [] => .nil
  | n :: r => .cons (.int n) (dw_ints r)
theorem ints_dw {K : PySem.W.Frag} {H : Hp} : ∀ (ns : List Int) (xs : List V), DwAll K H xs (ns.map WData.int) → xs = ns.map V.int
  | [], xs, h => by
    cases h
    rfl
  | n :: r, xs, h => by
    cases h with
    | cons h1 h2 =>
      cases h1
      rw [ints_dw r _ h2] <;> rfl
section
variable {P : Program} {w : World} {K : PySem.W.Frag} {H : Hp} {h : Heap} {R : PySem.W.WRecords} {cl : Str → Option Addr}
theorem sqL_at {a : Addr} {xs : List V} (hok : HOk P w H h) (KX : K.In h) (q : SqL K H a xs) : ∃ (its : List Value) (o : Obj) (n : Nat), Vals xs its ∧ h.get? a = some o ∧ o.cls = .type "list" ∧ o.data = .seq its.toArray n := by
  rcases q with q | ⟨o, its, n, e, hc, _, hd, _, hv⟩
  · obtain ⟨_, its, n, hv, e⟩ := (show ObjOk P w H h a (.lst xs) from q.ok hok)
    exact ⟨its, _, n, hv, e, rfl, rfl⟩
  · exact ⟨its.toList, o, n, hv, KX _ _ e, hc, by simp [hd]⟩
theorem sqT_at {a : Addr} {xs : List V} (hok : HOk P w H h) (KX : K.In h) (q : SqT K H a xs) : ∃ (its : List Value) (o : Obj) (n : Nat), Vals xs its ∧ h.get? a = some o ∧ o.cls = .type "tuple" ∧ o.data = .seq its.toArray n := by
  rcases q with q | ⟨o, its, n, e, hc, hd, _, hv⟩
  · obtain ⟨_, its, hv, o, e, hc, n, hd⟩ := (show ObjOk P w H h a (.tup xs) from q.ok hok)
    exact ⟨its, o, n, hv, e, hc, hd⟩
  · exact ⟨its.toList, o, n, hv, KX _ _ e, hc, by simp [hd]⟩
mutual
theorem Dw.reads (hok : HOk P w H h) (KX : K.In h) : ∀ (d : WData) (v : V) (u : Value), Dw K H v d → RelV v u → ∃ as, ReadsW R cl h u d as
  | .none, _, _, x, r => by
    cases x
    cases r
    exact ⟨_, ReadsW.none⟩
  | .bool b, _, _, x, r => by
    cases x
    cases r
    exact ⟨_, ReadsW.bool b⟩
  | .int i, _, _, x, r => by
    cases x
    obtain ⟨t, rfl⟩ := r
    exact ⟨_, ReadsW.int i t⟩
  | .str s, _, _, x, r => by
    cases x
    obtain ⟨t, rfl⟩ := r
    exact ⟨_, ReadsW.str s t⟩
  | .bytes b, _, _, x, r => by
    cases x
    obtain ⟨t, rfl⟩ := r
    exact ⟨_, ReadsW.bytes _ t⟩
  | .list ds, _, _, x, r => by
    cases x with
    | lst hs ha =>
      cases r
      obtain ⟨its, o, n, rv, ho, hc, hd⟩ := sqL_at hok KX hs
      obtain ⟨as, hr⟩ := Dw.readsAll hok KX ds _ its ha rv
      exact ⟨_, ReadsW.list ho hc hd hr⟩
  | .tuple ds, _, _, x, r => by
    cases x with
    | tup hs ha =>
      cases r
      obtain ⟨its, o, n, rv, ho, hc, hd⟩ := sqT_at hok KX hs
      obtain ⟨as, hr⟩ := Dw.readsAll hok KX ds _ its ha rv
      exact ⟨_, ReadsW.tuple ho hc hd hr⟩
  | .float _, _, _, x, _ => by cases x
  | .dict _, _, _, x, _ => by cases x
  | .bytearray _, _, _, x, _ => by cases x
  | .set _, _, _, x, _ => by cases x
  | .frozenset _, _, _, x, _ => by cases x
  | .obj _ _, _, _, x, _ => by cases x
theorem Dw.readsAll (hok : HOk P w H h) (KX : K.In h) : ∀ (ds : List WData) (vs : List V) (us : List Value), DwAll K H vs ds → Vals vs us → ∃ as, ReadsAllW R cl h us ds as
  | [], _, _, x, r => by
    cases x
    cases r
    exact ⟨_, ReadsAllW.nil⟩
  | d :: ds, _, _, x, r => by
    cases x with
    | cons h1 h2 =>
      cases r with
      | cons r1 r2 =>
        obtain ⟨as, q1⟩ := Dw.reads hok KX d _ _ h1 r1
        obtain ⟨bs, q2⟩ := Dw.readsAll hok KX ds _ _ h2 r2
        exact ⟨_, ReadsAllW.cons q1 q2⟩
end
end
/-! ### the arguments -/
mutual
/-- data that a codec tells -/
def plW : WData → Bool
  | .none => true
  | .bool _ => true
  | .int _ => true
  | .str _ => true
  | .bytes _ => true
  | .list xs => plWs xs
  | .tuple xs => plWs xs
  | _ => false
def plWs : List WData → Bool
  | [] => true
  | x :: r => plW x && plWs r
end
theorem plWs_map {α : Type} {f : α → WData} (h : ∀ a, plW (f a) = true) : ∀ l : List α, plWs (l.map f) = true
  | [] => rfl
  | x :: r => by
    show (plW (f x) && plWs (r.map f)) = true
    rw [h x, plWs_map h r] <;> rfl
theorem pl_enc : ∀ (c : Codec) (a : c.denote), plW (c.enc a) = true
  | .unit, _ => rfl
  | .bool, _ => rfl
  | .int _ _, _ => rfl
  | .nat _ _, _ => rfl
  | .u8, _ => rfl
  | .bytes _ _, _ => rfl
  | .text _ _ _ _, _ => rfl
  | .list _ _ c, a => plWs_map (fun x => pl_enc c x) a
  | .pair c d, a => by
    show (plW (c.enc a.1) && (plW (d.enc a.2) && true)) = true
    rw [pl_enc c a.1, pl_enc d a.2] <;> rfl
  | .triple c d e, a => by
    show (plW (c.enc a.1) && (plW (d.enc a.2.1) && (plW (e.enc a.2.2) && true))) = true
    rw [pl_enc c a.1, pl_enc d a.2.1, pl_enc e a.2.2] <;> rfl
  | .option c, none => rfl
  | .option c, some x => pl_enc c x
theorem pl_encAll : ∀ (cs : List Codec) (a : Codec.denoteAll cs), plWs (Codec.encAll cs a) = true
  | [], _ => rfl
  | c :: cs, a => by
    show (plW (c.enc a.1) && plWs (Codec.encAll cs a.2)) = true
    rw [pl_enc c a.1, pl_encAll cs a.2] <;> rfl
theorem weight_mem : ∀ {xs : List WData} {d : WData}, d ∈ xs → d.weight ≤ WData.weightAll xs
  | [], d, h => absurd h (by simp)
  | x :: r, d, h => by
    show d.weight ≤ x.weight + 1 + WData.weightAll r
    rcases List.mem_cons.mp h with e | m
    · rw [e]
      omega
    · have z := weight_mem m
      omega
def toV : Value → V
  | .none => .non
  | .bool b => .bl b
  | .int i _ => .int i
  | .str x _ => .str x
  | .bytes b _ => .byt b
  | .ref a => .ref a
  | _ => .non
/-- a value of the arguments, its objects among A -/
def OkU (A : List Addr) : Value → Prop
  | .none => True
  | .bool _ => True
  | .int _ _ => True
  | .str _ _ => True
  | .bytes _ _ => True
  | .ref a => a ∈ A
  | _ => False
theorem OkU.mono {A B : List Addr} (h : ∀ a ∈ A, a ∈ B) : ∀ {u : Value}, OkU A u → OkU B u := fun {u} x => by
  cases u with
  | ref a => exact h a x
  | none => trivial
  | bool b => trivial
  | int i t => trivial
  | str s t => trivial
  | bytes b t => trivial
  | _ => exact False.elim x
theorem relV_toV {A : List Addr} {u : Value} (x : OkU A u) : RelV (toV u) u := by
  cases u with
  | ref a => rfl
  | none => rfl
  | bool b => rfl
  | int i t => exact ⟨t, rfl⟩
  | str s t => exact ⟨t, rfl⟩
  | bytes b t => exact ⟨t, rfl⟩
  | _ => exact False.elim x
theorem vals_toV {A : List Addr} : ∀ {vs : List Value}, (∀ u ∈ vs, OkU A u) → Vals (vs.map toV) vs
  | [], _ => .nil
  | u :: r, h => .cons (relV_toV (h u (List.mem_cons_self ..))) (vals_toV fun x hx => h x (List.mem_cons_of_mem _ hx))
/-- an object of the arguments -/
def ArgOb (h : Heap) (A : List Addr) (a : Addr) : Prop := ∃ vs : List Value, vs.length ≤ sizeLine ∧ (∀ u ∈ vs, OkU A u) ∧
  (h.get? a = some { cls := .type "list", data := .seq vs.toArray } ∨ h.get? a = some { cls := .type "tuple", data := .seq vs.toArray })
theorem ArgOb.mono {h : Heap} {A B : List Addr} {a : Addr} (k : ∀ a ∈ A, a ∈ B) (x : ArgOb h A a) : ArgOb h B a := by
  obtain ⟨vs, h1, h2, h3⟩ := x
  exact ⟨vs, h1, fun u hu => (h2 u hu).mono k, h3⟩
theorem wellAll_len {P : Params} {h : Heap} : ∀ {vs : List Value} {ds : List WData}, WellAll P h vs ds → vs.length = ds.length
  | _, _, .nil => rfl
  | _, _, .cons _ b => by
    show _ + 1 = _ + 1
    rw [wellAll_len b]
theorem well_list {P : Params} {h : Heap} {v : Value} {ds : List WData} (x : Well P h v (.list ds)) : ∃ (a : Addr) (vs : List Value), v = .ref a ∧ h.get? a = some { cls := .type "list", data := .seq vs.toArray } ∧ WellAll P h vs ds := by
  cases x with
  | list ho hall => exact ⟨_, _, rfl, ho, hall⟩
theorem well_tuple {P : Params} {h : Heap} {v : Value} {ds : List WData} (x : Well P h v (.tuple ds)) : ∃ (a : Addr) (vs : List Value), v = .ref a ∧ h.get? a = some { cls := .type "tuple", data := .seq vs.toArray } ∧ WellAll P h vs ds := by
  cases x with
  | tuple ho hall => exact ⟨_, _, rfl, ho, hall⟩
theorem well_cons {P : Params} {h : Heap} {us : List Value} {d : WData} {ds : List WData} (x : WellAll P h us (d :: ds)) : ∃ (v : Value) (vs : List Value), us = v :: vs ∧ Well P h v d ∧ WellAll P h vs ds := by
  cases x with
  | cons a b => exact ⟨_, _, rfl, a, b⟩
theorem line_of {n : Nat} (h : n ≤ 1048576) : n ≤ sizeLine := Nat.le_trans h (by decide)
section
variable {P : Params} {h : Heap}
mutual
theorem area_one : ∀ (d : WData) (v : Value), Well P h v d → plW d = true → d.weight ≤ 1048576 → ∃ A : List Addr, OkU A v ∧ ∀ a ∈ A, ArgOb h A a
  | .none, _, x, _, _ => by
    cases x
    exact ⟨[], trivial, fun a m => absurd m (by simp)⟩
  | .bool b, _, x, _, _ => by
    cases x
    exact ⟨[], trivial, fun a m => absurd m (by simp)⟩
  | .int i, _, x, _, _ => by
    cases x
    exact ⟨[], trivial, fun a m => absurd m (by simp)⟩
  | .str s, _, x, _, _ => by
    cases x
    exact ⟨[], trivial, fun a m => absurd m (by simp)⟩
  | .bytes b, _, x, _, _ => by
    cases x
    exact ⟨[], trivial, fun a m => absurd m (by simp)⟩
  | .list ds, _, x, p, z => by
    obtain ⟨a, vs, rfl, ho, hall⟩ := well_list x
    have z2 : WData.weightAll ds ≤ 1048576 := z
    obtain ⟨A, h1, h2⟩ := area_all ds _ hall p fun d hd => Nat.le_trans (weight_mem hd) z2
    have k : ∀ b ∈ A, b ∈ a :: A := fun b hb => List.mem_cons_of_mem _ hb
    refine ⟨a :: A, List.mem_cons_self .., fun b hb => ?_⟩
    rcases List.mem_cons.mp hb with e | m
    · rw [e]
      exact ⟨vs, line_of (by rw [wellAll_len hall]; exact Nat.le_trans (PySem.W.length_le_weightAllW ds) z2), fun u hu => (h1 u hu).mono k, .inl ho⟩
    · exact (h2 b m).mono k
  | .tuple ds, _, x, p, z => by
    obtain ⟨a, vs, rfl, ho, hall⟩ := well_tuple x
    have z2 : WData.weightAll ds ≤ 1048576 := z
    obtain ⟨A, h1, h2⟩ := area_all ds _ hall p fun d hd => Nat.le_trans (weight_mem hd) z2
    have k : ∀ b ∈ A, b ∈ a :: A := fun b hb => List.mem_cons_of_mem _ hb
    refine ⟨a :: A, List.mem_cons_self .., fun b hb => ?_⟩
    rcases List.mem_cons.mp hb with e | m
    · rw [e]
      exact ⟨vs, line_of (by rw [wellAll_len hall]; exact Nat.le_trans (PySem.W.length_le_weightAllW ds) z2), fun u hu => (h1 u hu).mono k, .inr ho⟩
    · exact (h2 b m).mono k
  | .float _, _, _, p, _ => Bool.noConfusion (show false = true from p)
  | .dict _, _, _, p, _ => Bool.noConfusion (show false = true from p)
  | .bytearray _, _, _, p, _ => Bool.noConfusion (show false = true from p)
  | .set _, _, _, p, _ => Bool.noConfusion (show false = true from p)
  | .frozenset _, _, _, p, _ => Bool.noConfusion (show false = true from p)
  | .obj _ _, _, _, p, _ => Bool.noConfusion (show false = true from p)
theorem area_all : ∀ (ds : List WData) (vs : List Value), WellAll P h vs ds → plWs ds = true → (∀ d ∈ ds, d.weight ≤ 1048576) → ∃ A : List Addr, (∀ u ∈ vs, OkU A u) ∧ ∀ a ∈ A, ArgOb h A a
  | [], _, x, _, _ => by
    cases x
    exact ⟨[], fun u m => absurd m (by simp), fun a m => absurd m (by simp)⟩
  | d :: ds, _, x, p, z => by
    obtain ⟨v, vs, rfl, x1, x2⟩ := well_cons x
    have q : plW d = true ∧ plWs ds = true := Bool.and_eq_true_iff.mp p
    obtain ⟨A, a1, a2⟩ := area_one d v x1 q.1 (z d (List.mem_cons_self ..))
    obtain ⟨B, b1, b2⟩ := area_all ds vs x2 q.2 fun e he => z e (List.mem_cons_of_mem _ he)
    have kA : ∀ b ∈ A, b ∈ A ++ B := fun b hb => List.mem_append.mpr (.inl hb)
    have kB : ∀ b ∈ B, b ∈ A ++ B := fun b hb => List.mem_append.mpr (.inr hb)
    refine ⟨A ++ B, fun u hu => ?_, fun b hb => ?_⟩
    · rcases List.mem_cons.mp hu with e | m
      · rw [e]
        exact a1.mono kA
      · exact (b1 u m).mono kB
    · rcases List.mem_append.mp hb with m | m
      · exact (a2 b m).mono kA
      · exact (b2 b m).mono kB
end
end
/-- what is tracked of an argument's object -/
def hoOf (o : Obj) : Option HO := match o.data with
  | .seq vs _ => if (o.cls == Value.type "list") = true then some (.frz o (.lst (vs.toList.map toV))) else some (.frz o (.tup (vs.toList.map toV)))
  | _ => none
def argH (K : PySem.W.Frag) (h : Heap) (A : List Addr) : Hp := fun b => if b ∈ A then (if (K.lookup b).isNone = true then (h.get? b).bind hoOf else none) else none
/-- nothing is tracked but what is known to the object -/
def OnlyF (H : Hp) : Prop := ∀ b, H b = none ∨ ∃ o u, H b = some (.frz o u)
theorem hoOf_lst (vs : List Value) : hoOf { cls := .type "list", data := .seq vs.toArray } = some (.frz { cls := .type "list", data := .seq vs.toArray } (.lst (vs.map toV))) := by
  show (if (Value.type "list" == Value.type "list") = true then some (HO.frz { cls := .type "list", data := .seq vs.toArray } (.lst (vs.toArray.toList.map toV))) else some (HO.frz { cls := .type "list", data := .seq vs.toArray } (.tup (vs.toArray.toList.map toV)))) = _
  rw [if_pos (beq_self_eq_true _)]
theorem hoOf_tup (vs : List Value) : hoOf { cls := .type "tuple", data := .seq vs.toArray } = some (.frz { cls := .type "tuple", data := .seq vs.toArray } (.tup (vs.map toV))) := by
  show (if (Value.type "tuple" == Value.type "list") = true then some (HO.frz { cls := .type "tuple", data := .seq vs.toArray } (.lst (vs.toArray.toList.map toV))) else some (HO.frz { cls := .type "tuple", data := .seq vs.toArray } (.tup (vs.toArray.toList.map toV)))) = _
  rw [if_neg (by decide)]
section
variable {P : Program} {w : World} {K : PySem.W.Frag} {h : Heap} {A : List Addr}
theorem argH_at {b : Addr} {o : Obj} (hb : b ∈ A) (hk : K.lookup b = none) (e : h.get? b = some o) : argH K h A b = hoOf o := by
  unfold argH
  rw [if_pos hb, hk, if_pos (show (none : Option Obj).isNone = true from rfl), e] <;> rfl
theorem of_argH {b : Addr} {u : HO} (q : argH K h A b = some u) : b ∈ A ∧ K.lookup b = none := by
  unfold argH at q
  by_cases hb : b ∈ A
  · rw [if_pos hb] at q
    cases hk : K.lookup b with
    | none => exact ⟨hb, rfl⟩
    | some o =>
      rw [hk, if_neg (by simp)] at q
      cases q
  · rw [if_neg hb] at q
    cases q
/-- what stands tracked -/
theorem argH_is (ar : ∀ a ∈ A, ArgOb h A a) {b : Addr} {u : HO} (q : argH K h A b = some u) : K.lookup b = none ∧ ∃ vs : List Value, vs.length ≤ sizeLine ∧ (∀ u ∈ vs, OkU A u) ∧
    ((h.get? b = some { cls := .type "list", data := .seq vs.toArray } ∧ u = .frz { cls := .type "list", data := .seq vs.toArray } (.lst (vs.map toV))) ∨
     (h.get? b = some { cls := .type "tuple", data := .seq vs.toArray } ∧ u = .frz { cls := .type "tuple", data := .seq vs.toArray } (.tup (vs.map toV)))) := by
  obtain ⟨hb, hk⟩ := of_argH q
  obtain ⟨vs, h1, h2, h3⟩ := ar b hb
  refine ⟨hk, vs, h1, h2, ?_⟩
  rcases h3 with e | e
  · rw [argH_at hb hk e, hoOf_lst] at q
    exact .inl ⟨e, (Option.some.inj q).symm⟩
  · rw [argH_at hb hk e, hoOf_tup] at q
    exact .inr ⟨e, (Option.some.inj q).symm⟩
theorem argH_only (ar : ∀ a ∈ A, ArgOb h A a) : OnlyF (argH K h A) := fun b => by
  cases q : argH K h A b with
  | none => exact .inl rfl
  | some u =>
    obtain ⟨_, vs, _, _, ⟨_, e⟩ | ⟨_, e⟩⟩ := argH_is ar q
    · exact .inr ⟨_, _, by rw [e]⟩
    · exact .inr ⟨_, _, by rw [e]⟩
theorem argH_ok (ar : ∀ a ∈ A, ArgOb h A a) : HOk P w (argH K h A) h := fun b u q => by
  obtain ⟨_, vs, h1, h2, ⟨e, rfl⟩ | ⟨e, rfl⟩⟩ := argH_is ar q
  · exact ⟨e, by rw [List.length_map]; exact h1, vs, _, vals_toV h2, e⟩
  · exact ⟨e, by rw [List.length_map]; exact h1, vs, vals_toV h2, _, e, rfl, _, rfl⟩
theorem seq_inj {c c' : Value} {vs us : List Value} (e : (some { cls := c, data := .seq vs.toArray } : Option Obj) = some { cls := c', data := .seq us.toArray }) : c = c' ∧ vs = us := by
  have e1 := Option.some.inj e
  have e2 : c = c' := congrArg Obj.cls e1
  have e3 : Data.seq vs.toArray = Data.seq us.toArray := congrArg Obj.data e1
  injection e3 with e4
  refine ⟨e2, ?_⟩
  have e5 := congrArg Array.toList e4
  simpa using e5
/-- a list argument -/
theorem argL (KX : K.In h) (ar : ∀ a ∈ A, ArgOb h A a) {a : Addr} {vs : List Value} (ha : a ∈ A) (e : h.get? a = some { cls := .type "list", data := .seq vs.toArray }) : (∀ u ∈ vs, OkU A u) ∧ SqL K (argH K h A) a (vs.map toV) := by
  obtain ⟨us, h1, h2, h3⟩ := ar a ha
  have hu : us = vs := by
    rcases h3 with q | q
    · rw [e] at q
      exact (seq_inj q).2.symm
    · rw [e] at q
      exact absurd (Value.type.inj (seq_inj q).1) (by decide)
  subst hu
  refine ⟨h2, ?_⟩
  cases hk : K.lookup a with
  | none => exact .inl (.inr ⟨_, by rw [argH_at ha hk e, hoOf_lst]⟩)
  | some o =>
    have e2 := KX a o hk
    rw [e] at e2
    obtain rfl := Option.some.inj e2
    exact .inr ⟨_, us.toArray, _, hk, rfl, rfl, rfl, by rw [List.size_toArray]; exact h1, by simpa using vals_toV h2⟩
theorem argT (KX : K.In h) (ar : ∀ a ∈ A, ArgOb h A a) {a : Addr} {vs : List Value} (ha : a ∈ A) (e : h.get? a = some { cls := .type "tuple", data := .seq vs.toArray }) : (∀ u ∈ vs, OkU A u) ∧ SqT K (argH K h A) a (vs.map toV) := by
  obtain ⟨us, h1, h2, h3⟩ := ar a ha
  have hu : us = vs := by
    rcases h3 with q | q
    · rw [e] at q
      exact absurd (Value.type.inj (seq_inj q).1) (by decide)
    · rw [e] at q
      exact (seq_inj q).2.symm
  subst hu
  refine ⟨h2, ?_⟩
  cases hk : K.lookup a with
  | none => exact .inl (.inr ⟨_, by rw [argH_at ha hk e, hoOf_tup]⟩)
  | some o =>
    have e2 := KX a o hk
    rw [e] at e2
    obtain rfl := Option.some.inj e2
    exact .inr ⟨_, us.toArray, _, hk, rfl, rfl, by rw [List.size_toArray]; exact h1, by simpa using vals_toV h2⟩
mutual
theorem dw_one {Pm : Params} (KX : K.In h) (ar : ∀ a ∈ A, ArgOb h A a) : ∀ (d : WData) (v : Value), Well Pm h v d → plW d = true → OkU A v → Dw K (argH K h A) (toV v) d
  | .none, _, x, _, _ => by
    cases x
    exact .non
  | .bool b, _, x, _, _ => by
    cases x
    exact .bl b
  | .int i, _, x, _, _ => by
    cases x
    exact .int i
  | .str s, _, x, _, _ => by
    cases x
    exact .str s
  | .bytes b, _, x, _, _ => by
    cases x
    have z := Dw.byt (K := K) (H := argH K h A) b.toArray
    exact z
  | .list ds, _, x, p, hu => by
    obtain ⟨a, vs, rfl, ho, hall⟩ := well_list x
    obtain ⟨h2, hs⟩ := argL KX ar hu ho
    exact .lst hs (dw_all KX ar ds _ hall p h2)
  | .tuple ds, _, x, p, hu => by
    obtain ⟨a, vs, rfl, ho, hall⟩ := well_tuple x
    obtain ⟨h2, hs⟩ := argT KX ar hu ho
    exact .tup hs (dw_all KX ar ds _ hall p h2)
  | .float _, _, _, p, _ => Bool.noConfusion (show false = true from p)
  | .dict _, _, _, p, _ => Bool.noConfusion (show false = true from p)
  | .bytearray _, _, _, p, _ => Bool.noConfusion (show false = true from p)
  | .set _, _, _, p, _ => Bool.noConfusion (show false = true from p)
  | .frozenset _, _, _, p, _ => Bool.noConfusion (show false = true from p)
  | .obj _ _, _, _, p, _ => Bool.noConfusion (show false = true from p)
theorem dw_all {Pm : Params} (KX : K.In h) (ar : ∀ a ∈ A, ArgOb h A a) : ∀ (ds : List WData) (vs : List Value), WellAll Pm h vs ds → plWs ds = true → (∀ u ∈ vs, OkU A u) → DwAll K (argH K h A) (vs.map toV) ds
  | [], _, x, _, _ => by
    cases x
    exact .nil
  | d :: ds, _, x, p, hu => by
    obtain ⟨v, vs, rfl, x1, x2⟩ := well_cons x
    have q : plW d = true ∧ plWs ds = true := Bool.and_eq_true_iff.mp p
    exact .cons (dw_one KX ar d v x1 q.1 (hu _ (List.mem_cons_self ..))) (dw_all KX ar ds vs x2 q.2 fun u m => hu u (List.mem_cons_of_mem _ m))
end
end
/-! ### the call -/
theorem spec_call {P : Program} {w : World} {K : PySem.W.Frag} {mg mb : Str → Option Value} {CX : CXT} {k : Nat} {fa : Addr} {fd : FuncData} {ps : List Str} {sp : Sp} {s₁ : Shared} {vals : List Value} {ds : List WData} {R : PySem.W.WRecords} {cl : Str → Option Addr} {d0 : WData}
    (KX : K.In s₁.heap) (hns : s₁.heap.Ns mainGlobals mg) (hb : s₁.heap.Ns builtinsNs mb) (hbb : ∀ x : Str, x ≠ "__name__" → mb x = bootBuiltins x) (hlim : s₁.heap.NoLimit) (hg : s₁.gens = #[])
    (hwl : WellAll w.params s₁.heap vals ds) (hpl : plWs ds = true) (hwt : ∀ d ∈ ds, d.weight ≤ 1048576) (hr : Room k callerA)
    (F : ∀ base : Heap, K.In base → base.Ns mainGlobals mg → FnOk P w K mg base CX k fa fd ps sp) (hbind : ∀ (s : Shared) (us : List Value), us.length = ps.length → BindsTo s fd ⟨us, []⟩ (ps.zip us)) (hlen : ds.length = ps.length)
    (hsp : ∀ (H : Hp) (xs : List V), OnlyF H → DwAll K H xs ds → sp xs H (fun v H' => Dw K H' v d0) fun _ _ _ => False)
    (hCX : ∀ H e s', CX [] H s₁ (fun _ _ _ => False) e s' → False) :
    codeAny (model P w) callerA (.call (.ref fa) ⟨vals, []⟩) (fun r s' => ∃ u as, r = .ok (.ret u) ∧ ReadsW R cl s'.heap u d0 as ∧ OldK s₁.heap s'.heap ∧ s'.os = s₁.os ∧ AllBare s'.gens) s₁ := by
  obtain ⟨A, ho, ar⟩ := area_all ds vals hwl hpl hwt
  have hO : OnlyF (argH K s₁.heap A) := argH_only ar
  have hok : HOk P w (argH K s₁.heap A) s₁.heap := argH_ok ar
  have hS := dw_all KX ar ds vals hwl hpl ho
  have hV := vals_toV ho
  have hK : ∀ b u, argH K s₁.heap A b = some u → K.lookup b = none := fun b u q => (argH_is ar q).1
  have noA : ∀ {b : Addr} {o : Obj} {es : Array DictEntry} {ep : Nat}, s₁.heap.get? b = some o → o.data = .dict es ep → argH K s₁.heap A b = none := fun {b o es ep} e d => by
    cases q : argH K s₁.heap A b with
    | none => rfl
    | some u =>
      obtain ⟨_, vs, _, _, ⟨e2, _⟩ | ⟨e2, _⟩⟩ := argH_is ar q
      · rw [e2] at e
        cases e
        have d' : Data.seq vs.toArray _ = Data.dict es ep := d
        cases d'
      · rw [e2] at e
        cases e
        have d' : Data.seq vs.toArray _ = Data.dict es ep := d
        cases d'
  generalize argH K s₁.heap A = H at hO hok hS hK noA
  have base_of : ∀ {b : Addr} {o : Obj}, s₁.heap.get? b = some o → H b = none → (hidT s₁.heap H).get? b = some o := fun e n => hidT_get e n
  have nsK : ∀ {b : Addr} {m : Str → Option Value}, s₁.heap.Ns b m → (hidT s₁.heap H).Ns b m := fun {b m} ⟨o, es, ep, e, d, r⟩ => ⟨o, es, ep, base_of e (noA e d), d, r⟩
  have nK : ∀ b o, K.lookup b = some o → H b = none := fun b o e => by
    cases q : H b with
    | none => rfl
    | some u =>
      rw [hK b u q] at e
      cases e
  have hKb : K.In (hidT s₁.heap H) := fun b o e => base_of (KX b o e) (nK b o e)
  have hM : Mod K mg (hidT s₁.heap H) := ⟨hKb, nsK hns, ⟨mb, nsK hb, hbb⟩, let ⟨mc, h1, h2⟩ := hlim; ⟨mc, nsK h1, h2⟩⟩
  have e0 : Env0 P w K mg (hidT s₁.heap H) callerA [] s₁ H := ⟨rfl, hM, fun b o e => of_hidT e, Nat.le_of_eq (hidT_size _ _), trivial, fun b hb => absurd (show b ∈ ([] : List Addr) from hb) (by simp), hok, .of_eq hg⟩
  have hl : vals.length = ps.length := by rw [wellAll_len hwl]; exact hlen
  refine codeAny_mono ((F _ hKb (nsK hns)).run callerA [] s₁ H ⟨vals, []⟩ vals (vals.map toV) _ _ hr e0 (hbind s₁ vals hl) hV (hsp H _ hO hS)) fun r s' x => ?_
  cases r with
  | error e => exact (hCX H e s' x).elim
  | ok fl =>
    cases fl with
    | next => exact False.elim x
    | brk => exact False.elim x
    | cont => exact False.elim x
    | ret u =>
      obtain ⟨v, H', os, bare, un, hok', r', q⟩ := x
      have kept : ∀ b o, s₁.heap.get? b = some o → s'.heap.get? b = some o := fun b o e => by
        cases q2 : H b with
        | none => exact un.keep b o e q2 (by intro z; exact absurd (show b ∈ ([] : List Addr) from z) (by simp)) (by simp)
        | some u2 =>
          rcases hO b with z | ⟨ob, u3, z⟩
          · rw [q2] at z
            cases z
          · have z2 := un.frzs b ob _ z
            obtain ⟨e1, _⟩ := hok b _ z
            obtain ⟨e2, _⟩ := hok' b _ z2
            rw [e] at e1
            cases e1
            exact e2
      have KX' : K.In s'.heap := fun b o e => kept b o (KX b o e)
      obtain ⟨as, hrd⟩ := Dw.reads (R := R) (cl := cl) hok' KX' d0 v u q r'
      exact ⟨u, as, rfl, hrd, OldK.of_keep kept, os, bare⟩
/-! ### the row -/
theorem layable_weight {ds : List WData} (h : WData.layableAll ds = true) : ∀ d ∈ ds, d.weight ≤ 1048576 := fun d hd =>
  (PySem.W.layableW_iff.mp (List.all_eq_true.mp h d hd)).2.2
theorem encAll_len : ∀ (cs : List Codec) (a : Codec.denoteAll cs), (Codec.encAll cs a).length = cs.length
  | [], _ => rfl
  | c :: cs, a => by
    show (Codec.encAll cs a.2).length + 1 = cs.length + 1
    rw [encAll_len cs a.2]
/-- the goal that k_headS leaves (case hc), from the promise of the row's def: whatever the arguments that the codecs let and the row asks for, the def gives what stands for enc (f ..) -/
theorem walk_spec {r : OpenSpec} {k : Nat} {q : Program} {loose : List Str} {XP : (Str → Option Value) → Heap → Prop} {YP : World → Heap → Prop} {d : DefRec} {K : Params → PySem.W.Frag} {CX : World → CXT} {ps : List Str} {sp : World → Sp}
    (hwell : r.wellSaid = true) (hdf : d.params.defaults = []) (hlen : r.args.length = ps.length) (hr : Room k callerA)
    (hY : ∀ (w : World) (h : Heap), YP w h → (K w.params).In h)
    (F : ∀ (w : World) (mg : Str → Option Value) (fa : Addr) (h : Heap), YP w h → (K w.params).In h → h.Ns mainGlobals mg → mg d.name = some (.ref fa) →
      ∃ fd : FuncData, (∀ (s : Shared) (us : List Value), us.length = ps.length → BindsTo s fd ⟨us, []⟩ (ps.zip us)) ∧
        ∀ base : Heap, (K w.params).In base → base.Ns mainGlobals mg → FnOk r.prog w (K w.params) mg base (CX w) k fa fd ps (sp w))
    (hsp : ∀ (w : World) (H : Hp) (xs : List V) (a : Codec.denoteAll r.args), OnlyF H → Codec.withinAll r.args a = true → Codec.app r.args r.asked a = true → DwAll (K w.params) H xs (Codec.encAll r.args a) →
      sp w xs H (fun v H' => Dw (K w.params) H' v (r.ret.enc (Codec.app r.args r.f a))) fun _ _ _ => False)
    (hCX : ∀ (w : World) (H : Hp) (s : Shared) (e : Value) (s' : Shared), CX w [] H s (fun _ _ _ => False) e s' → False) :
    PySem.W.WalkOS q loose XP YP r d [] (fun f vs => PySem.call f vs) := by
  intro w s_0 s₁ mg mb G Y fa o pm cd doc dV kV ho hd hcd hD hmg hg args vals as hpre hlay hrd hwl hlo
  obtain ⟨a, e1, e2⟩ := PySem.W.os_pre_some hpre
  obtain ⟨e3, hwi⟩ := Codec.encAll_of_decAll r.args args a e1
  subst e3
  have KX := hY w _ Y
  obtain ⟨fd, hb, hF⟩ := F w mg fa _ Y KX G.T.g hmg
  refine PySem.W.enter_call (codeAny_mono (spec_call (R := []) (cl := classAt s_0.heap) (d0 := r.ret.enc (Codec.app r.args r.f a)) KX G.T.g G.T.b G.T.builtins G.T.nolimit hg hwl (pl_encAll _ _) (layable_weight hlay) hr hF hb (by rw [encAll_len]; exact hlen)
    (fun H xs hO hS => hsp w H xs a hO hwi e2 hS) fun H e s' => hCX w H s₁ e s') fun r' s' hq => ?_)
  obtain ⟨u, as', rfl, h1, h2, h3, h4⟩ := hq
  exact ⟨.inl ⟨u, _, as', rfl, fun _ => rfl, h1, (OpenSpec.post_iff hwell hwi _ _).mpr rfl, fun z => Bool.noConfusion (show false = true from z)⟩, h2, h3, h4⟩
/-- the same where the promise hangs on the written part alone -/
theorem walk_specK {r : OpenSpec} {k : Nat} {q : Program} {loose : List Str} {XP : (Str → Option Value) → Heap → Prop} {YP : World → Heap → Prop} {d : DefRec} {K : Params → PySem.W.Frag} {CX : CXT} {ps : List Str} {sp : PySem.W.Frag → Sp}
    (hwell : r.wellSaid = true) (hdf : d.params.defaults = []) (hlen : r.args.length = ps.length) (hr : Room k callerA)
    (hY : ∀ (w : World) (h : Heap), YP w h → (K w.params).In h)
    (F : ∀ (w : World) (mg : Str → Option Value) (fa : Addr) (h : Heap), YP w h → (K w.params).In h → h.Ns mainGlobals mg → mg d.name = some (.ref fa) →
      ∃ fd : FuncData, (∀ (s : Shared) (us : List Value), us.length = ps.length → BindsTo s fd ⟨us, []⟩ (ps.zip us)) ∧
        ∀ base : Heap, (K w.params).In base → base.Ns mainGlobals mg → FnOk r.prog w (K w.params) mg base CX k fa fd ps (sp (K w.params)))
    (hsp : ∀ (K : PySem.W.Frag) (H : Hp) (xs : List V) (a : Codec.denoteAll r.args), OnlyF H → Codec.withinAll r.args a = true → Codec.app r.args r.asked a = true → DwAll K H xs (Codec.encAll r.args a) →
      sp K xs H (fun v H' => Dw K H' v (r.ret.enc (Codec.app r.args r.f a))) fun _ _ _ => False)
    (hCX : ∀ (H : Hp) (s : Shared) (e : Value) (s' : Shared), CX [] H s (fun _ _ _ => False) e s' → False) :
    PySem.W.WalkOS q loose XP YP r d [] (fun f vs => PySem.call f vs) :=
  walk_spec (K := K) (CX := fun _ => CX) (sp := fun w => sp (K w.params)) hwell hdf hlen hr hY F (fun w H xs a h1 h2 h3 h4 => hsp (K w.params) H xs a h1 h2 h3 h4) fun _ H s e s' => hCX H s e s'
end L2
-- rests on (row put in by the clerk, for the bench that shows a file only what it spells): KE.SpHead KE.OsShapes
end
section
set_option Elab.async false
set_option linter.all false
set_option maxRecDepth 100000
set_option maxHeartbeats 2000000
namespace My
open PySem PySem.Spec PyProof.Rows L2
section
variable {X : Cx}
/-- sorted(xs), ints, any length -/
def rSortedA (K : PySem.W.Frag) : List V → Hp → VK → Prop := fun vs H Q => ∃ (a : Addr) (ns : List Int), vs = [V.ref a] ∧ SqL K H a (ns.map V.int) ∧
  ∀ (ns' : List Int) (p : Addr), ns'.Perm ns → ns'.Pairwise (· ≤ ·) → H p = none → Q (.ref p) (upd H p (.lst (ns'.map V.int)))
theorem cr_sortedA : CallR X (.builtin "sorted") (rSortedA X.K) := by
  intro pins s σ H vs us Q I r h
  obtain ⟨a, ns, rfl, hs, q⟩ := h
  obtain ⟨its, rv, hl, hz⟩ := I.list hs
  rw [Vals.ref1 r]
  have hi := rv.ints
  rw [List.length_map] at hz
  refine PyProof.Rows.sorted_intsAny hl.isList hi (by rw [hi.length]; exact hz) fun out ns' h1 h2 h3 => ?_
  obtain ⟨ep, he'⟩ := PyProof.Rows.sortedAll_at s.heap its out
  have hlen : (ns'.map V.int).length ≤ sizeLine := by rw [List.length_map, h2.length_eq]; exact hz
  exact ⟨.ref _, upd H (s.heap.objs.size + 1) (.lst (ns'.map V.int)), I.laid (t' := s.toks) (fun _ _ => PyProof.Rows.sortedAll_old) (Nat.le_succ _) ⟨hlen, out.toList, ep, vals_of_ints h1, he'⟩, rfl, q ns' _ h2 h3 (I.hok.fresh (Nat.le_succ _))⟩
theorem count_eqU {x : V} : ∀ {xs : List V} {us : List Value}, Vals xs us → xs.all flatV = true → us.countP (eqU x) = xs.countP fun y => eqV y x
  | _, _, .nil, _ => rfl
  | y :: xs, u :: us, .cons r t, f => by
    rw [List.all_cons, Bool.and_eq_true] at f
    rw [List.countP_cons, List.countP_cons, eqU_of r f.1, count_eqU t f.2]
/-- xs.count(y), flat items -/
def rCount (K : PySem.W.Frag) : V → List V → Hp → VK → Prop := fun x xs H Q => ∃ (a : Addr) (ys : List V) (y : V), x = V.ref a ∧ xs = [y] ∧ SqL K H a ys ∧ flatV y = true ∧ ys.all flatV = true ∧
  Q (.int ((ys.countP fun z => eqV z y : Nat) : Int)) H
theorem mt_countL : MtR X "list.count" (rCount X.K) := by
  intro pins s σ H x xs v us Q I rx rxs h
  obtain ⟨a, ys, y, rfl, rfl, hs, fy, fys, q⟩ := h
  cases rx
  cases rxs with
  | cons ry rt =>
    rename_i uy ut
    cases rt
    obtain ⟨its, rv, ⟨⟨cls, dd, data, sl⟩, n, ho, hc, hdn, hd⟩, hlen⟩ := I.list hs
    simp only at hc hd
    subst hc hd
    refine call_meets PySem.F.slot_list_count ⟨_, ho, rfl⟩ PySem.F.entry_list_count (PySem.F.args_list_count_2 _ _)
      (SeqAt.list_countAt a its.toArray n dd sl uy (eqU y)) ⟨ho, fun u' hu' => mem_eqAt ry fy rv fys u' (by simpa using hu'), ?_⟩
    refine ⟨.int ((ys.countP fun z => eqV z y : Nat) : Int), H, I.tok _, ⟨s.toks, ?_⟩, q⟩
    rw [← count_eqU rv fys]
/-- isinstance(x, int) -/
def rIsInt (K : PySem.W.Frag) : List V → Hp → VK → Prop := fun xs H Q => (∃ i, xs = [.int i, .ty "int"] ∧ Q (.bl true) H) ∨ (∃ a ys, xs = [.ref a, .ty "int"] ∧ H a = some (.lst ys) ∧ Q (.bl false) H) ∨ (∃ a ys, xs = [.ref a, .ty "int"] ∧ H a = some (.tup ys) ∧ Q (.bl false) H)
theorem cr_isInt : CallR X (.builtin "isinstance") (rIsInt X.K) := by
  intro pins s σ H xs us Q I r h
  rcases h with ⟨i, rfl, q⟩ | ⟨a, ys, rfl, ha, q⟩ | ⟨a, ys, rfl, ha, q⟩
  · obtain ⟨u, v, rfl, r1, r2⟩ := r.two
    cases r2
    exact isinst_ok (b := true) I r1 (.int i) (by rfl) fun tk => ⟨.bl true, H, I.tok _, rfl, q⟩
  · obtain ⟨u, v, rfl, r1, r2⟩ := r.two
    cases r2
    exact isinst_ok (b := false) I r1 (.lst ha) (by rfl) fun tk => ⟨.bl false, H, I.tok _, rfl, q⟩
  · obtain ⟨u, v, rfl, r1, r2⟩ := r.two
    cases r2
    exact isinst_ok (b := false) I r1 (.tup ha) (by rfl) fun tk => ⟨.bl false, H, I.tok _, rfl, q⟩
/-- xs[i] by values -/
def rGetL (K : PySem.W.Frag) : V → V → Hp → VK → Prop := fun x y H Q => ∃ p xs, ∃ j : Nat, ∃ v, x = .ref p ∧ y = .int (j : Int) ∧ SqL K H p xs ∧ xs[j]? = some v ∧ Q v H
theorem get_list : PGet X (rGetL X.K) := by
  intro pins s σ H o i ov iv Q I ro ri h
  obtain ⟨p, xs, j, v, rfl, rfl, hs, hv, q⟩ := h
  cases ro
  obtain ⟨t, rfl⟩ := ri
  obtain ⟨its, r, pl, hz⟩ := I.list hs
  obtain ⟨u, hu, ru⟩ := r.get hv
  have hj : j < xs.length := (List.getElem?_eq_some_iff.mp hv).1
  have hn := line63
  exact wpAny_getItem_list pl.isList (by omega) (by omega) (by simpa using hu) ⟨v, H, I, ru, q⟩
end
end My
end
section
set_option Elab.async false
set_option linter.all false
set_option maxRecDepth 100000
set_option maxHeartbeats 2000000
namespace My
open PySem PySem.Spec PyProof.Rows L2
abbrev St := L2.St
/-- a goal as a letter: what is taken apart under it does not copy it -/
theorem gen {G : Prop} (h : ∀ G' : Prop, (G → G') → G') : G := h G id
/-! ### the text by places -/
def top (i : Nat) : Stmt := PySem.Challenge.pw_sheetreader_s01_answers.main.body.getD i (.Pass ⟨0, 0, 0, 0⟩)
/-! ### defs, classes, methods as callers take them -/
structure Def (P : Program) (w : World) (K : PySem.W.Frag) (mg : Str → Option Value) (base : Heap) (k : Nat) (x : Str) (ps : List Str) (sp : Sp) : Prop where
  ex : ∃ (f : Addr) (fd : FuncData), FnOk P w K mg base CX0 k f fd ps sp ∧ mg x = some (.ref f) ∧ PySem.W.keepIn K (.ref f) = true ∧ Binds K fd ps []
structure Mak (P : Program) (w : World) (K : PySem.W.Frag) (mg : Str → Option Value) (base : Heap) (k : Nat) (x : Str) (C : Addr) (ps : List Str) (sp : Sp) : Prop where
  ex : ∃ (f : Addr) (fd : FuncData), Mk K C f ∧ FnOk P w K mg base CX0 k f fd ps sp ∧ mg x = some (.ref C) ∧ Binds K fd ps []
structure Mth (P : Program) (w : World) (K : PySem.W.Frag) (mg : Str → Option Value) (base : Heap) (k : Nat) (C : Addr) (m : Str) (ps : List Str) (sp : Sp) : Prop where
  ex : ∃ (f : Addr) (fd : FuncData), Cls K C ∧ Meth K C m f ∧ FnOk P w K mg base CX0 k f fd ps sp ∧ Binds K fd ps []
section
variable {X : Cx} {k j : Nat} {x m : Str} {C : Addr} {ps : List Str} {sp : Sp} {e o : Expr} {es : List Expr} {t : TA} {ta : TE} {p pos apos : Pos}
theorem pe_def (D : Def X.prog X.w X.K X.mg X.base k x ps sp) (hr : Room j X.A) (hg : Gl X x) (ha : PA X (e :: es) t) (hj : k ≤ j := by decide) (hdb : (x == ("__debug__" : Str)) = false := by decide)
    (he : starEach (e :: es) X.env = (false, eval e X.env) :: starEach es X.env := by rfl) (hpl : (backTo pos (starEach es X.env)).any (·.1) = false := by rfl) :
    PE X (.Call (.Name x p) (e :: es) [] pos) (tCall sp [] E0 t) := by
  obtain ⟨f, fd, F, hm, hk, hb⟩ := D.ex
  exact pe_call F (hr.mono hj) hg hm hk hb .nil pass0 ha hdb he hpl
theorem pe_mak (D : Mak X.prog X.w X.K X.mg X.base k x C ps sp) (hr : Room j X.A) (hg : Gl X x) (ha : PA X (e :: es) t) (hj : k + 1 ≤ j := by decide) (hdb : (x == ("__debug__" : Str)) = false := by decide)
    (he : starEach (e :: es) X.env = (false, eval e X.env) :: starEach es X.env := by rfl) (hpl : (backTo pos (starEach es X.env)).any (·.1) = false := by rfl) :
    PE X (.Call (.Name x p) (e :: es) [] pos) (tMake C sp [] E0 t) := by
  obtain ⟨f, fd, M, F, hm, hb⟩ := D.ex
  exact pe_make M F (hr.mono hj) hg hm hb .nil pass0 ha hdb he hpl
theorem pe_mak0 (D : Mak X.prog X.w X.K X.mg X.base k x C ps sp) (hr : Room j X.A) (hg : Gl X x) (hj : k + 1 ≤ j := by decide) (hdb : (x == ("__debug__" : Str)) = false := by decide) :
    PE X (.Call (.Name x p) [] [] pos) (tMake C sp [] E0 tNil) := by
  obtain ⟨f, fd, M, F, hm, hb⟩ := D.ex
  exact pe_make0 M F (hr.mono hj) hg hm hb .nil pass0 hdb
theorem pe_mth {pl : Sem Bool} (he : PE X o ta) (D : Mth X.prog X.w X.K X.mg X.base k C m ps sp) (hr : Room j X.A) (ha : PA X (e :: es) t) (hj : k ≤ j := by decide)
    (hst : starEach (e :: es) X.env = (false, eval e X.env) :: starEach es X.env := by rfl) (hpl : (backTo pos (starEach es X.env)).any (·.1) = false := by rfl)
    (ht : eval (.Call (.Attribute o m apos) (e :: es) [] pos) X.env = (do
      let ov ← eval o X.env
      standAt apos.atName
      let (f, first) ← holding [ov] (getMethod ov m pl)
      callWith pos f first (backTo pos (starEach (e :: es) X.env)) (backToKw pos (keywordEach [] X.env))) := by rfl) :
    PE X (.Call (.Attribute o m apos) (e :: es) [] pos) (tMeth C m sp [] E0 ta t) := by
  obtain ⟨f, fd, c, M, F, hb⟩ := D.ex
  exact pe_meth he c M F (hr.mono hj) hb .nil pass0 ha hst hpl ht
theorem pe_mth0 {pl : Sem Bool} (he : PE X o ta) (D : Mth X.prog X.w X.K X.mg X.base k C m ps sp) (hr : Room j X.A) (hj : k ≤ j := by decide)
    (ht : eval (.Call (.Attribute o m apos) [] [] pos) X.env = (do
      let ov ← eval o X.env
      standAt apos.atName
      let (f, first) ← holding [ov] (getMethod ov m pl)
      callWith pos f first [] (backToKw pos (keywordEach [] X.env))) := by rfl) :
    PE X (.Call (.Attribute o m apos) [] [] pos) (tMeth C m sp [] E0 ta tNil) := by
  obtain ⟨f, fd, c, M, F, hb⟩ := D.ex
  exact pe_meth0 he c M F (hr.mono hj) hb .nil pass0 ht
/-- a constant of the module -/
theorem pe_cst {i : Int} (h : ∃ t, X.mg x = some (Value.int i t)) (hg : Gl X x) (hd : (x == ("__debug__" : Str)) = false := by decide) : PE X (.Name x pos) (tC (.int i)) := by
  obtain ⟨t, h⟩ := h
  exact pe_glob hg h ⟨t, rfl⟩ hd
end
/-- the same rules with the written part named: within a comprehension -/
theorem pe_fldK {X : Cx} {K : PySem.W.Frag} {e : Expr} {f : Str} {pos : Pos} {ta : TE} (hK : X.K = K) (he : PE X e ta) (hb : attributeBase e f X.env (eval e X.env) = eval e X.env) : PE X (.Attribute e f pos) (tFld K ta f) := by
  subst hK
  exact pe_fld he hb
theorem pe_bmK {X : Cx} {K : PySem.W.Frag} {o e : Expr} {es : List Expr} {to : TE} {t : TA} {name : Str} {apos cpos : Pos} {T id : String} {r : V → List V → Hp → VK → Prop} (hK : X.K = K) (pa : PlainAttrs T) (slot : Slot T name id) (hty : typeOf (.builtin id) = pure (.type "method_descriptor")) (hm : MtR X id r) (ho : PE X o to) (ha : PA X (e :: es) t)
    (hbase : attributeBase o name X.env (eval o X.env) = eval o X.env := by rfl)
    (hfew : ((backTo cpos (starEach (e :: es) X.env)).all (fun x => !x.1) && (backToKw cpos (keywordEach [] X.env)).all (fun x => x.1.isSome)
      && decide ((e :: es).length + ([] : List Keyword).length + (if ([] : List Keyword).isEmpty then 0 else 1) < 30)) = true := by rfl)
    (hline : (apos.endLine == cpos.line) = true := by rfl) (hs : starEach (e :: es) X.env = (false, eval e X.env) :: starEach es X.env := by rfl) (hplain : (backTo cpos (starEach es X.env)).any (·.1) = false := by rfl) :
    PE X (.Call (.Attribute o name apos) (e :: es) [] cpos) (tBM K T r to t) := by
  subst hK
  exact pe_bm pa slot hty hm ho ha hbase hfew hline hs hplain
section
variable {X : Cx} {K : PySem.W.Frag}
theorem pi_listK {tg l : Expr} {tl : TE} (hK : X.K = K) (hl : PE X l tl) : PI X tg l (iList K tl) := by
  subst hK
  exact pi_list hl
theorem pg_tupK {es : List Expr} {k : Nat} {t : TGs} {n : Nat} {pos : Pos} (hK : X.K = K) (hc : X.calm = true) (h : PGs X es t)
    (hn : (assignEach es X.env).length = n := by rfl) (hst : (assignEach es X.env).findIdx? (·.1) = none := by rfl) : PG X (.Tuple es k pos) (gTup K n t) := by
  subst hK
  exact pg_tup hc h hn hst
theorem pi_enumK {e : Expr} {ta : TA} {p pos tpos : Pos} {elts : List Expr} {kk : Nat} (hK : X.K = K) (hg : Gl X "enumerate") (hm : X.mg "enumerate" = none) (ha : PA X [e] ta) (hs : starEach [e] X.env = [(false, eval e X.env)] := by rfl) :
    PI X (.Tuple elts kk tpos) (.Call (.Name "enumerate" p) [e] [] pos) (iEnum K ta) := by
  subst hK
  exact pi_enum hg hm ha hs
theorem pi_zipK {e e2 : Expr} {ta : TA} {p pos tpos : Pos} {elts : List Expr} {kk : Nat} (hK : X.K = K) (hg : Gl X "zip") (hm : X.mg "zip" = none) (ha : PA X [e, e2] ta)
    (hs : starEach [e, e2] X.env = (false, eval e X.env) :: starEach [e2] X.env := by rfl) (hpl : (backTo pos (starEach [e2] X.env)).any (·.1) = false := by rfl) :
    PI X (.Tuple elts kk tpos) (.Call (.Name "zip" p) [e, e2] [] pos) (iZip K ta) := by
  subst hK
  exact pi_zip hg hm ha hs hpl
theorem ps_fldK {o value : Expr} {f : Str} {pos pos' : Pos} {ta tv : TE} (hK : X.K = K) (ha : PE X o ta) (hv : PE X value tv) (hs : swapsWith value (some (.Attribute o f pos')) pos.line X.env = pure false) : PS X (.Assign [.Attribute o f pos'] value pos) (sFld K ta tv f) := by
  subst hK
  exact ps_fld ha hv hs
theorem ps_fldaugK {o value : Expr} {f : Str} {pos tpos : Pos} {ta tv : TE} {op : Operator} {rd : V → V → Hp → VK → Prop} (hK : X.K = K) (ha : PE X o ta) (hv : PE X value tv) (hop : InOp X op rd) : PS X (.AugAssign (.Attribute o f tpos) op value pos) (sFldAug K ta tv rd f) := by
  subst hK
  exact ps_fldaug ha hv hop
def rLen (K : PySem.W.Frag) : List V → Hp → VK → Prop := fun xs H Q => ∃ p ys, xs = [.ref p] ∧ (SqL K H p ys ∨ SqT K H p ys) ∧ Q (.int ys.length) H
theorem call_lenK (hK : X.K = K) : CallR X (.builtin "len") (rLen K) := by
  subst hK
  exact call_len_seq
end
/-! ### readings -/
def HasF (K : PySem.W.Frag) (H : Hp) (a : Addr) (f : Str) (v : V) : Prop := ∃ C dx fs, H a = some (.ins C dx fs) ∧ Cls K C ∧ NoAttr K C f ∧ fs.lookup f = some v
theorem rf {K : PySem.W.Frag} {H : Hp} {a : Addr} {f : Str} {v : V} {R : V → Prop} (h : HasF K H a f v) (q : R v) :
    ∃ a' C dx fs v', V.ref a = .ref a' ∧ H a' = some (.ins C dx fs) ∧ Cls K C ∧ NoAttr K C f ∧ fs.lookup f = some v' ∧ R v' := by
  obtain ⟨C, dx, fs, h1, h2, h3, h4⟩ := h
  exact ⟨a, C, dx, fs, v, rfl, h1, h2, h3, h4, q⟩
theorem HasF.mono {K : PySem.W.Frag} {H H' : Hp} {a : Addr} {f : Str} {v : V} (h : HasF K H a f v) (s : Same H H') : HasF K H' a f v := by
  obtain ⟨C, dx, fs, h1, h2⟩ := h
  exact ⟨C, dx, fs, s _ _ h1, h2⟩
theorem rand {b : Bool} {A B : Prop} (h1 : b = true → A) (h2 : b = false → B) : ∃ c, V.bl b = .bl c ∧ if c = true then A else B := by
  refine ⟨b, rfl, ?_⟩
  cases b with
  | true => rw [if_pos rfl]; exact h1 rfl
  | false => rw [if_neg Bool.false_ne_true]; exact h2 rfl
theorem rite {b : Bool} {A B : Prop} (h1 : b = true → A) (h2 : b = false → B) : if b = true then A else B := by
  cases b with
  | true => rw [if_pos rfl]; exact h1 rfl
  | false => rw [if_neg Bool.false_ne_true]; exact h2 rfl
theorem _root_.L2.Same.put {H H1 : Hp} {p : Addr} {o : HO} (s : Same H H1) (h : H1 p = none) : Same H (L2.upd H1 p o) := fun b o' e => by
  rw [upd_ne (ne_of_none (s b o' e) h)]
  exact s b o' e
theorem _root_.L2.Same.tup {K : PySem.W.Frag} {H H' : Hp} {a : Addr} {xs : List V} (e : Same H H') (h : SqT K H a xs) : SqT K H' a xs := by
  rcases h with (h | ⟨o, h⟩) | h
  · exact .inl (.inl (e _ _ h))
  · exact .inl (.inr ⟨o, e _ _ h⟩)
  · exact .inr h
theorem rband {b r : Bool} {A : Prop} {Q : VK} {H : Hp} (k : Q (.bl (b && r)) H) (h : Q (.bl r) H → A) : ∃ c, V.bl b = .bl c ∧ if c = true then A else Q (.bl false) H := by
  refine ⟨b, rfl, ?_⟩
  cases b with
  | true => rw [if_pos rfl]; exact h k
  | false => rw [if_neg Bool.false_ne_true]; exact k
theorem rbandS {b r : Bool} {A : Prop} {Q : VK} {H0 H : Hp} (s : Same H0 H) (k : ∀ H', Same H0 H' → Q (.bl (b && r)) H') (h : (∀ H', Same H0 H' → Q (.bl r) H') → A) : ∃ c, V.bl b = .bl c ∧ if c = true then A else Q (.bl false) H := by
  refine ⟨b, rfl, ?_⟩
  cases b with
  | true => rw [if_pos rfl]; exact h k
  | false => rw [if_neg Bool.false_ne_true]; exact k H s
/-! ### the data -/
structure Ad where
  C : Addr
  B : Addr
  S : Addr
  T : Addr
  U : Addr
def All2 {α : Type} (R : Addr → α → Prop) (as : List Addr) (xs : List α) : Prop := as.length = xs.length ∧ ∀ (i : Nat) (a : Addr) (x : α), as[i]? = some a → xs[i]? = some x → R a x
structure CornerAt (K : PySem.W.Frag) (H : Hp) (a : Addr) (c : Kp138.Anchor) : Prop where
  x : HasF K H a "x" (.int c.x)
  y : HasF K H a "y" (.int c.y)
  zero : HasF K H a "zero" (.int c.zero)
structure BoxAt (K : PySem.W.Frag) (H : Hp) (a : Addr) (b : Kp138.Box) : Prop where
  x : HasF K H a "x" (.int b.x)
  y : HasF K H a "y" (.int b.y)
  w : HasF K H a "w" (.int b.w)
  h : HasF K H a "h" (.int b.h)
  field : HasF K H a "field" (.int b.field)
  zero : HasF K H a "zero" (.int b.zero)
structure SheetAt (K : PySem.W.Frag) (H : Hp) (a : Addr) (s : Kp138.Sheet) (bs : List Kp138.Box) : Prop where
  width : HasF K H a "width" (.int s.width)
  height : HasF K H a "height" (.int s.height)
  shift : HasF K H a "shift" (.int s.shift)
  side : HasF K H a "side" (.int s.side)
  dust : HasF K H a "dust" (.int s.dust)
  noise : HasF K H a "noise" (.int s.noise)
  fill : HasF K H a "fill" (.int s.fill)
  blank : HasF K H a "blank" (.int s.blank)
  fields : HasF K H a "fields" (.int s.fields)
  corners : ∃ l as, HasF K H a "corners" (.ref l) ∧ H l = some (.lst (as.map V.ref)) ∧ All2 (CornerAt K H) as s.anchor
  boxes : ∃ l as, HasF K H a "boxes" (.ref l) ∧ H l = some (.lst (as.map V.ref)) ∧ All2 (BoxAt K H) as bs
theorem CornerAt.mono {K : PySem.W.Frag} {H H' : Hp} {a : Addr} {c : Kp138.Anchor} (h : CornerAt K H a c) (s : Same H H') : CornerAt K H' a c := ⟨h.x.mono s, h.y.mono s, h.zero.mono s⟩
theorem BoxAt.mono {K : PySem.W.Frag} {H H' : Hp} {a : Addr} {c : Kp138.Box} (h : BoxAt K H a c) (s : Same H H') : BoxAt K H' a c := ⟨h.x.mono s, h.y.mono s, h.w.mono s, h.h.mono s, h.field.mono s, h.zero.mono s⟩
theorem All2.mono {α : Type} {R R' : Addr → α → Prop} {as : List Addr} {xs : List α} (h : All2 R as xs) (i : ∀ a x, R a x → R' a x) : All2 R' as xs := ⟨h.1, fun n a x e1 e2 => i a x (h.2 n a x e1 e2)⟩
theorem All2.at {α : Type} {R : Addr → α → Prop} {as : List Addr} {xs : List α} (h : All2 R as xs) {n : Nat} {a : Addr} (e : as[n]? = some a) : ∃ x, xs[n]? = some x ∧ R a x := by
  have hn : n < as.length := (List.getElem?_eq_some_iff.mp e).1
  have hx : xs[n]? = some (xs[n]'(h.1 ▸ hn)) := List.getElem?_eq_getElem _
  exact ⟨_, hx, h.2 n a _ e hx⟩
theorem All2.of {α : Type} {R : Addr → α → Prop} {as : List Addr} {xs : List α} (h : All2 R as xs) {n : Nat} {x : α} (e : xs[n]? = some x) : ∃ a, as[n]? = some a ∧ R a x := by
  have hn : n < xs.length := (List.getElem?_eq_some_iff.mp e).1
  have hx : as[n]? = some (as[n]'(h.1 ▸ hn)) := List.getElem?_eq_getElem _
  exact ⟨_, hx, h.2 n _ x hx e⟩
theorem SheetAt.mono {K : PySem.W.Frag} {H H' : Hp} {a : Addr} {sh : Kp138.Sheet} {bs : List Kp138.Box} (h : SheetAt K H a sh bs) (s : Same H H') : SheetAt K H' a sh bs := by
  obtain ⟨h1, h2, h3, h4, h5, h6, h7, h8, h9, ⟨l, as, a1, a2, a3⟩, ⟨m, bs', b1, b2, b3⟩⟩ := h
  exact ⟨h1.mono s, h2.mono s, h3.mono s, h4.mono s, h5.mono s, h6.mono s, h7.mono s, h8.mono s, h9.mono s, ⟨l, as, a1.mono s, s _ _ a2, a3.mono fun _ _ q => q.mono s⟩, ⟨m, bs', b1.mono s, s _ _ b2, b3.mono fun _ _ q => q.mono s⟩⟩
/-- an item of a list of refs -/
theorem refs_at {as : List Addr} {n : Nat} {y : V} (h : (as.map V.ref)[n]? = some y) : ∃ a, as[n]? = some a ∧ y = .ref a := by
  rw [List.getElem?_map] at h
  obtain ⟨a, h1, h2⟩ := Option.map_eq_some_iff.mp h
  exact ⟨a, h1, h2.symm⟩
theorem ints_at {ns : List Int} {n : Nat} {y : V} (h : (ns.map V.int)[n]? = some y) : ∃ z, ns[n]? = some z ∧ y = .int z := by
  rw [List.getElem?_map] at h
  obtain ⟨a, h1, h2⟩ := Option.map_eq_some_iff.mp h
  exact ⟨a, h1, h2.symm⟩
end My
end
section
set_option Elab.async false
set_option linter.all false
set_option maxRecDepth 100000
set_option maxHeartbeats 2000000
namespace My
open PySem PySem.Spec PyProof.Rows L2
/-! ### promises -/
def t4 (a b c d : Int) : List V := [.int a, .int b, .int c, .int d]
def inB (n l m : Int) : Bool := decide (l ≤ n) && decide (n ≤ m)
def within4 (a0 a1 a2 a3 b0 b1 b2 b3 : Int) : Bool := decide (b0 ≤ a0) && (decide (b1 ≤ a1) && (decide (a2 ≤ b2) && decide (a3 ≤ b3)))
def over4 (a0 a1 a2 a3 b0 b1 b2 b3 : Int) : Bool := decide (a0 < b2) && (decide (b0 < a2) && (decide (a1 < b3) && decide (b1 < a3)))
def spBetween : Sp := fun vs H Q _ => ∃ n l m : Int, vs = [.int n, .int l, .int m] ∧ Q (.bl (inB n l m)) H
def spWithin (K : PySem.W.Frag) : Sp := fun vs H Q _ => ∃ (a b : Addr) (a0 a1 a2 a3 b0 b1 b2 b3 : Int), vs = [.ref a, .ref b] ∧ SqT K H a (t4 a0 a1 a2 a3) ∧ SqT K H b (t4 b0 b1 b2 b3) ∧ Q (.bl (within4 a0 a1 a2 a3 b0 b1 b2 b3)) H
def spOverlap (K : PySem.W.Frag) : Sp := fun vs H Q _ => ∃ (a b : Addr) (a0 a1 a2 a3 b0 b1 b2 b3 : Int), vs = [.ref a, .ref b] ∧ SqT K H a (t4 a0 a1 a2 a3) ∧ SqT K H b (t4 b0 b1 b2 b3) ∧ Q (.bl (over4 a0 a1 a2 a3 b0 b1 b2 b3)) H
def spSquare (K : PySem.W.Frag) : Sp := fun vs H Q _ => ∃ (a c : Addr) (s : Kp138.Sheet) (bs : List Kp138.Box) (A : Kp138.Anchor), vs = [.ref a, .ref c] ∧ SheetAt K H a s bs ∧ CornerAt K H c A ∧
  ∀ (H' : Hp) (p : Addr), Same H H' → H' p = some (.tup (t4 A.x A.y (A.x + s.side) (A.y + s.side))) → Q (.ref p) H'
def moreOf (s : Kp138.Sheet) : Int := 2 * s.shift + 1
def spZone (K : PySem.W.Frag) : Sp := fun vs H Q _ => ∃ (a c : Addr) (s : Kp138.Sheet) (bs : List Kp138.Box) (A : Kp138.Anchor), vs = [.ref a, .ref c] ∧ SheetAt K H a s bs ∧ CornerAt K H c A ∧
  ∀ (H' : Hp) (p : Addr), Same H H' → H' p = some (.tup (t4 (A.x - moreOf s) (A.y - moreOf s) (A.x + s.side + moreOf s) (A.y + s.side + moreOf s))) → Q (.ref p) H'
def spArea (K : PySem.W.Frag) : Sp := fun vs H Q _ => ∃ (c : Addr) (b : Kp138.Box), vs = [.ref c] ∧ BoxAt K H c b ∧
  ∀ (H' : Hp) (p : Addr), Same H H' → H' p = some (.tup (t4 b.x b.y (b.x + b.w) (b.y + b.h))) → Q (.ref p) H'
section
variable {P : Program} {w : World} {K : PySem.W.Frag} {mg : Str → Option Value} {base : Heap}
theorem sc5 : FnScope ["number", "least", "most"] ["number", "least", "most"] (defScope (top 5)) := ⟨rfl, rfl, rfl, by decide +kernel, rfl, by decide +kernel, by decide +kernel⟩
theorem ok5 {f : Addr} {fd : FuncData} (F : Fun K "between" "between" (top 5) f fd) : FnOk P w K mg base CX0 1 f fd ["number", "least", "most"] spBetween := by
  refine F.ok sc5 (fun vs H Q E h => ?_) (fun cdv A outer s H vs Q E hr h => ?_)
  · obtain ⟨n, l, m, rfl, _⟩ := h
    rfl
  · refine gen fun G' hG => ?_
    obtain ⟨n, l, m, rfl, k⟩ := h
    refine hG ?_
    refine ⟨_, pss_one (ps_ret (pe_and (pe_cmpR op_le (pv 1) (pv 0) (nomark _)) (pe_one (pe_cmpR op_le (pv 0) (pv 2) (nomark _))))), ?_⟩
    exact ⟨_, rfl, _, rfl, _, _, rfl, rfl, rband k fun k => ⟨_, rfl, _, rfl, _, _, rfl, rfl, k⟩⟩
theorem sc6 : FnScope ["inner", "outer"] ["inner", "outer"] (defScope (top 6)) := ⟨rfl, rfl, rfl, by decide +kernel, rfl, by decide +kernel, by decide +kernel⟩
theorem ok6 {f : Addr} {fd : FuncData} (F : Fun K "lies_within" "lies_within" (top 6) f fd) : FnOk P w K mg base CX0 1 f fd ["inner", "outer"] (spWithin K) := by
  refine F.ok sc6 (fun vs H Q E h => ?_) (fun cdv A outer s H vs Q E hr h => ?_)
  · obtain ⟨a, b, a0, a1, a2, a3, b0, b1, b2, b3, rfl, _⟩ := h
    rfl
  · refine gen fun G' hG => ?_
    obtain ⟨a, b, a0, a1, a2, a3, b0, b1, b2, b3, rfl, ha, hb, k⟩ := h
    refine hG ?_
    refine ⟨_, pss_one (ps_ret (pe_and (pe_cmpR op_le (pe_ix (r := rIxT K) ix_tup (pv 1) pe_int (fun _ _ => rfl)) (pe_ix (r := rIxT K) ix_tup (pv 0) pe_int (fun _ _ => rfl)) (nomark _))
      (pe_and (pe_cmpR op_le (pe_ix (r := rIxT K) ix_tup (pv 1) pe_int (fun _ _ => rfl)) (pe_ix (r := rIxT K) ix_tup (pv 0) pe_int (fun _ _ => rfl)) (nomark _))
      (pe_and (pe_cmpR op_le (pe_ix (r := rIxT K) ix_tup (pv 0) pe_int (fun _ _ => rfl)) (pe_ix (r := rIxT K) ix_tup (pv 1) pe_int (fun _ _ => rfl)) (nomark _))
      (pe_one (pe_cmpR op_le (pe_ix (r := rIxT K) ix_tup (pv 0) pe_int (fun _ _ => rfl)) (pe_ix (r := rIxT K) ix_tup (pv 1) pe_int (fun _ _ => rfl)) (nomark _))))))), ?_⟩
    refine ⟨_, rfl, b, _, _, _, rfl, rfl, hb, atI_nat (j := 0) rfl, _, rfl, a, _, _, _, rfl, rfl, ha, atI_nat (j := 0) rfl, _, _, rfl, rfl, rband k fun k => ?_⟩
    refine ⟨_, rfl, b, _, _, _, rfl, rfl, hb, atI_nat (j := 1) rfl, _, rfl, a, _, _, _, rfl, rfl, ha, atI_nat (j := 1) rfl, _, _, rfl, rfl, rband k fun k => ?_⟩
    refine ⟨_, rfl, a, _, _, _, rfl, rfl, ha, atI_nat (j := 2) rfl, _, rfl, b, _, _, _, rfl, rfl, hb, atI_nat (j := 2) rfl, _, _, rfl, rfl, rband k fun k => ?_⟩
    exact ⟨_, rfl, a, _, _, _, rfl, rfl, ha, atI_nat (j := 3) rfl, _, rfl, b, _, _, _, rfl, rfl, hb, atI_nat (j := 3) rfl, _, _, rfl, rfl, k⟩
theorem sc7 : FnScope ["one", "other"] ["one", "other"] (defScope (top 7)) := ⟨rfl, rfl, rfl, by decide +kernel, rfl, by decide +kernel, by decide +kernel⟩
theorem ok7 {f : Addr} {fd : FuncData} (F : Fun K "overlap" "overlap" (top 7) f fd) : FnOk P w K mg base CX0 1 f fd ["one", "other"] (spOverlap K) := by
  refine F.ok sc7 (fun vs H Q E h => ?_) (fun cdv A outer s H vs Q E hr h => ?_)
  · obtain ⟨a, b, a0, a1, a2, a3, b0, b1, b2, b3, rfl, _⟩ := h
    rfl
  · refine gen fun G' hG => ?_
    obtain ⟨a, b, a0, a1, a2, a3, b0, b1, b2, b3, rfl, ha, hb, k⟩ := h
    refine hG ?_
    refine ⟨_, pss_one (ps_ret (pe_and (pe_cmpR op_lt (pe_ix (r := rIxT K) ix_tup (pv 0) pe_int (fun _ _ => rfl)) (pe_ix (r := rIxT K) ix_tup (pv 1) pe_int (fun _ _ => rfl)) (nomark _))
      (pe_and (pe_cmpR op_lt (pe_ix (r := rIxT K) ix_tup (pv 1) pe_int (fun _ _ => rfl)) (pe_ix (r := rIxT K) ix_tup (pv 0) pe_int (fun _ _ => rfl)) (nomark _))
      (pe_and (pe_cmpR op_lt (pe_ix (r := rIxT K) ix_tup (pv 0) pe_int (fun _ _ => rfl)) (pe_ix (r := rIxT K) ix_tup (pv 1) pe_int (fun _ _ => rfl)) (nomark _))
      (pe_one (pe_cmpR op_lt (pe_ix (r := rIxT K) ix_tup (pv 1) pe_int (fun _ _ => rfl)) (pe_ix (r := rIxT K) ix_tup (pv 0) pe_int (fun _ _ => rfl)) (nomark _))))))), ?_⟩
    refine ⟨_, rfl, a, _, _, _, rfl, rfl, ha, atI_nat (j := 0) rfl, _, rfl, b, _, _, _, rfl, rfl, hb, atI_nat (j := 2) rfl, _, _, rfl, rfl, rband k fun k => ?_⟩
    refine ⟨_, rfl, b, _, _, _, rfl, rfl, hb, atI_nat (j := 0) rfl, _, rfl, a, _, _, _, rfl, rfl, ha, atI_nat (j := 2) rfl, _, _, rfl, rfl, rband k fun k => ?_⟩
    refine ⟨_, rfl, a, _, _, _, rfl, rfl, ha, atI_nat (j := 1) rfl, _, rfl, b, _, _, _, rfl, rfl, hb, atI_nat (j := 3) rfl, _, _, rfl, rfl, rband k fun k => ?_⟩
    exact ⟨_, rfl, b, _, _, _, rfl, rfl, hb, atI_nat (j := 1) rfl, _, rfl, a, _, _, _, rfl, rfl, ha, atI_nat (j := 3) rfl, _, _, rfl, rfl, k⟩
theorem sc8 : FnScope ["sheet", "corner"] ["sheet", "corner"] (defScope (top 8)) := ⟨rfl, rfl, rfl, by decide +kernel, rfl, by decide +kernel, by decide +kernel⟩
theorem ok8 {f : Addr} {fd : FuncData} (F : Fun K "square_of" "square_of" (top 8) f fd) : FnOk P w K mg base CX0 1 f fd ["sheet", "corner"] (spSquare K) := by
  refine F.ok sc8 (fun vs H Q E h => ?_) (fun cdv A outer s H vs Q E hr h => ?_)
  · obtain ⟨a, c, s, bs, A, rfl, _⟩ := h
    rfl
  · refine gen fun G' hG => ?_
    obtain ⟨a, c, s, bs, A, rfl, S, C, k⟩ := h
    refine hG ?_
    refine ⟨_, pss_one (ps_ret (pe_tup (pa_cons (pe_fldK (K := K) rfl (pv 1) rfl) (pa_cons (pe_fldK (K := K) rfl (pv 1) rfl) (pa_cons (pe_op op_add (pe_fldK (K := K) rfl (pv 1) rfl) (pe_fldK (K := K) rfl (pv 0) rfl)) (pa_cons (pe_op op_add (pe_fldK (K := K) rfl (pv 1) rfl) (pe_fldK (K := K) rfl (pv 0) rfl)) pa_nil)))))), ?_⟩
    refine ⟨_, rfl, rf C.x ⟨_, rfl, rf C.y ⟨_, rfl, rf C.x ⟨_, rfl, rf S.side ⟨_, _, rfl, rfl, _, rfl, rf C.y ⟨_, rfl, rf S.side ⟨_, _, rfl, rfl, ?_⟩⟩⟩⟩⟩⟩⟩
    exact ⟨by show 4 ≤ sizeLine; decide, fun p hp => k _ p ((Same.refl H).put hp) upd_same⟩
theorem sc9 : FnScope ["sheet", "corner", "more", "square"] ["sheet", "corner"] (defScope (top 9)) := ⟨rfl, rfl, rfl, by decide +kernel, rfl, by decide +kernel, by decide +kernel⟩
theorem ok9 {f : Addr} {fd : FuncData} (F : Fun K "zone_of" "zone_of" (top 9) f fd) (d8 : Def P w K mg base 1 "square_of" ["sheet", "corner"] (spSquare K)) : FnOk P w K mg base CX0 2 f fd ["sheet", "corner"] (spZone K) := by
  refine F.ok sc9 (fun vs H Q E h => ?_) (fun cdv A outer s H vs Q E hr h => ?_)
  · obtain ⟨a, c, s, bs, A, rfl, _⟩ := h
    rfl
  · refine gen fun G' hG => ?_
    obtain ⟨a, c, s, bs, A, rfl, S, C, k⟩ := h
    refine hG ?_
    refine ⟨_, pss_cons (ps_set (i := 2) sc9.nd rfl (Or.inl rfl) (pe_op op_add (pe_op op_mul pe_int (pe_fldK (K := K) rfl (pv 0) rfl)) pe_int))
      (pss_cons (ps_set (i := 3) sc9.nd rfl (Or.inl rfl) (pe_def d8 hr rfl (pa_cons (pv 0) (pa_cons (pv 1) pa_nil))))
      (pss_one (ps_ret (pe_tup (pa_cons (pe_op op_sub (pe_ix (r := rIxT K) ix_tup (pv 3) pe_int (fun _ _ => rfl)) (pv 2)) (pa_cons (pe_op op_sub (pe_ix (r := rIxT K) ix_tup (pv 3) pe_int (fun _ _ => rfl)) (pv 2)) (pa_cons (pe_op op_add (pe_ix (r := rIxT K) ix_tup (pv 3) pe_int (fun _ _ => rfl)) (pv 2)) (pa_cons (pe_op op_add (pe_ix (r := rIxT K) ix_tup (pv 3) pe_int (fun _ _ => rfl)) (pv 2)) pa_nil)))))))), ?_⟩
    refine ⟨_, rfl, rf S.shift ⟨_, _, rfl, rfl, .inl ⟨by decide, by decide⟩, _, _, rfl, rfl, _, rfl, _, rfl, a, c, s, bs, A, rfl, S, C, fun H' p hs hp => ?_⟩⟩
    refine ⟨_, rfl, p, _, _, _, rfl, rfl, SqT.of hp, atI_nat (j := 0) rfl, _, rfl, _, _, rfl, rfl, _, rfl, p, _, _, _, rfl, rfl, SqT.of hp, atI_nat (j := 1) rfl, _, rfl, _, _, rfl, rfl, ?_⟩
    refine ⟨_, rfl, p, _, _, _, rfl, rfl, SqT.of hp, atI_nat (j := 2) rfl, _, rfl, _, _, rfl, rfl, _, rfl, p, _, _, _, rfl, rfl, SqT.of hp, atI_nat (j := 3) rfl, _, rfl, _, _, rfl, rfl, ?_⟩
    exact ⟨by show 4 ≤ sizeLine; decide, fun q hq => k _ q (hs.put hq) upd_same⟩
theorem sc10 : FnScope ["box"] ["box"] (defScope (top 10)) := ⟨rfl, rfl, rfl, by decide +kernel, rfl, by decide +kernel, by decide +kernel⟩
theorem ok10 {f : Addr} {fd : FuncData} (F : Fun K "area_of" "area_of" (top 10) f fd) : FnOk P w K mg base CX0 1 f fd ["box"] (spArea K) := by
  refine F.ok sc10 (fun vs H Q E h => ?_) (fun cdv A outer s H vs Q E hr h => ?_)
  · obtain ⟨c, b, rfl, _⟩ := h
    rfl
  · refine gen fun G' hG => ?_
    obtain ⟨c, b, rfl, B, k⟩ := h
    refine hG ?_
    refine ⟨_, pss_one (ps_ret (pe_tup (pa_cons (pe_fldK (K := K) rfl (pv 0) rfl) (pa_cons (pe_fldK (K := K) rfl (pv 0) rfl) (pa_cons (pe_op op_add (pe_fldK (K := K) rfl (pv 0) rfl) (pe_fldK (K := K) rfl (pv 0) rfl)) (pa_cons (pe_op op_add (pe_fldK (K := K) rfl (pv 0) rfl) (pe_fldK (K := K) rfl (pv 0) rfl)) pa_nil)))))), ?_⟩
    refine ⟨_, rfl, rf B.x ⟨_, rfl, rf B.y ⟨_, rfl, rf B.x ⟨_, rfl, rf B.w ⟨_, _, rfl, rfl, _, rfl, rf B.y ⟨_, rfl, rf B.h ⟨_, _, rfl, rfl, ?_⟩⟩⟩⟩⟩⟩⟩
    exact ⟨by show 4 ≤ sizeLine; decide, fun p hp => k _ p ((Same.refl H).put hp) upd_same⟩
end
end My
end
section
set_option Elab.async false
set_option linter.all false
set_option maxRecDepth 100000
set_option maxHeartbeats 2000000
namespace My
open PySem PySem.Spec PyProof.Rows L2
/-- any iterator of n turns -/
theorem for_it {J : It} {n : Nat} {g : TG} {tb : TS} {D : Ends} {σ : St} {H : Hp} (Pv : Nat → St → Hp → Prop) (h0 : Pv 0 σ H) (hgo : ∀ i σ H, i < n → Pv i σ H → J.go i H) (hst : ∀ σ H, Pv n σ H → J.stop n H)
    (hs : ∀ i σ H x H', i < n → Pv i σ H → J.yld i H x H' → g x σ H' fun σ2 H2 => tb { D with nx := Pv (i + 1), ct := Pv (i + 1), bk := D.nx } σ2 H2) (hd : ∀ σ H, Pv n σ H → D.nx σ H) :
    ∃ W : Nat → Nat → St → Hp → Prop, (∃ m, W 0 m σ H) ∧ ∀ i m σ H, W i m σ H →
      (J.stop i H ∧ D.nx σ H) ∨ (J.go i H ∧ ∃ N : St → Hp → Prop, (∀ σ' H', N σ' H' → ∃ m', m' < m ∧ W (i + 1) m' σ' H') ∧ ∀ x H', J.yld i H x H' → g x σ H' fun σ2 H2 => tb { D with nx := N, ct := N, bk := D.nx } σ2 H2) := by
  refine ⟨fun i m σ H => m = n - i ∧ i ≤ n ∧ Pv i σ H, ⟨n, by simp, Nat.zero_le _, h0⟩, ?_⟩
  rintro i m σ H ⟨rfl, hi, p⟩
  by_cases hlt : i < n
  · exact .inr ⟨hgo i σ H hlt p, Pv (i + 1), fun σ' H' p' => ⟨n - (i + 1), by omega, rfl, hlt, p'⟩, fun x H' y => hs i σ H x H' hlt p y⟩
  · have e : i = n := by omega
    subst e
    exact .inl ⟨hst σ H p, hd σ H p⟩
theorem take_snoc {α : Type} : ∀ {l : List α} {i : Nat} {x : α}, l[i]? = some x → l.take (i + 1) = l.take i ++ [x]
  | [], i, x, h => by simp at h
  | a :: l, 0, x, h => by
    have e : a = x := Option.some.inj h
    subst e
    rfl
  | a :: l, i + 1, x, h => by
    have ih := take_snoc (l := l) (i := i) (x := x) h
    show a :: l.take (i + 1) = a :: l.take i ++ [x]
    rw [ih]
    rfl
/-- the rest of a block as a letter: what stands behind it is written once -/
theorem sg {t u : TS} {D : Ends} {σ : St} {H : Hp} (h : ∀ R : St → Hp → Prop, (∀ σ' H', u D σ' H' → R σ' H') → t { D with nx := R } σ H) : tSeq t u D σ H := h (u D) fun _ _ q => q
theorem for_itN {J : It} {n : Nat} {g : TG} {tb : TS} {D : Ends} {σ : St} {H : Hp} (Pv : Nat → St → Hp → Prop) (h0 : Pv 0 σ H) (hgo : ∀ i σ H, i < n → Pv i σ H → J.go i H) (hst : ∀ σ H, Pv n σ H → J.stop n H)
    (hs : ∀ i σ H x H' (N : St → Hp → Prop), (∀ σ' H', Pv (i + 1) σ' H' → N σ' H') → i < n → Pv i σ H → J.yld i H x H' → g x σ H' fun σ2 H2 => tb { D with nx := N, ct := N, bk := D.nx } σ2 H2) (hd : ∀ σ H, Pv n σ H → D.nx σ H) :
    ∃ W : Nat → Nat → St → Hp → Prop, (∃ m, W 0 m σ H) ∧ ∀ i m σ H, W i m σ H →
      (J.stop i H ∧ D.nx σ H) ∨ (J.go i H ∧ ∃ N : St → Hp → Prop, (∀ σ' H', N σ' H' → ∃ m', m' < m ∧ W (i + 1) m' σ' H') ∧ ∀ x H', J.yld i H x H' → g x σ H' fun σ2 H2 => tb { D with nx := N, ct := N, bk := D.nx } σ2 H2) :=
  for_it Pv h0 hgo hst (fun i σ H x H' => hs i σ H x H' (Pv (i + 1)) fun _ _ q => q) hd
theorem for_listN {K : PySem.W.Frag} {a : Addr} {xs : List V} {g : TG} {tb : TS} {D : Ends} {σ : St} {H : Hp} (Pv : Nat → St → Hp → Prop) (h0 : Pv 0 σ H) (hl : ∀ i σ H, i ≤ xs.length → Pv i σ H → SqL K H a xs)
    (hs : ∀ i x σ H (N : St → Hp → Prop), (∀ σ' H', Pv (i + 1) σ' H' → N σ' H') → xs[i]? = some x → Pv i σ H → g x σ H fun σ2 H2 => tb { D with nx := N, ct := N, bk := D.nx } σ2 H2) (hd : ∀ σ H, Pv xs.length σ H → D.nx σ H) :
    ∃ W : Nat → Nat → St → Hp → Prop, (∃ m, W 0 m σ H) ∧ ∀ i m σ H, W i m σ H →
      ((Itl K a).stop i H ∧ D.nx σ H) ∨ ((Itl K a).go i H ∧ ∃ N : St → Hp → Prop, (∀ σ' H', N σ' H' → ∃ m', m' < m ∧ W (i + 1) m' σ' H') ∧ ∀ x H', (Itl K a).yld i H x H' → g x σ H' fun σ2 H2 => tb { D with nx := N, ct := N, bk := D.nx } σ2 H2) :=
  for_list Pv h0 hl (fun i x σ H => hs i x σ H (Pv (i + 1)) fun _ _ q => q) hd
theorem for_rangeN {lo : Int} {n : Nat} {g : TG} {tb : TS} {D : Ends} {σ : St} {H : Hp} (Pv : Nat → St → Hp → Prop) (h0 : Pv 0 σ H)
    (hs : ∀ i σ H (N : St → Hp → Prop), (∀ σ' H', Pv (i + 1) σ' H' → N σ' H') → i < n → Pv i σ H → g (.int (lo + i)) σ H fun σ2 H2 => tb { D with nx := N, ct := N, bk := D.nx } σ2 H2) (hd : ∀ σ H, Pv n σ H → D.nx σ H) :
    ∃ W : Nat → Nat → St → Hp → Prop, (∃ m, W 0 m σ H) ∧ ∀ i m σ H, W i m σ H →
      ((Itr lo n).stop i H ∧ D.nx σ H) ∨ ((Itr lo n).go i H ∧ ∃ N : St → Hp → Prop, (∀ σ' H', N σ' H' → ∃ m', m' < m ∧ W (i + 1) m' σ' H') ∧ ∀ x H', (Itr lo n).yld i H x H' → g x σ H' fun σ2 H2 => tb { D with nx := N, ct := N, bk := D.nx } σ2 H2) :=
  for_range Pv h0 (fun i σ H => hs i σ H (Pv (i + 1)) fun _ _ q => q) hd
/-- a comprehension without tests over one name, whose element keeps all that was -/
theorem lcm {J : It} {n r : Nat} {item : Nat → V} {ys : List V} {te : TE} {vs : List Nat} {σ : St} {H1 : Hp} {D : Addr} {Qd : Hp → Prop} (hD : H1 D = none) (hn : ys.length = n) (hz : n ≤ sizeLine)
    (hgo : ∀ i H, i < n → Same H1 H → J.go i H) (hst : ∀ H, Same H1 H → J.stop n H) (hy : ∀ i H x H', i < n → Same H1 H → J.yld i H x H' → H' = H ∧ x = item i)
    (hw : ∀ x, wipe ((wipe σ vs).set r (some x)) vs = wipe σ vs)
    (he : ∀ j y H (R : VK), ys[j]? = some y → Same H1 H → (∀ H4, Same H H4 → R y H4) → te ((wipe σ vs).set r (some (item j))) H R) (hd : ∀ H, Same H1 H → H D = some (.lst ys) → Qd H) :
    ∃ W : Nat → Nat → Hp → Prop, (∃ m, W 0 m (upd H1 D (.lst []))) ∧ ∀ i m H, W i m H →
      (J.stop i H ∧ Qd H) ∨ (J.go i H ∧ ∃ Nx : Hp → Prop, (∀ H', Nx H' → ∃ m', m' < m ∧ W (i + 1) m' H') ∧ ∀ x H', J.yld i H x H' → gName r x (wipe σ vs) H' fun σ2 H2 => wipe σ2 vs = wipe σ vs ∧ tYes σ2 H2 fun b H3 =>
        if b = true then te σ2 H3 fun y H4 => ∃ acc, H4 D = some (.lst acc) ∧ acc.length < sizeLine ∧ Nx (upd H4 D (.lst (acc ++ [y]))) else Nx H3) := by
  subst hn
  refine ⟨fun i m H => m = ys.length - i ∧ i ≤ ys.length ∧ Same H1 H ∧ H D = some (.lst (ys.take i)), ⟨ys.length, by simp, Nat.zero_le _, (Same.refl H1).put hD, upd_same⟩, ?_⟩
  rintro i m H ⟨rfl, hi, s, hq⟩
  by_cases hlt : i < ys.length
  · refine .inr ⟨hgo i H hlt s, fun H' => Same H1 H' ∧ H' D = some (.lst (ys.take (i + 1))), fun H' p' => ⟨ys.length - (i + 1), by omega, rfl, hlt, p'⟩, fun x H' y => ?_⟩
    obtain ⟨rfl, rfl⟩ := hy i H x H' hlt s y
    have ey : ys[i]? = some ys[i] := List.getElem?_eq_getElem hlt
    refine ⟨hw _, ?_⟩
    refine he i _ H' (fun y H4 => ∃ acc, H4 D = some (HO.lst acc) ∧ acc.length < sizeLine ∧ (Same H1 (upd H4 D (.lst (acc ++ [y]))) ∧ (upd H4 D (.lst (acc ++ [y]))) D = some (HO.lst (List.take (i + 1) ys)))) ey s fun H4 s4 => ⟨ys.take i, s4 _ _ hq, by rw [List.length_take]; omega, ?_, ?_⟩
    · intro b o e
      rw [upd_ne (ne_of_none e hD)]
      exact s4 _ _ (s b o e)
    · rw [upd_same, take_snoc ey]
  · have e : i = ys.length := by omega
    subst e
    rw [List.take_length] at hq
    exact .inl ⟨hst H s, hd H s hq⟩
theorem lcm_list {K : PySem.W.Frag} {a : Addr} {xs : List V} {r : Nat} {ys : List V} {te : TE} {vs : List Nat} {σ : St} {H1 : Hp} {D : Addr} {Qd : Hp → Prop} (hD : H1 D = none) (hn : ys.length = xs.length) (hz : xs.length ≤ sizeLine) (hl : SqL K H1 a xs)
    (hw : ∀ x, wipe ((wipe σ vs).set r (some x)) vs = wipe σ vs)
    (he : ∀ (j : Nat) x y H (R : VK), xs[j]? = some x → ys[j]? = some y → Same H1 H → (∀ H4, Same H H4 → R y H4) → te ((wipe σ vs).set r (some x)) H R) (hd : ∀ H, Same H1 H → H D = some (.lst ys) → Qd H) :
    ∃ W : Nat → Nat → Hp → Prop, (∃ m, W 0 m (upd H1 D (.lst []))) ∧ ∀ i m H, W i m H →
      ((Itl K a).stop i H ∧ Qd H) ∨ ((Itl K a).go i H ∧ ∃ Nx : Hp → Prop, (∀ H', Nx H' → ∃ m', m' < m ∧ W (i + 1) m' H') ∧ ∀ x H', (Itl K a).yld i H x H' → gName r x (wipe σ vs) H' fun σ2 H2 => wipe σ2 vs = wipe σ vs ∧ tYes σ2 H2 fun b H3 =>
        if b = true then te σ2 H3 fun y H4 => ∃ acc, H4 D = some (.lst acc) ∧ acc.length < sizeLine ∧ Nx (upd H4 D (.lst (acc ++ [y]))) else Nx H3) := by
  refine lcm (item := fun i => xs.getD i .non) hD hn hz (fun i H hi s => ⟨xs, xs[i], s.seq hl, by simp [hi]⟩) (fun H s => ⟨xs, s.seq hl, Nat.le_refl _⟩) (fun i H x H' hi s y => ⟨y.1, ?_⟩) hw (fun j y H R ej s k => ?_) hd
  · have e := y.2 xs (s.seq hl)
    show x = xs.getD i .non
    rw [List.getD_eq_getElem?_getD, e]
    rfl
  · have hj : j < xs.length := hn ▸ (List.getElem?_eq_some_iff.mp ej).1
    have ex : xs[j]? = some xs[j] := List.getElem?_eq_getElem hj
    have e2 : xs.getD j .non = xs[j] := by rw [List.getD_eq_getElem?_getD, ex]; rfl
    rw [e2]
    exact he j _ y H R ex ej s k
theorem lcm_range {lo : Int} {n r : Nat} {ys : List V} {te : TE} {vs : List Nat} {σ : St} {H1 : Hp} {D : Addr} {Qd : Hp → Prop} (hD : H1 D = none) (hn : ys.length = n) (hz : n ≤ sizeLine)
    (hw : ∀ x, wipe ((wipe σ vs).set r (some x)) vs = wipe σ vs)
    (he : ∀ (j : Nat) y H (R : VK), ys[j]? = some y → Same H1 H → (∀ H4, Same H H4 → R y H4) → te ((wipe σ vs).set r (some (.int (lo + j)))) H R) (hd : ∀ H, Same H1 H → H D = some (.lst ys) → Qd H) :
    ∃ W : Nat → Nat → Hp → Prop, (∃ m, W 0 m (upd H1 D (.lst []))) ∧ ∀ i m H, W i m H →
      ((Itr lo n).stop i H ∧ Qd H) ∨ ((Itr lo n).go i H ∧ ∃ Nx : Hp → Prop, (∀ H', Nx H' → ∃ m', m' < m ∧ W (i + 1) m' H') ∧ ∀ x H', (Itr lo n).yld i H x H' → gName r x (wipe σ vs) H' fun σ2 H2 => wipe σ2 vs = wipe σ vs ∧ tYes σ2 H2 fun b H3 =>
        if b = true then te σ2 H3 fun y H4 => ∃ acc, H4 D = some (.lst acc) ∧ acc.length < sizeLine ∧ Nx (upd H4 D (.lst (acc ++ [y]))) else Nx H3) :=
  lcm (item := fun i => .int (lo + i)) hD hn hz (fun i H hi _ => hi) (fun H _ => Nat.le_refl _) (fun i H x H' hi s y => y) hw he hd
theorem lcm_rangeC {lo c : Int} {n r : Nat} {ys : List V} {te : TE} {vs : List Nat} {σ : St} {H1 : Hp} {D : Addr} {Qd : Hp → Prop} (hD : H1 D = none) (hn : ys.length = n) (hz : n ≤ sizeLine)
    (hw : ∀ x, wipe ((wipe σ vs).set r (some x)) vs = wipe σ vs)
    (he : ∀ (j : Nat) y H (R : VK), ys[j]? = some y → Same H1 H → (∀ H4, Same H H4 → R y H4) → te ((wipe σ vs).set r (some (.int (lo + (j : Nat) * c)))) H R) (hd : ∀ H, Same H1 H → H D = some (.lst ys) → Qd H) :
    ∃ W : Nat → Nat → Hp → Prop, (∃ m, W 0 m (upd H1 D (.lst []))) ∧ ∀ i m H, W i m H →
      ((Itc lo c n).stop i H ∧ Qd H) ∨ ((Itc lo c n).go i H ∧ ∃ Nx : Hp → Prop, (∀ H', Nx H' → ∃ m', m' < m ∧ W (i + 1) m' H') ∧ ∀ x H', (Itc lo c n).yld i H x H' → gName r x (wipe σ vs) H' fun σ2 H2 => wipe σ2 vs = wipe σ vs ∧ tYes σ2 H2 fun b H3 =>
        if b = true then te σ2 H3 fun y H4 => ∃ acc, H4 D = some (.lst acc) ∧ acc.length < sizeLine ∧ Nx (upd H4 D (.lst (acc ++ [y]))) else Nx H3) :=
  lcm (item := fun i => .int (lo + (i : Nat) * c)) hD hn hz (fun i H hi _ => hi) (fun H _ => Nat.le_refl _) (fun i H x H' hi s y => y) hw he hd
/-! ### the module's names -/
structure Mg (mg : Str → Option Value) : Prop where
  len : mg "len" = none
  enumerate : mg "enumerate" = none
  all : mg "all" = none
  range : mg "range" = none
  sum : mg "sum" = none
  sorted : mg "sorted" = none
  max : mg "max" = none
  isinstance : mg "isinstance" = none
  int : mg "int" = none
  zip : mg "zip" = none
  notRight : ∃ t, mg "NOT_RIGHT" = some (.int (-22) t)
  tooFaint : ∃ t, mg "TOO_FAINT" = some (.int (-61) t)
  notFound : ∃ t, mg "NOT_FOUND" = some (.int (-2) t)
  empty : ∃ t, mg "EMPTY" = some (.int 0 t)
  full : ∃ t, mg "FULL" = some (.int 1 t)
  unsure : ∃ t, mg "UNSURE" = some (.int 2 t)
  most : ∃ t, mg "MOST_COUNTED" = some (.int 4294967295 t)
  allCounted : ∃ t, mg "ALL_COUNTED" = some (.int (-28) t)
  told : ∃ t, mg "FIELDS_TOLD" = some (.int 64 t)
  fnone : ∃ t, mg "FIELD_NONE" = some (.int 253 t)
  several : ∃ t, mg "FIELD_SEVERAL" = some (.int 254 t)
  funsure : ∃ t, mg "FIELD_UNSURE" = some (.int 255 t)
  start : ∃ t, mg "START" = some (.int 0 t)
  sheet : ∃ t, mg "SHEET" = some (.int 1 t)
  number : ∃ t, mg "FORM_NUMBER" = some (.int 0 t)
  row : ∃ t, mg "FORM_ROW" = some (.int 1 t)
end My
end
section
set_option Elab.async false
set_option linter.all false
set_option maxRecDepth 100000
set_option maxHeartbeats 2000000
namespace My
open PySem PySem.Spec PyProof.Rows L2
def measuresB (s : Kp138.Sheet) (bs : List Kp138.Box) : Bool := inB s.width 16 512 && (inB s.height 16 512 && (inB s.shift 0 15 && (inB s.side 2 32 && (decide ((s.dust : Int) < 2 * s.side) && (inB s.noise 0 31 && (decide ((s.blank : Int) < s.fill) && (decide ((s.fill : Int) ≤ 1024) &&
  (inB s.fields 1 64 && (decide (V.int (s.anchor.length : Nat) = V.int 4) && inB (bs.length : Nat) 1 256)))))))))
def spMeasures (K : PySem.W.Frag) : Sp := fun vs H Q _ => ∃ (a : Addr) (s : Kp138.Sheet) (bs : List Kp138.Box), vs = [.ref a] ∧ SheetAt K H a s bs ∧ Q (.bl (measuresB s bs)) H
def boxB (s : Kp138.Sheet) (b : Kp138.Box) : Bool := decide ((1 : Int) ≤ b.w) && (decide ((1 : Int) ≤ b.h) && (within4 b.x b.y (b.x + b.w) (b.y + b.h) s.shift s.shift (s.width - s.shift) (s.height - s.shift) && (decide ((b.field : Int) < s.fields) && decide (V.int (b.zero : Int) = V.int 0))))
def spBoxR (K : PySem.W.Frag) : Sp := fun vs H Q _ => ∃ (a c : Addr) (s : Kp138.Sheet) (bs : List Kp138.Box) (b : Kp138.Box), vs = [.ref a, .ref c] ∧ SheetAt K H a s bs ∧ BoxAt K H c b ∧ ∀ H', Same H H' → Q (.bl (boxB s b)) H'
def overSq (s : Kp138.Sheet) (A B : Kp138.Anchor) : Bool := over4 (A.x - moreOf s) (A.y - moreOf s) (A.x + s.side + moreOf s) (A.y + s.side + moreOf s) B.x B.y (B.x + s.side) (B.y + s.side)
def overBox (s : Kp138.Sheet) (A : Kp138.Anchor) (b : Kp138.Box) : Bool := over4 (A.x - moreOf s) (A.y - moreOf s) (A.x + s.side + moreOf s) (A.y + s.side + moreOf s) b.x b.y (b.x + b.w) (b.y + b.h)
/-- what corner_right asks of the k-th corner and of the others ahead of place n -/
def cornerB (s : Kp138.Sheet) (bs : List Kp138.Box) (k : Nat) (A : Kp138.Anchor) (b : Bool) : Prop :=
  b = true ↔ (∀ (j : Nat) (B : Kp138.Anchor), s.anchor[j]? = some B → j ≠ k → overSq s A B = false) ∧ (∀ x ∈ bs, overBox s A x = false) ∧ A.zero = 0 ∧
    within4 (A.x - moreOf s) (A.y - moreOf s) (A.x + s.side + moreOf s) (A.y + s.side + moreOf s) 0 0 s.width s.height = true
def spCornerR (K : PySem.W.Frag) : Sp := fun vs H Q _ => ∃ (a : Addr) (k : Nat) (s : Kp138.Sheet) (bs : List Kp138.Box) (A : Kp138.Anchor), vs = [.ref a, .int (k : Int)] ∧ SheetAt K H a s bs ∧ s.anchor[k]? = some A ∧
  ∀ H' b, Same H H' → cornerB s bs k A b → Q (.bl b) H'
def fieldsB (s : Kp138.Sheet) (bs : List Kp138.Box) : Bool := (List.range s.fields).all fun f => decide (((bs.map fun b => V.int (b.field : Int)).countP (fun z => eqV z (.int (f : Nat))) : Int) ≤ 16)
def spFieldsR (K : PySem.W.Frag) : Sp := fun vs H Q _ => ∃ (a : Addr) (s : Kp138.Sheet) (bs : List Kp138.Box), vs = [.ref a] ∧ SheetAt K H a s bs ∧ s.fields ≤ 64 ∧ bs.length ≤ 256 ∧ ∀ H', Same H H' → Q (.bl (fieldsB s bs)) H'
section
variable {P : Program} {w : World} {K : PySem.W.Frag} {mg : Str → Option Value} {base : Heap}
theorem sc11 : FnScope ["sheet"] ["sheet"] (defScope (top 11)) := ⟨rfl, rfl, rfl, by decide +kernel, rfl, by decide +kernel, by decide +kernel⟩
theorem ok11 {f : Addr} {fd : FuncData} (F : Fun K "measures_right" "measures_right" (top 11) f fd) (M : Mg mg) (d5 : Def P w K mg base 1 "between" ["number", "least", "most"] spBetween) : FnOk P w K mg base CX0 2 f fd ["sheet"] (spMeasures K) := by
  refine F.ok sc11 (fun vs H Q E h => ?_) (fun cdv A outer s H vs Q E hr h => ?_)
  · obtain ⟨a, s, bs, rfl, _⟩ := h
    rfl
  · refine gen fun G' hG => ?_
    obtain ⟨a, s, bs, rfl, S, k⟩ := h
    refine hG ?_
    refine ⟨_, pss_one <| ps_ret <| pe_and (pe_def d5 hr (by rfl) (pa_cons (pe_fldK (K := K) rfl (pv 0) rfl) (pa_cons pe_int (pa_cons pe_int pa_nil)))) <|
      pe_and (pe_def d5 hr (by rfl) (pa_cons (pe_fldK (K := K) rfl (pv 0) rfl) (pa_cons pe_int (pa_cons pe_int pa_nil)))) <|
      pe_and (pe_def d5 hr (by rfl) (pa_cons (pe_fldK (K := K) rfl (pv 0) rfl) (pa_cons pe_int (pa_cons pe_int pa_nil)))) <|
      pe_and (pe_def d5 hr (by rfl) (pa_cons (pe_fldK (K := K) rfl (pv 0) rfl) (pa_cons pe_int (pa_cons pe_int pa_nil)))) <|
      pe_and (pe_cmpR op_lt (pe_fldK (K := K) rfl (pv 0) rfl) (pe_op op_mul pe_int (pe_fldK (K := K) rfl (pv 0) rfl)) (nomark _)) <|
      pe_and (pe_def d5 hr (by rfl) (pa_cons (pe_fldK (K := K) rfl (pv 0) rfl) (pa_cons pe_int (pa_cons pe_int pa_nil)))) <|
      pe_and (pe_cmpR op_lt (pe_fldK (K := K) rfl (pv 0) rfl) (pe_fldK (K := K) rfl (pv 0) rfl) (nomark _)) <|
      pe_and (pe_cmpR op_le (pe_fldK (K := K) rfl (pv 0) rfl) pe_int (nomark _)) <|
      pe_and (pe_def d5 hr (by rfl) (pa_cons (pe_fldK (K := K) rfl (pv 0) rfl) (pa_cons pe_int (pa_cons pe_int pa_nil)))) <|
      pe_and (pe_cmpR op_eq (pe_callB (call_lenK (K := K) rfl) (by rfl) M.len PySem.boot_len (pa_cons (pe_fldK (K := K) rfl (pv 0) rfl) pa_nil)) pe_int (nomark _)) <|
      pe_one (pe_def d5 hr (by rfl) (pa_cons (pe_callB (call_lenK (K := K) rfl) (by rfl) M.len PySem.boot_len (pa_cons (pe_fldK (K := K) rfl (pv 0) rfl) pa_nil)) (pa_cons pe_int (pa_cons pe_int pa_nil)))), ?_⟩
    refine gen fun G' hG => ?_
    obtain ⟨lc, cs, c1, c2, c3⟩ := S.corners
    obtain ⟨lb, bx, b1, b2, b3⟩ := S.boxes
    refine hG ?_
    have e1 : ((cs.map V.ref).length : Int) = (s.anchor.length : Nat) := by rw [List.length_map, c3.1]
    have e2 : ((bx.map V.ref).length : Int) = (bs.length : Nat) := by rw [List.length_map, b3.1]
    unfold measuresB at k
    refine ⟨_, rfl, rf S.width ⟨_, _, _, rfl, rband k fun k => ?_⟩⟩
    refine ⟨_, rfl, rf S.height ⟨_, _, _, rfl, rband k fun k => ?_⟩⟩
    refine ⟨_, rfl, rf S.shift ⟨_, _, _, rfl, rband k fun k => ?_⟩⟩
    refine ⟨_, rfl, rf S.side ⟨_, _, _, rfl, rband k fun k => ?_⟩⟩
    refine ⟨_, rfl, rf S.dust ⟨_, rfl, rf S.side ⟨_, _, rfl, rfl, .inl ⟨by decide, by decide⟩, _, _, rfl, rfl, rband k fun k => ?_⟩⟩⟩
    refine ⟨_, rfl, rf S.noise ⟨_, _, _, rfl, rband k fun k => ?_⟩⟩
    refine ⟨_, rfl, rf S.blank ⟨_, rfl, rf S.fill ⟨_, _, rfl, rfl, rband k fun k => ?_⟩⟩⟩
    refine ⟨_, rfl, rf S.fill ⟨_, _, rfl, rfl, rband k fun k => ?_⟩⟩
    refine ⟨_, rfl, rf S.fields ⟨_, _, _, rfl, rband k fun k => ?_⟩⟩
    refine ⟨_, rfl, rf c1 ⟨lc, _, rfl, .inl (SqL.of c2), rfl, ?_⟩⟩
    rw [e1]
    refine rband k fun k => ?_
    refine ⟨_, rfl, rf b1 ⟨lb, _, rfl, .inl (SqL.of b2), _, _, _, rfl, ?_⟩⟩
    rw [e2]
    exact k
theorem sc13 : FnScope ["sheet", "box", "room"] ["sheet", "box"] (defScope (top 13)) := ⟨rfl, rfl, rfl, by decide +kernel, rfl, by decide +kernel, by decide +kernel⟩
theorem ok13 {f : Addr} {fd : FuncData} (F : Fun K "box_right" "box_right" (top 13) f fd) (d6 : Def P w K mg base 1 "lies_within" ["inner", "outer"] (spWithin K)) (d10 : Def P w K mg base 1 "area_of" ["box"] (spArea K)) : FnOk P w K mg base CX0 2 f fd ["sheet", "box"] (spBoxR K) := by
  refine F.ok sc13 (fun vs H Q E h => ?_) (fun cdv A outer s H vs Q E hr h => ?_)
  · obtain ⟨a, c, s, bs, b, rfl, _⟩ := h
    rfl
  · refine gen fun G' hG => ?_
    obtain ⟨a, c, s, bs, b, rfl, S, B, k⟩ := h
    refine hG ?_
    refine ⟨_, pss_cons (ps_set (i := 2) sc13.nd rfl (Or.inl rfl) (pe_tup (pa_cons (pe_fldK (K := K) rfl (pv 0) rfl) (pa_cons (pe_fldK (K := K) rfl (pv 0) rfl) (pa_cons (pe_op op_sub (pe_fldK (K := K) rfl (pv 0) rfl) (pe_fldK (K := K) rfl (pv 0) rfl)) (pa_cons (pe_op op_sub (pe_fldK (K := K) rfl (pv 0) rfl) (pe_fldK (K := K) rfl (pv 0) rfl)) pa_nil))))))
      <| pss_one <| ps_ret <| pe_and (pe_cmpR op_ge (pe_fldK (K := K) rfl (pv 1) rfl) pe_int (nomark _)) <| pe_and (pe_cmpR op_ge (pe_fldK (K := K) rfl (pv 1) rfl) pe_int (nomark _)) <|
        pe_and (pe_def d6 hr (by rfl) (pa_cons (pe_def d10 hr (by rfl) (pa_cons (pv 1) pa_nil)) (pa_cons (pv 2) pa_nil))) <| pe_and (pe_cmpR op_lt (pe_fldK (K := K) rfl (pv 1) rfl) (pe_fldK (K := K) rfl (pv 0) rfl) (nomark _)) <| pe_one (pe_cmpR op_eq (pe_fldK (K := K) rfl (pv 1) rfl) pe_int (nomark _)), ?_⟩
    refine ⟨_, rfl, rf S.shift ⟨_, rfl, rf S.shift ⟨_, rfl, rf S.width ⟨_, rfl, rf S.shift ⟨_, _, rfl, rfl, _, rfl, rf S.height ⟨_, rfl, rf S.shift ⟨_, _, rfl, rfl, by show 4 ≤ sizeLine; decide, fun p hp => ?_⟩⟩⟩⟩⟩⟩⟩
    have s1 : Same H (upd H p (.tup (t4 s.shift s.shift (s.width - s.shift) (s.height - s.shift)))) := (Same.refl H).put hp
    have S1 := S.mono s1
    have B1 := B.mono s1
    unfold boxB at k
    refine ⟨_, rfl, rf B1.w ⟨_, _, rfl, rfl, rbandS s1 k fun k => ?_⟩⟩
    refine ⟨_, rfl, rf B1.h ⟨_, _, rfl, rfl, rbandS s1 k fun k => ?_⟩⟩
    refine ⟨_, rfl, _, _, rfl, B1, fun H2 q s2 hq => ⟨_, rfl, q, p, _, _, _, _, _, _, _, _, rfl, SqT.of hq, s2.tup (SqT.of upd_same), ?_⟩⟩
    have s3 := s1.trans s2
    have S3 := S.mono s3
    have B3 := B.mono s3
    refine rbandS s3 k fun k => ?_
    refine ⟨_, rfl, rf B3.field ⟨_, rfl, rf S3.fields ⟨_, _, rfl, rfl, rbandS s3 k fun k => ?_⟩⟩⟩
    exact ⟨_, rfl, rf B3.zero ⟨rfl, k _ s3⟩⟩
end
end My
end
section
set_option Elab.async false
set_option linter.all false
set_option maxRecDepth 100000
set_option maxHeartbeats 4000000
namespace My
open PySem PySem.Spec PyProof.Rows L2
section
variable {P : Program} {w : World} {K : PySem.W.Frag} {mg : Str → Option Value} {base : Heap}
theorem dec_ne_int {i j : Int} : (!decide (V.int i = V.int j)) = decide (i ≠ j) := by
  rw [Bool.eq_iff_iff]
  simp
theorem sc12 : FnScope ["sheet", "place", "corner", "zone", "k", "other", "box"] ["sheet", "place"] (defScope (top 12)) := ⟨rfl, rfl, rfl, by decide +kernel, rfl, by decide +kernel, by decide +kernel⟩
theorem ok12 {f : Addr} {fd : FuncData} (F : Fun K "corner_right" "corner_right" (top 12) f fd) (M : Mg mg) (d6 : Def P w K mg base 1 "lies_within" ["inner", "outer"] (spWithin K)) (d7 : Def P w K mg base 1 "overlap" ["one", "other"] (spOverlap K))
    (d8 : Def P w K mg base 1 "square_of" ["sheet", "corner"] (spSquare K)) (d9 : Def P w K mg base 2 "zone_of" ["sheet", "corner"] (spZone K)) (d10 : Def P w K mg base 1 "area_of" ["box"] (spArea K)) : FnOk P w K mg base CX0 3 f fd ["sheet", "place"] (spCornerR K) := by
  refine F.ok sc12 (fun vs H Q E h => ?_) (fun cdv Ar outer sh H vs Q E hr h => ?_)
  · obtain ⟨a, k, s, bs, A, rfl, _⟩ := h
    rfl
  · refine gen fun G' hG => ?_
    obtain ⟨a, n, s, bs, A, rfl, S, hA, k⟩ := h
    refine hG ?_
    refine ⟨_, pss_cons (ps_set (i := 2) sc12.nd rfl (Or.inl rfl) (pe_ix (r := rIxL K) ix_list (pe_fldK (K := K) rfl (pv 0) rfl) (pv 1) (fun _ _ => rfl))) <|
      pss_cons (ps_set (i := 3) sc12.nd rfl (Or.inl rfl) (pe_def d9 hr (by rfl) (pa_cons (pv 0) (pa_cons (pv 2) pa_nil)))) <|
      pss_cons (ps_for PassesOwn.never rfl (pi_enumK (K := K) rfl (by rfl) M.enumerate (pa_cons (pe_fldK (K := K) rfl (pv 0) rfl) pa_nil)) (pg_tupK (K := K) rfl rfl (pgs_cons (pg_name (i := 4) sc12.nd rfl (Or.inl rfl)) (pgs_cons (pg_name (i := 5) sc12.nd rfl (Or.inl rfl)) pgs_nil)))
        (pss_one (ps_if (pw_and (pt_cmpR op_ne (pv 4) (pv 1) (nomark _)) (pw_and1 (pt_val (pe_def d7 hr (by rfl) (pa_cons (pv 3) (pa_cons (pe_def d8 hr (by rfl) (pa_cons (pv 0) (pa_cons (pv 5) pa_nil))) pa_nil)))))).pt (pss_one (ps_ret pe_bl)) pss_nil))) <|
      pss_cons (ps_for PassesOwn.never rfl (pi_listK (K := K) rfl (pe_fldK (K := K) rfl (pv 0) rfl)) (pg_name (i := 6) sc12.nd rfl (Or.inl rfl))
        (pss_one (ps_if (pt_val (pe_def d7 hr (by rfl) (pa_cons (pv 3) (pa_cons (pe_def d10 hr (by rfl) (pa_cons (pv 6) pa_nil)) pa_nil)))) (pss_one (ps_ret pe_bl)) pss_nil))) <|
      pss_one <| ps_ret <| pe_and (pe_cmpR op_eq (pe_fldK (K := K) rfl (pv 2) rfl) pe_int (nomark _)) <| pe_one (pe_def d6 hr (by rfl) (pa_cons (pv 3) (pa_cons (pe_tup (pa_cons pe_int (pa_cons pe_int (pa_cons (pe_fldK (K := K) rfl (pv 0) rfl) (pa_cons (pe_fldK (K := K) rfl (pv 0) rfl) pa_nil))))) pa_nil))), ?_⟩
    refine gen fun G' hG => ?_
    obtain ⟨lc, cs, c1, c2, c3⟩ := S.corners
    obtain ⟨lb, bx, b1, b2, b3⟩ := S.boxes
    obtain ⟨c, hc, CA⟩ := c3.of hA
    refine hG ?_
    refine sg fun R hR => ⟨_, rfl, rf c1 ⟨_, rfl, lc, _, _, _, rfl, rfl, SqL.of c2, at_of (j := n) (v := V.ref c) rfl (by rw [List.getElem?_map, hc]; rfl), hR _ _ ?_⟩⟩
    clear hR
    refine sg fun R hR => ⟨_, rfl, _, rfl, a, c, s, bs, A, rfl, S, CA, fun H1 z s1 hz => hR _ _ ?_⟩
    clear hR
    have S1 := S.mono s1
    refine sg fun R hR => ⟨_, rfl, rf (c1.mono s1) ⟨lc, _, rfl, SqL.of (s1 _ _ c2), ?_⟩⟩
    refine for_itN (n := s.anchor.length) (fun i σ H' => Same H1 H' ∧ (∃ v4 v5 : Option V, σ = [some (.ref a), some (.int (n : Int)), some (.ref c), some (.ref z), v4, v5, none]) ∧ ∀ (j : Nat) (B : Kp138.Anchor), j < i → s.anchor[j]? = some B → j ≠ n → overSq s A B = false) ?_ ?_ ?_ ?_ ?_
    · exact ⟨Same.refl _, ⟨none, none, rfl⟩, fun j B hj => absurd hj (Nat.not_lt_zero _)⟩
    · intro i σ H2 hi hp4
      refine gen fun G' hG => ?_
      obtain ⟨s2, _, _⟩ := hp4
      refine hG ?_
      have hi' : i < cs.length := c3.1 ▸ hi
      exact ⟨_, V.ref cs[i], SqL.of (s2 _ _ (s1 _ _ c2)), by rw [List.getElem?_map, List.getElem?_eq_getElem hi']; rfl⟩
    · intro σ H2 hp2
      refine gen fun G' hG => ?_
      obtain ⟨s2, _, _⟩ := hp2
      refine hG ?_
      exact ⟨_, SqL.of (s2 _ _ (s1 _ _ c2)), by rw [List.length_map, c3.1]; exact Nat.le_refl _⟩
    · intro i σ H2 x H3 N hN hi hp8 hp9
      refine gen fun G' hG => ?_
      obtain ⟨s2, ⟨v4, v5, rfl⟩, hno⟩ := hp8
      obtain ⟨T, y, rfl, hT, rfl, hy⟩ := hp9
      refine hG ?_
      have s12 := s1.trans s2
      refine gen fun G' hG => ?_
      obtain ⟨co, hco, rfl⟩ := refs_at (hy _ (SqL.of (s12 _ _ c2)))
      obtain ⟨B, hB, CB⟩ := c3.at hco
      refine hG ?_
      have s3 : Same H2 (upd H2 T (.tup [.int (i : Nat), .ref co])) := (Same.refl H2).put hT
      have s13 := s12.trans s3
      refine ⟨T, _, rfl, SqT.of upd_same, rfl, _, _, rfl, _, _, rfl, rfl, ?_⟩
      refine ⟨_, rfl, _, rfl, rfl, _, rfl, ?_⟩
      rw [dec_ne_int]
      refine rite (fun hne => ?_) (fun hne => ?_)
      · refine ⟨_, rfl, _, rfl, _, rfl, a, co, s, bs, B, rfl, S.mono s13, CB.mono s13, fun H4 q s4 hq => ?_⟩
        refine ⟨z, q, _, _, _, _, _, _, _, _, rfl, SqT.of (s4 _ _ (s3 _ _ (s2 _ _ hz))), SqT.of hq, _, rfl, rite (fun ho => ?_) (fun ho => ?_)⟩
        · refine k H4 false (s13.trans s4) ?_
          refine ⟨fun q => (by cases q), fun q => ?_⟩
          have q1 := q.1 i B hB (by have := of_decide_eq_true hne; omega)
          rw [show overSq s A B = true from ho] at q1
          cases q1
        · refine hN _ _ ⟨(s2.trans s3).trans s4, ⟨_, _, rfl⟩, fun j B' hj hB' hn => ?_⟩
          by_cases e : j = i
          · subst e
            rw [hB] at hB'
            cases hB'
            exact ho
          · exact hno j B' (by omega) hB' hn
      · refine hN _ _ ⟨s2.trans s3, ⟨_, _, rfl⟩, fun j B' hj hB' hn => ?_⟩
        by_cases e : j = i
        · exfalso
          have := of_decide_eq_false hne
          omega
        · exact hno j B' (by omega) hB' hn
    · intro σ H2 hp2
      refine gen fun G' hG => ?_
      obtain ⟨s2, ⟨v4, v5, rfl⟩, hno⟩ := hp2
      refine hG ?_
      have s12 := s1.trans s2
      refine hR _ _ ?_
      clear hR
      refine sg fun R hR => ⟨_, rfl, rf (b1.mono s12) ⟨lb, rfl, ⟨_, SqL.of (s12 _ _ b2)⟩, ?_⟩⟩
      refine for_listN (K := K) (a := lb) (xs := bx.map V.ref) (fun i σ H' => Same H2 H' ∧ (∃ v6 : Option V, σ = [some (.ref a), some (.int (n : Int)), some (.ref c), some (.ref z), v4, v5, v6]) ∧ ∀ (j : Nat) (b : Kp138.Box), j < i → bs[j]? = some b → overBox s A b = false) ?_ ?_ ?_ ?_
      · exact ⟨Same.refl _, ⟨none, rfl⟩, fun j B hj => absurd hj (Nat.not_lt_zero _)⟩
      · intro i σ H3 _ hp4
        refine gen fun G' hG => ?_
        obtain ⟨s3, _, _⟩ := hp4
        refine hG ?_
        exact SqL.of (s3 _ _ (s12 _ _ b2))
      · intro i x σ H3 N hN hx hp7
        refine gen fun G' hG => ?_
        obtain ⟨s3, ⟨v6, rfl⟩, hnb⟩ := hp7
        refine hG ?_
        refine gen fun G' hG => ?_
        obtain ⟨bo, hbo, rfl⟩ := refs_at hx
        obtain ⟨b, hb, CB⟩ := b3.at hbo
        refine hG ?_
        have s13 := s12.trans s3
        refine ⟨_, rfl, _, rfl, bo, b, rfl, CB.mono s13, fun H4 q s4 hq => ?_⟩
        refine ⟨z, q, _, _, _, _, _, _, _, _, rfl, SqT.of (s4 _ _ (s3 _ _ (s2 _ _ hz))), SqT.of hq, _, rfl, rite (fun ho => ?_) (fun ho => ?_)⟩
        · refine k H4 false (s13.trans s4) ?_
          refine ⟨fun q => (by cases q), fun q => ?_⟩
          have q1 := q.2.1 b (List.mem_of_getElem? hb)
          rw [show overBox s A b = true from ho] at q1
          cases q1
        · refine hN _ _ ⟨s3.trans s4, ⟨_, rfl⟩, fun j b' hj hb' => ?_⟩
          by_cases e : j = i
          · subst e
            rw [hb] at hb'
            cases hb'
            exact ho
          · exact hnb j b' (by omega) hb'
      · intro σ H3 hp2
        refine gen fun G' hG => ?_
        obtain ⟨s3, ⟨v6, rfl⟩, hnb⟩ := hp2
        refine hG ?_
        have s13 := s12.trans s3
        have S3 := S.mono s13
        have all1 : ∀ (j : Nat) (B : Kp138.Anchor), s.anchor[j]? = some B → j ≠ n → overSq s A B = false := fun j B e h => hno j B (List.getElem?_eq_some_iff.mp e).1 e h
        have all2 : ∀ x ∈ bs, overBox s A x = false := fun x hx => by
          refine gen fun G' hG => ?_
          obtain ⟨j, hj, e⟩ := List.getElem_of_mem hx
          refine hG ?_
          exact hnb j x (by rw [List.length_map, b3.1]; exact hj) (by rw [← e]; exact List.getElem?_eq_getElem hj)
        refine hR _ _ ⟨_, rfl, rf (CA.mono s13).zero ⟨rfl, rand (fun hz0 => ?_) (fun hz0 => ?_)⟩⟩
        · refine ⟨_, rfl, _, rfl, rf S3.width ⟨_, rfl, rf S3.height ⟨by show 4 ≤ sizeLine; decide, fun p hp => ?_⟩⟩⟩
          refine ⟨z, p, _, _, _, _, _, _, _, _, rfl, ((Same.refl H3).put hp).tup (SqT.of (s3 _ _ (s2 _ _ hz))), SqT.of upd_same, ?_⟩
          · refine k _ _ (s13.put hp) ⟨fun hw => ⟨all1, all2, ?_, hw⟩, fun q => q.2.2.2⟩
            have := of_decide_eq_true hz0
            injection this with this
            omega
        · refine k _ _ s13 ⟨fun q => (by cases q), fun q => ?_⟩
          have := of_decide_eq_false hz0
          exact absurd (by rw [q.2.2.1]; rfl) this
end
end My
end
section
set_option Elab.async false
set_option linter.all false
set_option maxRecDepth 100000
set_option maxHeartbeats 4000000
namespace My
open PySem PySem.Spec PyProof.Rows L2
/-! ### scopes of comprehensions, by places -/
def noE : Expr := .Name "x" ⟨0, 0, 0, 0⟩
def noScope : Scope := { kind := .function, names := [], isGenerator := false, isCoroutine := false }
def lcSc (e : Expr) : Scope := match e with
  | .ListComp _ _ sc _ => sc
  | _ => noScope
def valOf (s : Stmt) : Expr := match s with
  | .Assign _ v _ => v
  | .Return (some v) _ => v
  | .If t _ _ _ => t
  | .Expr v _ => v
  | _ => noE
def arg0 (e : Expr) : Expr := match e with
  | .Call _ (a :: _) _ _ => a
  | _ => noE
def notA (e : Expr) : Expr := match e with
  | .UnaryOp _ a _ => a
  | _ => noE
def st (d : Stmt) (i : Nat) : Stmt := (defBody d).getD i (.Pass ⟨0, 0, 0, 0⟩)
theorem blk14a : BlkOk ["sheet", "chosen", "box", "field"] (defScope (top 14)) (lcSc (valOf (st (top 14) 0))) [("box", 2)] := ⟨rfl, by decide +kernel, by decide +kernel, by decide +kernel, by decide +kernel⟩
theorem blk14b : BlkOk ["sheet", "chosen", "box", "field"] (defScope (top 14)) (lcSc (arg0 (valOf (st (top 14) 1)))) [("field", 3)] := ⟨rfl, by decide +kernel, by decide +kernel, by decide +kernel, by decide +kernel⟩
theorem blk15a : BlkOk ["sheet", "box", "place"] (defScope (top 15)) (lcSc (arg0 (notA (valOf (st (top 15) 1))))) [("box", 1)] := ⟨rfl, by decide +kernel, by decide +kernel, by decide +kernel, by decide +kernel⟩
theorem blk15b : BlkOk ["sheet", "box", "place"] (defScope (top 15)) (lcSc (arg0 (notA (valOf (st (top 15) 2))))) [("place", 2)] := ⟨rfl, by decide +kernel, by decide +kernel, by decide +kernel, by decide +kernel⟩
def rightB (s : Kp138.Sheet) (bs : List Kp138.Box) (b : Bool) : Prop :=
  b = true ↔ measuresB s bs = true ∧ (∀ x ∈ bs, boxB s x = true) ∧ (∀ (k : Nat) (A : Kp138.Anchor), k < 4 → s.anchor[k]? = some A → cornerB s bs k A true) ∧ fieldsB s bs = true
def spRight (K : PySem.W.Frag) : Sp := fun vs H Q _ => ∃ (a : Addr) (s : Kp138.Sheet) (bs : List Kp138.Box), vs = [.ref a] ∧ SheetAt K H a s bs ∧ ∀ H' b, Same H H' → rightB s bs b → Q (.int (if b = true then 0 else -22)) H'
theorem flat_ints : ∀ ns : List Int, (ns.map V.int).all flatV = true
  | [] => rfl
  | n :: r => by
    rw [List.map_cons, List.all_cons, flat_ints r]
    rfl
section
variable {P : Program} {w : World} {K : PySem.W.Frag} {mg : Str → Option Value} {base : Heap}
theorem sc14 : FnScope ["sheet", "chosen", "box", "field"] ["sheet"] (defScope (top 14)) := ⟨rfl, rfl, rfl, by decide +kernel, rfl, by decide +kernel, by decide +kernel⟩
theorem ok14 {f : Addr} {fd : FuncData} (F : Fun K "fields_right" "fields_right" (top 14) f fd) (M : Mg mg) : FnOk P w K mg base CX0 1 f fd ["sheet"] (spFieldsR K) := by
  refine F.ok sc14 (fun vs H Q E h => ?_) (fun cdv Ar outer sh H vs Q E hr h => ?_)
  · obtain ⟨a, s, bs, rfl, _⟩ := h
    rfl
  · refine gen fun G' hG => ?_
    obtain ⟨a, s, bs, rfl, S, hf, hb, k⟩ := h
    refine hG ?_
    refine ⟨_, pss_cons (ps_set (i := 1) sc14.nd rfl (Or.inr rfl) (pe_lc rfl sc14.nd (pi_listK (K := K) rfl (pe_fldK (K := K) rfl (pv 0) rfl)) blk14a (by intros; exact pg_name (i := 2) sc14.nd rfl (Or.inl rfl)) (by intros; exact pts_nil) (by intros; exact pe_fldK (K := K) rfl (pv 2) rfl))) <|
      pss_one <| ps_ret <| pe_callB (r := rAll K) (cr_all rfl) (by rfl) M.all PyProof.Rows.boot_all (pa_cons (pe_lc rfl sc14.nd (pi_range1 (by rfl) M.range (pa_cons (pe_fldK (K := K) rfl (pv 0) rfl) pa_nil)) blk14b (by intros; exact pg_name (i := 3) sc14.nd rfl (Or.inl rfl)) (by intros; exact pts_nil)
        (by intros; exact pe_cmpR op_le (pe_bmK (K := K) rfl PySem.F.plainAttrs_list PySem.F.slot_list_count PySem.F.type_list_count (r := rCount K) mt_countL (pv 1) (pa_cons (pv 3) pa_nil)) pe_int (nomark _))) pa_nil), ?_⟩
    refine gen fun G' hG => ?_
    obtain ⟨lb, bx, b1, b2, b3⟩ := S.boxes
    refine hG ?_
    refine ⟨_, rfl, rf b1 ⟨lb, rfl, ⟨_, SqL.of b2⟩, fun D hD => ?_⟩⟩
    refine lcm_list (xs := bx.map V.ref) (ys := (bs.map fun b => (b.field : Int)).map V.int) hD (by rw [List.length_map, List.length_map, List.length_map, b3.1]) (by rw [List.length_map, b3.1]; exact Nat.le_trans hb (by decide)) (SqL.of b2) (fun x => rfl) ?_ ?_
    · intro j x y H1 R hx hy s1 kR
      refine gen fun G' hG => ?_
      obtain ⟨bo, hbo, rfl⟩ := refs_at hx
      obtain ⟨b, hb', B⟩ := b3.at hbo
      refine hG ?_
      have ey : y = .int (b.field : Int) := by
        rw [List.getElem?_map, List.getElem?_map, hb'] at hy
        exact (Option.some.inj hy).symm
      subst ey
      exact ⟨_, rfl, rf (B.mono s1).field (kR H1 (Same.refl _))⟩
    · intro H1 s1 hD1
      have S1 := S.mono s1
      refine ⟨_, rfl, rf S1.fields ⟨(s.fields : Int), rfl, by omega, by omega, fun D2 hD2 => ?_⟩⟩
      refine lcm_range (ys := ((List.range s.fields).map fun f => decide (((((bs.map fun b => (b.field : Int)).map V.int).countP fun z => eqV z (.int (f : Nat)) : Nat) : Int) ≤ 16)).map V.bl) hD2 (by rw [List.length_map, List.length_map, List.length_range]; rfl) (Nat.le_trans (show (s.fields : Int).toNat ≤ 64 by omega) (by decide)) (fun x => rfl) ?_ ?_
      · intro j y H2 R hy s2 kR
        have hD3 := s2 _ _ hD1
        have ey : y = .bl (decide (((((bs.map fun b => (b.field : Int)).map V.int).countP fun z => eqV z (.int (j : Nat)) : Nat) : Int) ≤ 16)) := by
          rw [List.getElem?_map, List.getElem?_map] at hy
          have hj : j < s.fields := by
            cases e : (List.range s.fields)[j]? with
            | none =>
              rw [e] at hy
              cases hy
            | some q =>
              have := (List.getElem?_eq_some_iff.mp e).1
              rw [List.length_range] at this
              exact this
          rw [List.getElem?_range hj] at hy
          exact (Option.some.inj hy).symm
        subst ey
        refine ⟨_, rfl, .inl ⟨rfl, _, SqL.of hD3⟩, _, rfl, D, _, _, rfl, rfl, SqL.of hD3, rfl, flat_ints _, _, _, rfl, rfl, ?_⟩
        rw [Int.zero_add]
        exact kR H2 (Same.refl _)
      · intro H2 s2 hD4
        refine ⟨D2, _, rfl, SqL.of hD4, ?_⟩
        have e : fieldsB s bs = (((List.range s.fields).map fun f => decide (((((bs.map fun b => (b.field : Int)).map V.int).countP fun z => eqV z (.int (f : Nat)) : Nat) : Int) ≤ 16)).all id) := by
          unfold fieldsB
          rw [List.all_map, List.map_map]
          rfl
        rw [← e]
        exact k H2 (s1.trans s2)
theorem sc15 : FnScope ["sheet", "box", "place"] ["sheet"] (defScope (top 15)) := ⟨rfl, rfl, rfl, by decide +kernel, rfl, by decide +kernel, by decide +kernel⟩
theorem ok15 {f : Addr} {fd : FuncData} (F : Fun K "om_right" "om_right" (top 15) f fd) (M : Mg mg) (d11 : Def P w K mg base 2 "measures_right" ["sheet"] (spMeasures K)) (d12 : Def P w K mg base 3 "corner_right" ["sheet", "place"] (spCornerR K))
    (d13 : Def P w K mg base 2 "box_right" ["sheet", "box"] (spBoxR K)) (d14 : Def P w K mg base 1 "fields_right" ["sheet"] (spFieldsR K)) : FnOk P w K mg base CX0 4 f fd ["sheet"] (spRight K) := by
  refine F.ok sc15 (fun vs H Q E h => ?_) (fun cdv Ar outer sh H vs Q E hr h => ?_)
  · obtain ⟨a, s, bs, rfl, _⟩ := h
    rfl
  · refine gen fun G' hG => ?_
    obtain ⟨a, s, bs, rfl, S, k⟩ := h
    refine hG ?_
    refine ⟨_, pss_cons (ps_if (pt_not (pt_val (pe_def d11 hr (by rfl) (pa_cons (pv 0) pa_nil)))) (pss_one (ps_ret (pe_cst M.notRight (by rfl)))) pss_nil) <|
      pss_cons (ps_if (pt_not (pt_val (pe_callB (r := rAll K) (cr_all rfl) (by rfl) M.all PyProof.Rows.boot_all (pa_cons (pe_lc rfl sc15.nd (pi_listK (K := K) rfl (pe_fldK (K := K) rfl (pv 0) rfl)) blk15a (by intros; exact pg_name (i := 1) sc15.nd rfl (Or.inl rfl)) (by intros; exact pts_nil)
        (by intros; exact pe_def d13 hr (by rfl) (pa_cons (pv 0) (pa_cons (pv 1) pa_nil)))) pa_nil)))) (pss_one (ps_ret (pe_cst M.notRight (by rfl)))) pss_nil) <|
      pss_cons (ps_if (pt_not (pt_val (pe_callB (r := rAll K) (cr_all rfl) (by rfl) M.all PyProof.Rows.boot_all (pa_cons (pe_lc rfl sc15.nd (pi_range1 (by rfl) M.range (pa_cons pe_int pa_nil)) blk15b (by intros; exact pg_name (i := 2) sc15.nd rfl (Or.inl rfl)) (by intros; exact pts_nil)
        (by intros; exact pe_def d12 hr (by rfl) (pa_cons (pv 0) (pa_cons (pv 2) pa_nil)))) pa_nil)))) (pss_one (ps_ret (pe_cst M.notRight (by rfl)))) pss_nil) <|
      pss_cons (ps_if (pt_not (pt_val (pe_def d14 hr (by rfl) (pa_cons (pv 0) pa_nil)))) (pss_one (ps_ret (pe_cst M.notRight (by rfl)))) pss_nil) <| pss_one (ps_ret pe_int), ?_⟩
    have no : ∀ H', Same H H' → rightB s bs false → Q (.int (-22)) H' := fun H' s' h => k H' false s' h
    refine ⟨_, rfl, a, s, bs, rfl, S, _, rfl, ?_⟩
    refine rite (fun hm => no H (Same.refl _) ⟨fun q => (by cases q), fun q => ?_⟩) (fun hm => ?_)
    · rw [q.1] at hm
      cases hm
    have hm : measuresB s bs = true := by
      cases e : measuresB s bs with
      | true => rfl
      | false =>
        rw [e] at hm
        cases hm
    refine gen fun G' hG => ?_
    obtain ⟨lb, bx, b1, b2, b3⟩ := S.boxes
    refine hG ?_
    have hm' := hm
    simp only [measuresB, inB, Bool.and_eq_true, decide_eq_true_eq] at hm'
    have hbl : bs.length ≤ 256 := by omega
    have hfl : s.fields ≤ 64 := by omega
    have hal : s.anchor.length = 4 := by
      have h4 := hm'.2.2.2.2.2.2.2.2.2.1
      injection h4 with h4
      omega
    refine ⟨_, rfl, rf b1 ⟨lb, rfl, ⟨_, SqL.of b2⟩, fun D hD => ?_⟩⟩
    refine lcm_list (xs := bx.map V.ref) (ys := (bs.map fun b => boxB s b).map V.bl) hD (by rw [List.length_map, List.length_map, List.length_map, b3.1]) (by rw [List.length_map, b3.1]; exact Nat.le_trans hbl (by decide)) (SqL.of b2) (fun x => rfl) ?_ ?_
    · intro j x y H1 R hx hy s1 kR
      refine gen fun G' hG => ?_
      obtain ⟨bo, hbo, rfl⟩ := refs_at hx
      obtain ⟨b, hb', B⟩ := b3.at hbo
      refine hG ?_
      have ey : y = .bl (boxB s b) := by
        rw [List.getElem?_map, List.getElem?_map, hb'] at hy
        exact (Option.some.inj hy).symm
      subst ey
      exact ⟨_, rfl, _, rfl, a, bo, s, bs, b, rfl, S.mono s1, B.mono s1, fun H2 s2 => kR H2 s2⟩
    intro H1 s1 hD1
    refine ⟨D, _, rfl, SqL.of hD1, _, rfl, ?_⟩
    have eall : ((bs.map fun b => boxB s b).all id = true) ↔ ∀ x ∈ bs, boxB s x = true := by
      rw [List.all_map, List.all_eq_true]
      rfl
    refine rite (fun hb => no H1 s1 ⟨fun q => (by cases q), fun q => ?_⟩) (fun hb => ?_)
    · rw [eall.mpr q.2.1] at hb
      cases hb
    have hb : ∀ x ∈ bs, boxB s x = true := by
      refine eall.mp ?_
      cases e : (bs.map fun b => boxB s b).all id with
      | true => rfl
      | false =>
        rw [e] at hb
        cases hb
    have S1 := S.mono s1
    -- the corners
    have key : ∀ (j : Nat), j < 4 → ∃ A, s.anchor[j]? = some A := fun j hj => ⟨_, List.getElem?_eq_getElem (by omega)⟩
    refine ⟨4, rfl, by decide, by decide, fun D2 hD2 => ?_⟩
    let cB : Nat → Bool := fun j => match s.anchor[j]? with
      | some A => @decide (cornerB s bs j A true) (Classical.propDecidable _)
      | none => true
    refine lcm_range (ys := ((List.range 4).map cB).map V.bl) hD2 (by rfl) (by decide) (fun x => rfl) ?_ ?_
    · intro j y H2 R hy s2 kR
      have hj : j < 4 := by
        have := (List.getElem?_eq_some_iff.mp hy).1
        rw [List.length_map, List.length_map, List.length_range] at this
        exact this
      refine gen fun G' hG => ?_
      obtain ⟨A, hA⟩ := key j hj
      refine hG ?_
      have ey : y = .bl (cB j) := by
        rw [List.getElem?_map, List.getElem?_map, List.getElem?_range hj] at hy
        exact (Option.some.inj hy).symm
      subst ey
      refine ⟨_, rfl, _, rfl, a, j, s, bs, A, by rw [Int.zero_add]; rfl, S1.mono s2, hA, fun H3 b s3 hc => ?_⟩
      have : cB j = b := by
        show (match s.anchor[j]? with
          | some A => @decide (cornerB s bs j A true) (Classical.propDecidable _)
          | none => true) = b
        rw [hA]
        show @decide (cornerB s bs j A true) (Classical.propDecidable _) = b
        cases b with
        | true => exact @decide_eq_true _ (Classical.propDecidable _) hc
        | false =>
          refine @decide_eq_false _ (Classical.propDecidable _) fun q => ?_
          have := hc.mpr (q.mp rfl)
          cases this
      rw [← this]
      exact kR H3 s3
    intro H2 s2 hD3
    refine ⟨D2, _, rfl, SqL.of hD3, _, rfl, ?_⟩
    have s12 := s1.trans s2
    have eall2 : (((List.range 4).map cB).all id = true) ↔ ∀ (k : Nat) (A : Kp138.Anchor), k < 4 → s.anchor[k]? = some A → cornerB s bs k A true := by
      rw [List.all_map, List.all_eq_true]
      constructor
      · intro h j A hj hA
        have q : cB j = true := h j (List.mem_range.mpr hj)
        have q' : (match s.anchor[j]? with
          | some A => @decide (cornerB s bs j A true) (Classical.propDecidable _)
          | none => true) = true := q
        rw [hA] at q'
        exact @of_decide_eq_true _ (Classical.propDecidable _) q'
      · intro h j hj
        have hj := List.mem_range.mp hj
        refine gen fun G' hG => ?_
        obtain ⟨A, hA⟩ := key j hj
        refine hG ?_
        show (match s.anchor[j]? with
          | some A => @decide (cornerB s bs j A true) (Classical.propDecidable _)
          | none => true) = true
        rw [hA]
        exact @decide_eq_true _ (Classical.propDecidable _) (h j A hj hA)
    refine rite (fun hc => no H2 s12 ⟨fun q => (by cases q), fun q => ?_⟩) (fun hc => ?_)
    · rw [eall2.mpr q.2.2.1] at hc
      cases hc
    have hc : ∀ (k : Nat) (A : Kp138.Anchor), k < 4 → s.anchor[k]? = some A → cornerB s bs k A true := by
      refine eall2.mp ?_
      cases e : ((List.range 4).map cB).all id with
      | true => rfl
      | false =>
        rw [e] at hc
        cases hc
    refine ⟨_, rfl, a, s, bs, rfl, S.mono s12, hfl, hbl, fun H3 s3 => ⟨_, rfl, ?_⟩⟩
    refine rite (fun hf => no H3 (s12.trans s3) ⟨fun q => (by cases q), fun q => ?_⟩) (fun hf => ?_)
    · rw [q.2.2.2] at hf
      cases hf
    have hf : fieldsB s bs = true := by
      cases e : fieldsB s bs with
      | true => rfl
      | false =>
        rw [e] at hf
        cases hf
    exact k H3 true (s12.trans s3) ⟨fun _ => ⟨hm, hb, hc, hf⟩, fun _ => rfl⟩
end
end My
end
section
set_option Elab.async false
set_option linter.all false
set_option maxRecDepth 100000
set_option maxHeartbeats 4000000
namespace My
open PySem PySem.Spec PyProof.Rows L2
def inkL (ps : List Int) (e : Int) : List Int := ps.map fun b => if b ≤ e then 1 else 0
def spInk (K : PySem.W.Frag) : Sp := fun vs H Q _ => ∃ (a : Addr) (ps : List Int) (e : Int), vs = [.ref a, .int e] ∧ SqL K H a (ps.map V.int) ∧ ps.length ≤ sizeLine ∧
  ∀ (H' : Hp) (q : Addr), Same H H' → H' q = some (.lst ((inkL ps e).map V.int)) → Q (.ref q) H'
def rowSum (W : Nat) (ink : List Int) (x w r : Nat) : Int := ((ink.drop (r * W + x)).take w).sum
def inkSum (W : Nat) (ink : List Int) (x y w h : Nat) : Int := ((List.range h).map fun j => rowSum W ink x w (y + j)).sum
def spInkIn (K : PySem.W.Frag) : Sp := fun vs H Q _ => ∃ (a i : Addr) (s : Kp138.Sheet) (bs : List Kp138.Box) (ink : List Int) (x y w h : Nat), vs = [.ref a, .ref i, .int x, .int y, .int w, .int h] ∧ SheetAt K H a s bs ∧ SqL K H i (ink.map V.int) ∧ y < 2 ^ 40 ∧ h < 2 ^ 40 ∧
  ∀ H', Same H H' → Q (.int (inkSum s.width ink x y w h)) H'
def sqSum (s : Kp138.Sheet) (ink : List Int) (dx dy : Int) : Int := (s.anchor.map fun A => inkSum s.width ink (Kp138.moved A.x dx) (Kp138.moved A.y dy) s.side s.side).sum
def spSquares (K : PySem.W.Frag) : Sp := fun vs H Q _ => ∃ (a i : Addr) (s : Kp138.Sheet) (bs : List Kp138.Box) (ink : List Int) (dx dy : Int), vs = [.ref a, .ref i, .int dx, .int dy] ∧ SheetAt K H a s bs ∧ SqL K H i (ink.map V.int) ∧
  (∀ A ∈ s.anchor, 0 ≤ (A.x : Int) + dx ∧ 0 ≤ (A.y : Int) + dy ∧ (A.y : Int) + dy < 2 ^ 40) ∧ s.side < 2 ^ 40 ∧ ∀ H', Same H H' → Q (.int (sqSum s ink dx dy)) H'
theorem sum_snocI : ∀ (l : List Int) (z : Int), (l ++ [z]).sum = l.sum + z
  | [], z => by
    show ([z] : List Int).sum = ([] : List Int).sum + z
    rw [List.sum_cons]
    exact Int.add_comm _ _
  | a :: l, z => by
    show (a :: (l ++ [z])).sum = (a :: l).sum + z
    rw [List.sum_cons, List.sum_cons, sum_snocI l z]
    omega
theorem inkSum_succ (W : Nat) (ink : List Int) (x y w h : Nat) : inkSum W ink x y w (h + 1) = inkSum W ink x y w h + rowSum W ink x w (y + h) := by
  unfold inkSum
  rw [List.range_succ, List.map_append, List.map_cons, List.map_nil, sum_snocI]
theorem take_min {α : Type} (l : List α) (k w : Nat) : (l.drop (min k l.length)).take (min (k + w) l.length - min k l.length) = (l.drop k).take w := by
  by_cases h : k ≤ l.length
  · rw [Nat.min_eq_left h]
    by_cases h2 : k + w ≤ l.length
    · rw [Nat.min_eq_left h2, Nat.add_sub_cancel_left]
    · rw [Nat.min_eq_right (by omega), List.take_of_length_le (by rw [List.length_drop]; omega), List.take_of_length_le (by rw [List.length_drop]; omega)]
  · rw [Nat.min_eq_right (by omega), Nat.min_eq_right (by omega), Nat.sub_self, List.take_zero, List.drop_eq_nil_of_le (by omega), List.take_nil]
theorem cut_nat (ns : List Int) (k w : Nat) : cutV (ns.map V.int) (some (k : Int)) (some ((k : Int) + (w : Int))) = ((ns.drop k).take w).map V.int := by
  unfold cutV
  rw [HT.sIx_nat, show (k : Int) + (w : Int) = ((k + w : Nat) : Int) by omega, HT.sIx_nat, take_min, List.map_take, List.map_drop]
theorem blk22 : BlkOk ["picture", "edge", "brightness"] (defScope (top 22)) (lcSc (valOf (st (top 22) 0))) [("brightness", 2)] := ⟨rfl, by decide +kernel, by decide +kernel, by decide +kernel, by decide +kernel⟩
section
variable {P : Program} {w : World} {K : PySem.W.Frag} {mg : Str → Option Value} {base : Heap}
theorem sc22 : FnScope ["picture", "edge", "brightness"] ["picture", "edge"] (defScope (top 22)) := ⟨rfl, rfl, rfl, by decide +kernel, rfl, by decide +kernel, by decide +kernel⟩
theorem ok22 {f : Addr} {fd : FuncData} (F : Fun K "ink_of" "ink_of" (top 22) f fd) : FnOk P w K mg base CX0 1 f fd ["picture", "edge"] (spInk K) := by
  refine F.ok sc22 (fun vs H Q E h => ?_) (fun cdv Ar outer sh H vs Q E hr h => ?_)
  · obtain ⟨a, ps, e, rfl, _⟩ := h
    rfl
  · refine gen fun G' hG => ?_
    obtain ⟨a, ps, e, rfl, hp, hz, k⟩ := h
    refine hG ?_
    refine ⟨_, pss_one <| ps_ret <| pe_lc rfl sc22.nd (pi_listK (K := K) rfl (pv 0)) blk22 (by intros; exact pg_name (i := 2) sc22.nd rfl (Or.inl rfl)) (by intros; exact pts_nil) (by intros; exact pe_ifExp (pt_cmpR op_le (pv 2) (pv 1) (nomark _)) pe_int pe_int), ?_⟩
    refine ⟨_, rfl, a, rfl, ⟨_, hp⟩, fun D hD => ?_⟩
    refine lcm_list (xs := ps.map V.int) (ys := (inkL ps e).map V.int) hD (by unfold inkL; rw [List.length_map, List.length_map, List.length_map]) (by rw [List.length_map]; exact hz) hp (fun x => rfl) ?_ ?_
    · intro j x y H1 R hx hy s1 kR
      refine gen fun G' hG => ?_
      obtain ⟨b, hb, rfl⟩ := ints_at hx
      refine hG ?_
      have ey : y = .int (if b ≤ e then 1 else 0) := by
        unfold inkL at hy
        rw [List.getElem?_map, List.getElem?_map, hb] at hy
        exact (Option.some.inj hy).symm
      subst ey
      refine ⟨_, rfl, _, rfl, _, _, rfl, rfl, _, rfl, rite (fun h => ?_) (fun h => ?_)⟩
      · have q := kR H1 (Same.refl _)
        rw [if_pos (of_decide_eq_true h)] at q
        exact q
      · have q := kR H1 (Same.refl _)
        rw [if_neg (of_decide_eq_false h)] at q
        exact q
    · intro H1 s1 hD1
      exact k H1 D s1 hD1
theorem sc23 : FnScope ["sheet", "ink", "x", "y", "w", "h", "has", "row", "begin"] ["sheet", "ink", "x", "y", "w", "h"] (defScope (top 23)) := ⟨rfl, rfl, rfl, by decide +kernel, rfl, by decide +kernel, by decide +kernel⟩
theorem ok23 {f : Addr} {fd : FuncData} (F : Fun K "ink_within" "ink_within" (top 23) f fd) (M : Mg mg) : FnOk P w K mg base CX0 1 f fd ["sheet", "ink", "x", "y", "w", "h"] (spInkIn K) := by
  refine F.ok sc23 (fun vs H Q E h => ?_) (fun cdv Ar outer sh H vs Q E hr h => ?_)
  · obtain ⟨a, i, s, bs, ink, x, y, w, h, rfl, _⟩ := h
    rfl
  · refine gen fun G' hG => ?_
    obtain ⟨a, i, s, bs, ink, x, y, w, h, rfl, S, hI, hy, hh, k⟩ := h
    refine hG ?_
    refine ⟨_, pss_cons (ps_set (i := 6) sc23.nd rfl (Or.inl rfl) pe_int) <|
      pss_cons (ps_for PassesOwn.never rfl (pi_range2 (by rfl) M.range (pa_cons (pv 3) (pa_cons (pe_op op_add (pv 3) (pv 5)) pa_nil))) (pg_name (i := 7) sc23.nd rfl (Or.inl rfl))
        (pss_cons (ps_set (i := 8) sc23.nd rfl (Or.inl rfl) (pe_op op_add (pe_op op_mul (pv 7) (pe_fldK (K := K) rfl (pv 0) rfl)) (pv 2))) <|
         pss_one (ps_aug (i := 6) sc23.nd rfl (Or.inl rfl) (pe_callB (r := rSum K) (cr_sum rfl) (by rfl) M.sum PyProof.Rows.boot_sum (pa_cons (pe_slice (r := rSlL K) sl_list (pv 1) (po_some (pv 8)) (po_some (pe_op op_add (pv 8) (pv 4)))) pa_nil)) ip_add))) <|
      pss_one (ps_ret (pv 6)), ?_⟩
    refine ⟨_, rfl, _, rfl, _, rfl, _, _, rfl, rfl, (y : Int), (y : Int) + (h : Int), rfl, ⟨by omega, by omega, by omega, by omega⟩, ?_⟩
    rw [show ((y : Int) + (h : Int) - (y : Int)).toNat = h by omega]
    refine for_range (fun j σ H' => Same H H' ∧ ∃ v7 v8 : Option V, σ = [some (.ref a), some (.ref i), some (.int x), some (.int y), some (.int w), some (.int h), some (.int (inkSum s.width ink x y w j)), v7, v8]) ?_ ?_ ?_
    · exact ⟨Same.refl _, none, none, rfl⟩
    · intro j σ H1 hj hp4
      refine gen fun G' hG => ?_
      obtain ⟨s1, v7, v8, rfl⟩ := hp4
      refine hG ?_
      refine ⟨_, rfl, _, rfl, rf (S.mono s1).width ⟨_, _, rfl, rfl, .inl ⟨by omega, by omega⟩, _, rfl, _, _, rfl, rfl, ?_⟩⟩
      have e1 : ((y : Int) + (j : Nat)) * (s.width : Int) + (x : Int) = (((y + j) * s.width + x : Nat) : Int) := by push_cast; rfl
      dsimp only
      rw [e1]
      refine ⟨_, rfl, _, rfl, _, rfl, _, rfl, _, rfl, _, rfl, _, _, rfl, rfl, _, rfl, i, _, rfl, s1.seq hI, fun p hp => ?_⟩
      rw [cut_nat]
      exact ⟨p, _, rfl, SqL.of upd_same, _, _, rfl, rfl, s1.put hp, _, _, by rw [inkSum_succ]; rfl⟩
    · intro σ H1 hp2
      refine gen fun G' hG => ?_
      obtain ⟨s1, v7, v8, rfl⟩ := hp2
      refine hG ?_
      exact ⟨_, rfl, k H1 s1⟩
theorem sc24 : FnScope ["sheet", "ink", "dx", "dy", "has", "corner"] ["sheet", "ink", "dx", "dy"] (defScope (top 24)) := ⟨rfl, rfl, rfl, by decide +kernel, rfl, by decide +kernel, by decide +kernel⟩
theorem ok24 {f : Addr} {fd : FuncData} (F : Fun K "ink_in_squares" "ink_in_squares" (top 24) f fd) (d23 : Def P w K mg base 1 "ink_within" ["sheet", "ink", "x", "y", "w", "h"] (spInkIn K)) : FnOk P w K mg base CX0 2 f fd ["sheet", "ink", "dx", "dy"] (spSquares K) := by
  refine F.ok sc24 (fun vs H Q E h => ?_) (fun cdv Ar outer sh H vs Q E hr h => ?_)
  · obtain ⟨a, i, s, bs, ink, dx, dy, rfl, _⟩ := h
    rfl
  · refine gen fun G' hG => ?_
    obtain ⟨a, i, s, bs, ink, dx, dy, rfl, S, hI, hb, hs, k⟩ := h
    refine hG ?_
    refine ⟨_, pss_cons (ps_set (i := 4) sc24.nd rfl (Or.inl rfl) pe_int) <|
      pss_cons (ps_for PassesOwn.never rfl (pi_listK (K := K) rfl (pe_fldK (K := K) rfl (pv 0) rfl)) (pg_name (i := 5) sc24.nd rfl (Or.inl rfl))
        (pss_one (ps_aug (i := 4) sc24.nd rfl (Or.inl rfl) (pe_def d23 hr (by rfl) (pa_cons (pv 0) (pa_cons (pv 1) (pa_cons (pe_op op_add (pe_fldK (K := K) rfl (pv 5) rfl) (pv 2)) (pa_cons (pe_op op_add (pe_fldK (K := K) rfl (pv 5) rfl) (pv 3)) (pa_cons (pe_fldK (K := K) rfl (pv 0) rfl) (pa_cons (pe_fldK (K := K) rfl (pv 0) rfl) pa_nil))))))) ip_add))) <|
      pss_one (ps_ret (pv 4)), ?_⟩
    refine gen fun G' hG => ?_
    obtain ⟨lc, cs, c1, c2, c3⟩ := S.corners
    refine hG ?_
    refine ⟨_, rfl, rf c1 ⟨lc, rfl, ⟨_, SqL.of c2⟩, ?_⟩⟩
    refine for_list (K := K) (a := lc) (xs := cs.map V.ref) (fun j σ H' => Same H H' ∧ ∃ v5 : Option V, σ = [some (.ref a), some (.ref i), some (.int dx), some (.int dy), some (.int ((s.anchor.take j).map fun A => inkSum s.width ink (Kp138.moved A.x dx) (Kp138.moved A.y dy) s.side s.side).sum), v5]) ?_ ?_ ?_ ?_
    · exact ⟨Same.refl _, none, rfl⟩
    · intro j σ H1 _ hp4
      refine gen fun G' hG => ?_
      obtain ⟨s1, _⟩ := hp4
      refine hG ?_
      exact SqL.of (s1 _ _ c2)
    · intro j x σ H1 hx hp5
      refine gen fun G' hG => ?_
      obtain ⟨s1, v5, rfl⟩ := hp5
      refine hG ?_
      refine gen fun G' hG => ?_
      obtain ⟨c, hc, rfl⟩ := refs_at hx
      obtain ⟨A, hA, CA⟩ := c3.at hc
      refine hG ?_
      have CA1 := CA.mono s1
      have S1 := S.mono s1
      refine gen fun G' hG => ?_
      obtain ⟨b1, b2, b3⟩ := hb A (List.mem_of_getElem? hA)
      refine hG ?_
      have e1 : (A.x : Int) + dx = ((Kp138.moved A.x dx : Nat) : Int) := by unfold Kp138.moved; omega
      have e2 : (A.y : Int) + dy = ((Kp138.moved A.y dy : Nat) : Int) := by unfold Kp138.moved; omega
      refine ⟨_, rfl, _, rfl, _, rfl, _, rfl, rf CA1.x ⟨_, rfl, _, _, rfl, rfl, _, rfl, rf CA1.y ⟨_, rfl, _, _, rfl, rfl, _, rfl, rf S1.side ⟨_, rfl, rf S1.side ?_⟩⟩⟩⟩
      exact ⟨a, i, s, bs, ink, Kp138.moved A.x dx, Kp138.moved A.y dy, s.side, s.side, by rw [← e1, ← e2]; rfl, S1, s1.seq hI, by omega, hs, fun H2 s2 => ⟨_, _, rfl, rfl, s1.trans s2, _, by rw [take_snoc hA, List.map_append, List.map_cons, List.map_nil, sum_snocI]; rfl⟩⟩
    · intro σ H1 hp2
      refine gen fun G' hG => ?_
      obtain ⟨s1, v5, rfl⟩ := hp2
      refine hG ?_
      rw [List.length_map, c3.1, List.take_length]
      exact ⟨_, rfl, k H1 s1⟩
end
end My
end
section
set_option Elab.async false
set_option linter.all false
set_option maxRecDepth 100000
set_option maxHeartbeats 4000000
namespace My
open PySem PySem.Spec PyProof.Rows L2
/-- a right sheet, by numbers -/
structure Ok (s : Kp138.Sheet) (bs : List Kp138.Box) : Prop where
  w1 : 16 ≤ s.width
  w2 : s.width ≤ 512
  h1 : 16 ≤ s.height
  h2 : s.height ≤ 512
  sh : s.shift ≤ 15
  s1 : 2 ≤ s.side
  s2 : s.side ≤ 32
  du : s.dust < 2 * s.side
  no : s.noise ≤ 31
  bl : s.blank < s.fill
  fi : s.fill ≤ 1024
  f1 : 1 ≤ s.fields
  f2 : s.fields ≤ 64
  an : s.anchor.length = 4
  b1 : 1 ≤ bs.length
  b2 : bs.length ≤ 256
  box : ∀ b ∈ bs, 1 ≤ b.w ∧ 1 ≤ b.h ∧ s.shift ≤ b.x ∧ s.shift ≤ b.y ∧ b.x + b.w + s.shift ≤ s.width ∧ b.y + b.h + s.shift ≤ s.height ∧ b.field < s.fields ∧ b.zero = 0
  cor : ∀ A ∈ s.anchor, 2 * s.shift + 1 ≤ A.x ∧ 2 * s.shift + 1 ≤ A.y ∧ A.x + s.side + (2 * s.shift + 1) ≤ s.width ∧ A.y + s.side + (2 * s.shift + 1) ≤ s.height ∧ A.zero = 0
theorem ok_of {s : Kp138.Sheet} {bs : List Kp138.Box} (h : rightB s bs true) : Ok s bs := by
  obtain ⟨m, b, c, f⟩ := h.mp rfl
  simp only [measuresB, inB, Bool.and_eq_true, decide_eq_true_eq] at m
  obtain ⟨m1, m2, m3, m4, m5, m6, m7, m8, m9, m10, m11⟩ := m
  have hal : s.anchor.length = 4 := by
    injection m10 with h4
    omega
  refine ⟨by omega, by omega, by omega, by omega, by omega, by omega, by omega, by omega, by omega, by omega, by omega, by omega, by omega, hal, by omega, by omega, fun x hx => ?_, fun A hA => ?_⟩
  · have q := b x hx
    simp only [boxB, within4, Bool.and_eq_true, decide_eq_true_eq] at q
    obtain ⟨q1, q2, ⟨q3, q4, q5, q6⟩, q7, q8⟩ := q
    injection q8 with q8
    omega
  · obtain ⟨j, hj, e⟩ := List.getElem_of_mem hA
    have q := c j A (by omega) (by rw [← e]; exact List.getElem?_eq_getElem hj)
    obtain ⟨_, _, q3, q4⟩ := q.mp rfl
    simp only [within4, Bool.and_eq_true, decide_eq_true_eq] at q4
    unfold moreOf at q4
    omega
def rowI (s : Kp138.Sheet) (j m : Nat) : List (Int × Int) := (List.range m).map fun i => (-(s.shift : Int) + (i : Nat), -(s.shift : Int) + (j : Nat))
def shiftsI (s : Kp138.Sheet) (j : Nat) : List (Int × Int) := (List.range j).flatMap fun i => rowI s i (2 * s.shift + 1)
def stepB (s : Kp138.Sheet) (ink : List Int) (b : Int × Int × Int) (d : Int × Int) : Int × Int × Int := if b.2.2 < sqSum s ink d.1 d.2 then (d.1, d.2, sqSum s ink d.1 d.2) else b
def bestTo (s : Kp138.Sheet) (ink : List Int) (l : List (Int × Int)) : Int × Int × Int := l.foldl (stepB s ink) (0, 0, -1)
def bestF (s : Kp138.Sheet) (ink : List Int) : Int × Int × Int := bestTo s ink (shiftsI s (2 * s.shift + 1))
def t3 (b : Int × Int × Int) : List V := [.int b.1, .int b.2.1, .int b.2.2]
theorem rowI_succ (s : Kp138.Sheet) (j m : Nat) : rowI s j (m + 1) = rowI s j m ++ [(-(s.shift : Int) + (m : Nat), -(s.shift : Int) + (j : Nat))] := by
  unfold rowI
  rw [List.range_succ, List.map_append]
  rfl
theorem shiftsI_succ (s : Kp138.Sheet) (j : Nat) : shiftsI s (j + 1) = shiftsI s j ++ rowI s j (2 * s.shift + 1) := by
  unfold shiftsI
  rw [List.range_succ, List.flatMap_append, List.flatMap_cons, List.flatMap_nil, List.append_nil]
theorem bestTo_snoc (s : Kp138.Sheet) (ink : List Int) (l : List (Int × Int)) (d : Int × Int) : bestTo s ink (l ++ [d]) = stepB s ink (bestTo s ink l) d := by
  unfold bestTo
  rw [List.foldl_append]
  rfl
def spBest (K : PySem.W.Frag) : Sp := fun vs H Q _ => ∃ (a i : Addr) (s : Kp138.Sheet) (bs : List Kp138.Box) (ink : List Int), vs = [.ref a, .ref i] ∧ SheetAt K H a s bs ∧ SqL K H i (ink.map V.int) ∧ Ok s bs ∧
  ∀ (H' : Hp) (p : Addr), Same H H' → H' p = some (.tup (t3 (bestF s ink))) → Q (.ref p) H'
def spTold (K : PySem.W.Frag) : Sp := fun vs H Q _ => ∃ (a c : Addr) (s : Kp138.Sheet) (bs : List Kp138.Box) (b : Kp138.Box) (n : Nat), vs = [.ref a, .ref c, .int (n : Int)] ∧ SheetAt K H a s bs ∧ BoxAt K H c b ∧ s.fill ≤ 1024 ∧ s.blank ≤ 1024 ∧ b.w ≤ 512 ∧ b.h ≤ 512 ∧
  Q (.int (Kp138.told s b n : Nat)) H
theorem rng_sh {n : Nat} (h : n ≤ 15) : -(2 ^ 62) ≤ -(n : Int) ∧ -(n : Int) < 2 ^ 62 ∧ -(2 ^ 62) ≤ (n : Int) + 1 ∧ (n : Int) + 1 < 2 ^ 62 := by omega
theorem small_l {n : Nat} (h : n ≤ 1024) : -(2 ^ 64) < (n : Int) ∧ (n : Int) < 2 ^ 64 := by omega
theorem told_math (s : Kp138.Sheet) (b : Kp138.Box) (n : Nat) (f bl : Bool) (hf : f = decide ((s.fill : Int) * ((b.w : Int) * (b.h : Int)) ≤ 1024 * ((n : Int) + (s.dust : Int)))) (hb : bl = decide (1024 * (if (0 : Int) > (n : Int) - (s.dust : Int) then 0 else (n : Int) - (s.dust : Int)) ≤ (s.blank : Int) * ((b.w : Int) * (b.h : Int)))) :
    Kp138.told s b n = if (bl && !f) = true then 0 else if (f && !bl) = true then 1 else 2 := by
  have e1 : (s.fill : Int) * ((b.w : Int) * (b.h : Int)) = ((s.fill * (b.w * b.h) : Nat) : Int) := by push_cast; rfl
  have e2 : (s.blank : Int) * ((b.w : Int) * (b.h : Int)) = ((s.blank * (b.w * b.h) : Nat) : Int) := by push_cast; rfl
  have e3 : (if (0 : Int) > (n : Int) - (s.dust : Int) then 0 else (n : Int) - (s.dust : Int)) = ((n - s.dust : Nat) : Int) := by
    split <;> omega
  rw [e1] at hf
  rw [e2, e3] at hb
  unfold Kp138.told
  generalize s.fill * (b.w * b.h) = x at *
  generalize s.blank * (b.w * b.h) = y at *
  have f1 : decide (1024 * (n + s.dust) < x) = !f := by
    rw [hf, Bool.eq_iff_iff]
    simp
    omega
  have f2 : decide (y < 1024 * (n - s.dust)) = !bl := by
    rw [hb, Bool.eq_iff_iff]
    simp
    omega
  simp only [f1, f2, Bool.not_not]
  cases f <;> cases bl <;> rfl
section
variable {P : Program} {w : World} {K : PySem.W.Frag} {mg : Str → Option Value} {base : Heap}
theorem sc25 : FnScope ["sheet", "ink", "best", "dy", "dx", "has"] ["sheet", "ink"] (defScope (top 25)) := ⟨rfl, rfl, rfl, by decide +kernel, rfl, by decide +kernel, by decide +kernel⟩
theorem ok25 {f : Addr} {fd : FuncData} (F : Fun K "best_shift" "best_shift" (top 25) f fd) (M : Mg mg) (d24 : Def P w K mg base 2 "ink_in_squares" ["sheet", "ink", "dx", "dy"] (spSquares K)) : FnOk P w K mg base CX0 3 f fd ["sheet", "ink"] (spBest K) := by
  refine F.ok sc25 (fun vs H Q E h => ?_) (fun cdv Ar outer sh H vs Q E hr h => ?_)
  · obtain ⟨a, i, s, bs, ink, rfl, _⟩ := h
    rfl
  · refine gen fun G' hG => ?_
    obtain ⟨a, i, s, bs, ink, rfl, S, hI, ok, k⟩ := h
    refine hG ?_
    refine ⟨_, pss_cons (ps_set (i := 2) sc25.nd rfl (Or.inl rfl) (pe_tup (pa_cons pe_int (pa_cons pe_int (pa_cons (pe_un un_neg pe_int) pa_nil))))) <|
      pss_cons (ps_for PassesOwn.never rfl (pi_range2 (by rfl) M.range (pa_cons (pe_un un_neg (pe_fldK (K := K) rfl (pv 0) rfl)) (pa_cons (pe_op op_add (pe_fldK (K := K) rfl (pv 0) rfl) pe_int) pa_nil))) (pg_name (i := 3) sc25.nd rfl (Or.inl rfl)) <|
        pss_one <| ps_for PassesOwn.never rfl (pi_range2 (by rfl) M.range (pa_cons (pe_un un_neg (pe_fldK (K := K) rfl (pv 0) rfl)) (pa_cons (pe_op op_add (pe_fldK (K := K) rfl (pv 0) rfl) pe_int) pa_nil))) (pg_name (i := 4) sc25.nd rfl (Or.inl rfl)) <|
          pss_cons (ps_set (i := 5) sc25.nd rfl (Or.inl rfl) (pe_def d24 hr (by rfl) (pa_cons (pv 0) (pa_cons (pv 1) (pa_cons (pv 4) (pa_cons (pv 3) pa_nil)))))) <|
          pss_one <| ps_if (pt_cmpR op_gt (pv 5) (pe_ix (r := rIxT K) ix_tup (pv 2) pe_int (fun _ _ => rfl)) (nomark _)) (pss_one (ps_set (i := 2) sc25.nd rfl (Or.inl rfl) (pe_tup (pa_cons (pv 4) (pa_cons (pv 3) (pa_cons (pv 5) pa_nil)))))) pss_nil) <|
      pss_one (ps_ret (pv 2)), ?_⟩
    have hsh := ok.sh
    refine ⟨_, rfl, by show 3 ≤ sizeLine; decide, fun p0 hp0 => ?_⟩
    have s0 : Same H (upd H p0 (.tup (t3 (0, 0, -1)))) := (Same.refl H).put hp0
    refine ⟨_, rfl, rf (S.mono s0).shift ⟨_, rfl, _, rfl, rf (S.mono s0).shift ⟨_, _, rfl, rfl, -(s.shift : Int), (s.shift : Int) + 1, rfl, rng_sh hsh, ?_⟩⟩⟩
    have en : ((s.shift : Int) + 1 - -(s.shift : Int)).toNat = 2 * s.shift + 1 := by omega
    rw [en]
    refine for_range (fun j σ H' => Same H H' ∧ ∃ (p : Addr) (v3 v4 v5 : Option V), σ = [some (.ref a), some (.ref i), some (.ref p), v3, v4, v5] ∧ H' p = some (.tup (t3 (bestTo s ink (shiftsI s j))))) ?_ ?_ ?_
    · exact ⟨s0, p0, none, none, none, rfl, upd_same⟩
    · intro j σ H1 hj hp4
      refine gen fun G' hG => ?_
      obtain ⟨s1, p, v3, v4, v5, rfl, hp⟩ := hp4
      refine hG ?_
      refine ⟨_, rfl, rf (S.mono s1).shift ⟨_, rfl, _, rfl, rf (S.mono s1).shift ⟨_, _, rfl, rfl, -(s.shift : Int), (s.shift : Int) + 1, rfl, rng_sh hsh, ?_⟩⟩⟩
      rw [en]
      refine for_range (fun m σ H' => Same H H' ∧ ∃ (p : Addr) (v4 v5 : Option V), σ = [some (.ref a), some (.ref i), some (.ref p), some (.int (-(s.shift : Int) + (j : Nat))), v4, v5] ∧ H' p = some (.tup (t3 (bestTo s ink (shiftsI s j ++ rowI s j m))))) ?_ ?_ ?_
      · exact ⟨s1, p, v4, v5, rfl, by unfold rowI; rw [List.range_zero, List.map_nil, List.append_nil]; exact hp⟩
      · intro m σ H2 hm hp4
        refine gen fun G' hG => ?_
        obtain ⟨s2, q, v4, v5, rfl, hq⟩ := hp4
        refine hG ?_
        refine ⟨_, rfl, _, rfl, _, rfl, _, rfl, a, i, s, bs, ink, _, _, rfl, S.mono s2, s2.seq hI, fun A hA => ?_, ?_, fun H3 s3 => ?_⟩
        · have := ok.cor A hA
          have := ok.h2
          omega
        · have := ok.s2
          omega
        · refine ⟨_, rfl, _, rfl, q, _, _, _, rfl, rfl, SqT.of (s3 _ _ hq), atI_nat (j := 2) rfl, _, _, rfl, rfl, _, rfl, rite (fun hlt => ?_) (fun hlt => ?_)⟩
          · have hlt := of_decide_eq_true hlt
            refine ⟨_, rfl, _, rfl, _, rfl, by show 3 ≤ sizeLine; decide, fun r hr' => ⟨(s2.trans s3).put hr', r, _, _, rfl, ?_⟩⟩
            rw [upd_same, rowI_succ, ← List.append_assoc, bestTo_snoc]
            unfold stepB
            rw [if_pos hlt]
            rfl
          · have hlt := of_decide_eq_false hlt
            refine ⟨s2.trans s3, q, _, _, rfl, ?_⟩
            rw [rowI_succ, ← List.append_assoc, bestTo_snoc]
            unfold stepB
            rw [if_neg hlt]
            exact s3 _ _ hq
      · intro σ H2 hp2
        refine gen fun G' hG => ?_
        obtain ⟨s2, q, v4, v5, rfl, hq⟩ := hp2
        refine hG ?_
        exact ⟨s2, q, _, _, _, rfl, by rw [shiftsI_succ]; exact hq⟩
    · intro σ H1 hp2
      refine gen fun G' hG => ?_
      obtain ⟨s1, p, v3, v4, v5, rfl, hp⟩ := hp2
      refine hG ?_
      exact ⟨_, rfl, k H1 p s1 hp⟩
theorem sc27 : FnScope ["sheet", "box", "has", "places", "may_be_full", "may_be_blank"] ["sheet", "box", "has"] (defScope (top 27)) := ⟨rfl, rfl, rfl, by decide +kernel, rfl, by decide +kernel, by decide +kernel⟩
theorem ok27 {f : Addr} {fd : FuncData} (F : Fun K "told_of" "told_of" (top 27) f fd) (M : Mg mg) : FnOk P w K mg base CX0 1 f fd ["sheet", "box", "has"] (spTold K) := by
  refine F.ok sc27 (fun vs H Q E h => ?_) (fun cdv Ar outer sh H vs Q E hr h => ?_)
  · obtain ⟨a, c, s, bs, b, n, rfl, _⟩ := h
    rfl
  · refine gen fun G' hG => ?_
    obtain ⟨a, c, s, bs, b, n, rfl, S, B, hf, hb, hw, hh, k⟩ := h
    refine hG ?_
    refine ⟨_, pss_cons (ps_set (i := 3) sc27.nd rfl (Or.inl rfl) (pe_op op_mul (pe_fldK (K := K) rfl (pv 1) rfl) (pe_fldK (K := K) rfl (pv 1) rfl))) <|
      pss_cons (ps_set (i := 4) sc27.nd rfl (Or.inl rfl) (pe_cmpR op_ge (pe_op op_mul pe_int (pe_op op_add (pv 2) (pe_fldK (K := K) rfl (pv 0) rfl))) (pe_op op_mul (pe_fldK (K := K) rfl (pv 0) rfl) (pv 3)) (nomark _))) <|
      pss_cons (ps_set (i := 5) sc27.nd rfl (Or.inl rfl) (pe_cmpR op_le (pe_op op_mul pe_int (pe_callB (call_max2 rfl) (by rfl) M.max PyProof.Rows.boot_max (pa_cons (pe_op op_sub (pv 2) (pe_fldK (K := K) rfl (pv 0) rfl)) (pa_cons pe_int pa_nil)))) (pe_op op_mul (pe_fldK (K := K) rfl (pv 0) rfl) (pv 3)) (nomark _))) <|
      pss_cons (ps_if (pw_and (pt_val (pv 5)) (pw_and1 (pt_not (pt_val (pv 4))))).pt (pss_one (ps_ret (pe_cst M.empty (by rfl)))) pss_nil) <|
      pss_cons (ps_if (pw_and (pt_val (pv 4)) (pw_and1 (pt_not (pt_val (pv 5))))).pt (pss_one (ps_ret (pe_cst M.full (by rfl)))) pss_nil) <|
      pss_one (ps_ret (pe_cst M.unsure (by rfl))), ?_⟩
    refine ⟨_, rfl, rf B.w ⟨_, rfl, rf B.h ⟨_, _, rfl, rfl, .inl (small_l (Nat.le_trans hw (by decide))), ?_⟩⟩⟩
    refine ⟨_, rfl, _, rfl, rf S.dust ⟨_, _, rfl, rfl, _, _, rfl, rfl, .inl ⟨by decide, by decide⟩, _, rfl, rf S.fill ⟨_, rfl, _, _, rfl, rfl, .inl (small_l hf), _, _, rfl, rfl, ?_⟩⟩⟩
    refine ⟨_, rfl, _, rfl, rf S.dust ⟨_, _, rfl, rfl, _, _, rfl, _, _, rfl, rfl, .inl ⟨by decide, by decide⟩, _, rfl, rf S.blank ⟨_, rfl, _, _, rfl, rfl, .inl (small_l hb), _, _, rfl, rfl, ?_⟩⟩⟩
    dsimp only
    generalize hfF : decide ((s.fill : Int) * ((b.w : Int) * (b.h : Int)) ≤ 1024 * ((n : Int) + (s.dust : Int))) = f
    generalize hbB : decide (1024 * (if (0 : Int) > (n : Int) - (s.dust : Int) then 0 else (n : Int) - (s.dust : Int)) ≤ (s.blank : Int) * ((b.w : Int) * (b.h : Int))) = bl
    rw [told_math s b n f bl hfF.symm hbB.symm] at k
    cases bl <;> cases f
    · exact ⟨_, rfl, _, rfl, _, rfl, _, rfl, k⟩
    · exact ⟨_, rfl, _, rfl, _, rfl, _, rfl, _, rfl, _, rfl, k⟩
    · exact ⟨_, rfl, _, rfl, _, rfl, _, rfl, k⟩
    · exact ⟨_, rfl, _, rfl, _, rfl, _, rfl, _, rfl, _, rfl, _, rfl, _, rfl, k⟩
end
end My
end
section
set_option Elab.async false
set_option linter.all false
set_option maxRecDepth 100000
set_option maxHeartbeats 2000000
namespace My
open PySem PySem.Spec PyProof.Rows L2
/-! ### dark and light -/
theorem count_zero {l : List Int} {v : Int} (h : ∀ y ∈ l, v < y) : l.countP (fun y => decide (y ≤ v)) = 0 := by
  rw [List.countP_eq_zero]
  intro y hy
  have := h y hy
  simp
  omega
theorem sorted_count : ∀ (l : List Int) (d : Nat) (x v : Int), l.Pairwise (· ≤ ·) → l[d]? = some x → (d + 1 ≤ l.countP (fun y => decide (y ≤ v)) ↔ x ≤ v)
  | [], d, x, v, _, h => by simp at h
  | a :: l, 0, x, v, hp, h => by
    have e : a = x := Option.some.inj h
    subst e
    obtain ⟨h1, h2⟩ := List.pairwise_cons.mp hp
    rw [List.countP_cons]
    by_cases hv : a ≤ v
    · rw [if_pos (decide_eq_true hv)]
      exact ⟨fun _ => hv, fun _ => by omega⟩
    · rw [if_neg (by simpa using hv), count_zero fun y hy => Int.lt_of_lt_of_le (by omega) (h1 y hy)]
      exact ⟨fun q => by omega, fun q => absurd q hv⟩
  | a :: l, d + 1, x, v, hp, h => by
    obtain ⟨h1, h2⟩ := List.pairwise_cons.mp hp
    have h' : l[d]? = some x := h
    have ih := sorted_count l d x v h2 h'
    rw [List.countP_cons]
    have hax := h1 x (List.mem_of_getElem? h')
    by_cases hv : a ≤ v
    · rw [if_pos (decide_eq_true hv)]
      omega
    · rw [if_neg (by simpa using hv), count_zero fun y hy => Int.lt_of_lt_of_le (by omega) (h1 y hy)]
      exact ⟨fun q => by omega, fun q => by omega⟩
def nP (ps : List Int) : List Nat := ps.map Int.toNat
structure Pic (s : Kp138.Sheet) (ps : List Int) : Prop where
  len : ps.length = s.width * s.height
  byte : ∀ x ∈ ps, 0 ≤ x ∧ x ≤ 255
theorem count_nat {ps : List Int} (h : ∀ x ∈ ps, 0 ≤ x ∧ x ≤ 255) (v : Nat) : (nP ps).countP (fun x => decide (x ≤ v)) = ps.countP (fun y => decide (y ≤ (v : Int))) := by
  unfold nP
  rw [List.countP_map]
  refine List.countP_congr fun x hx => ?_
  have := h x hx
  simp
theorem count_ge {ps : List Int} (h : ∀ x ∈ ps, 0 ≤ x ∧ x ≤ 255) (v : Nat) : (nP ps).countP (fun x => decide (v ≤ x)) + ps.countP (fun y => decide (y ≤ (v : Int) - 1)) = ps.length := by
  unfold nP
  rw [List.countP_map, List.length_eq_countP_add_countP (fun y => decide (y ≤ (v : Int) - 1)) (l := ps), Nat.add_comm]
  congr 1
  refine List.countP_congr fun x hx => ?_
  have := h x hx
  simp
  omega
theorem find_first (P : Nat → Bool) (k : Nat) : ∀ n, k < n → P k = true → (∀ j, j < k → P j = false) → (List.range n).find? P = some k := fun n hk hP hn => by
  rw [List.find?_range_eq_some]
  refine ⟨hP, List.mem_range.mpr hk, fun j hj => ?_⟩
  rw [hn j hj]
  rfl
theorem find_last (P : Nat → Bool) (k : Nat) : ∀ n, k < n → P k = true → (∀ j, k < j → j < n → P j = false) → (List.range n).reverse.find? P = some k
  | 0, hk, _, _ => absurd hk (Nat.not_lt_zero _)
  | n + 1, hk, hP, hn => by
    rw [List.range_succ, List.reverse_append, List.reverse_cons, List.reverse_nil, List.nil_append, List.singleton_append, List.find?_cons]
    by_cases e : k = n
    · subst e
      rw [hP]
    · rw [hn n (by omega) (by omega)]
      exact find_last P k n (by omega) hP fun j h1 h2 => hn j h1 (by omega)
theorem dark_math {s : Kp138.Sheet} {ps ns : List Int} {dk : Int} (hb : ∀ x ∈ ps, 0 ≤ x ∧ x ≤ 255) (hp : ns.Perm ps) (hs : ns.Pairwise (· ≤ ·)) (hd : ns[s.dust]? = some dk) : dk = (Kp138.dark s (nP ps) : Nat) := by
  have hdk := hb dk (hp.mem_iff.mp (List.mem_of_getElem? hd))
  have key : ∀ v : Nat, decide (s.dust + 1 ≤ Kp138.howMany (nP ps) fun x => decide (x ≤ v)) = decide (dk ≤ (v : Int)) := fun v => by
    unfold Kp138.howMany
    rw [count_nat hb v, ← hp.countP_eq]
    exact decide_eq_decide.mpr (sorted_count ns s.dust dk v hs hd)
  have e : Kp138.dark s (nP ps) = dk.toNat := by
    unfold Kp138.dark
    rw [show (fun v => decide (s.dust + 1 ≤ Kp138.howMany (nP ps) fun x => decide (x ≤ v))) = fun v : Nat => decide (dk ≤ (v : Int)) from funext key]
    rw [find_first _ dk.toNat 256 (by omega) (decide_eq_true (by omega)) fun j hj => decide_eq_false (by omega)]
    rfl
  omega
theorem light_math {s : Kp138.Sheet} {ps ns : List Int} {lt : Int} (hb : ∀ x ∈ ps, 0 ≤ x ∧ x ≤ 255) (hp : ns.Perm ps) (hs : ns.Pairwise (· ≤ ·)) (hdl : s.dust < ps.length) (hd : ns[ps.length - 1 - s.dust]? = some lt) : lt = (Kp138.light s (nP ps) : Nat) := by
  have hlt := hb lt (hp.mem_iff.mp (List.mem_of_getElem? hd))
  have key : ∀ v : Nat, decide (s.dust + 1 ≤ Kp138.howMany (nP ps) fun x => decide (v ≤ x)) = decide ((v : Int) ≤ lt) := fun v => by
    unfold Kp138.howMany
    have h1 := count_ge hb v
    have h2 := sorted_count ns (ps.length - 1 - s.dust) lt ((v : Int) - 1) hs hd
    rw [hp.countP_eq] at h2
    refine decide_eq_decide.mpr ?_
    omega
  have e : Kp138.light s (nP ps) = lt.toNat := by
    unfold Kp138.light
    rw [show (fun v => decide (s.dust + 1 ≤ Kp138.howMany (nP ps) fun x => decide (v ≤ x))) = fun v : Nat => decide ((v : Int) ≤ lt) from funext key]
    rw [find_last _ lt.toNat 256 (by omega) (decide_eq_true (by omega)) fun j h1 h2 => decide_eq_false (by omega)]
    rfl
  omega
/-! ### ink -/
theorem foldl_add : ∀ (l : List Nat) (a : Nat), l.foldl (· + ·) a = a + l.sum
  | [], a => by simp
  | x :: l, a => by
    rw [List.foldl_cons, foldl_add l, List.sum_cons]
    omega
theorem sum_cast : ∀ l : List Nat, ((l.sum : Nat) : Int) = (l.map fun (x : Nat) => (x : Int)).sum
  | [] => rfl
  | x :: l => by
    rw [List.sum_cons, List.map_cons, List.sum_cons, ← sum_cast l]
    omega
theorem row_math {ps : List Int} (hb : ∀ x ∈ ps, 0 ≤ x ∧ x ≤ 255) (t k : Nat) : ∀ w, k + w ≤ ps.length → (((inkL ps (t : Int)).drop k).take w).sum = (((List.range w).filter fun i => decide ((nP ps).getD (k + i) 0 ≤ t)).length : Nat)
  | 0, _ => rfl
  | w + 1, h => by
    have ih := row_math hb t k w (by omega)
    have hx : ps[k + w]? = some ps[k + w] := List.getElem?_eq_getElem (by omega)
    have hbx := hb ps[k + w] (List.getElem_mem _)
    have e1 : ((inkL ps (t : Int)).drop k)[w]? = some (if ps[k + w] ≤ (t : Int) then 1 else 0) := by
      unfold inkL
      rw [List.getElem?_drop, List.getElem?_map, hx]
      rfl
    have e2 : (nP ps).getD (k + w) 0 = ps[k + w].toNat := by
      unfold nP
      rw [List.getD_eq_getElem?_getD, List.getElem?_map, hx]
      rfl
    rw [take_snoc e1, sum_snocI, ih, List.range_succ, List.filter_append, List.length_append, List.filter_cons, List.filter_nil, e2]
    by_cases hle : ps[k + w] ≤ (t : Int)
    · rw [if_pos hle, if_pos (decide_eq_true (by omega))]
      rfl
    · rw [if_neg hle, if_neg (by simp; omega)]
      rfl
theorem ink_math {s : Kp138.Sheet} {ps : List Int} (pic : Pic s ps) (t x y w h : Nat) (hx : x + w ≤ s.width) (hy : y + h ≤ s.height) : inkSum s.width (inkL ps (t : Int)) x y w h = (Kp138.inked s (nP ps) t x y w h : Nat) := by
  unfold inkSum Kp138.inked
  rw [foldl_add, Nat.zero_add, sum_cast, List.map_map]
  congr 1
  refine List.map_congr_left fun j hj => ?_
  have hj := List.mem_range.mp hj
  have hlen : (y + j) * s.width + x + w ≤ ps.length := by
    rw [pic.len]
    have h1 : (y + j + 1) * s.width ≤ s.height * s.width := Nat.mul_le_mul_right _ (by omega)
    rw [Nat.add_mul, Nat.one_mul] at h1
    rw [Nat.mul_comm s.width s.height]
    omega
  show rowSum s.width (inkL ps (t : Int)) x w (y + j) = _
  unfold rowSum
  rw [row_math pic.byte t _ w hlen]
  show _ = (((List.range w).filter fun i => decide (Kp138.at_ s (nP ps) (x + i) (y + j) ≤ t)).length : Int)
  congr 2
  refine List.filter_congr fun i _ => ?_
  unfold Kp138.at_
  rw [Nat.add_assoc]
theorem sq_math {s : Kp138.Sheet} {bs : List Kp138.Box} {ps : List Int} (ok : Ok s bs) (pic : Pic s ps) (t : Nat) (d : Int × Int) (h1 : -(s.shift : Int) ≤ d.1) (h2 : d.1 ≤ s.shift) (h3 : -(s.shift : Int) ≤ d.2) (h4 : d.2 ≤ s.shift) : sqSum s (inkL ps (t : Int)) d.1 d.2 = (Kp138.score s (nP ps) t d : Nat) := by
  unfold sqSum Kp138.score
  rw [foldl_add, Nat.zero_add, sum_cast, List.map_map]
  congr 1
  refine List.map_congr_left fun A hA => ?_
  have hc := ok.cor A hA
  refine ink_math pic t _ _ _ _ ?_ ?_
  · unfold Kp138.moved
    omega
  · unfold Kp138.moved
    omega
/-! ### the best shift -/
def stepK (s : Kp138.Sheet) (p : List Nat) (t : Nat) (b d : Int × Int) : Int × Int := if Kp138.score s p t b < Kp138.score s p t d then d else b
theorem fold_best {s : Kp138.Sheet} {ink : List Int} {p : List Nat} {t : Nat} : ∀ (l : List (Int × Int)) (b : Int × Int), (∀ d ∈ l, sqSum s ink d.1 d.2 = (Kp138.score s p t d : Nat)) →
    l.foldl (stepB s ink) (b.1, b.2, (Kp138.score s p t b : Int)) = ((l.foldl (stepK s p t) b).1, (l.foldl (stepK s p t) b).2, (Kp138.score s p t (l.foldl (stepK s p t) b) : Int))
  | [], b, _ => rfl
  | d :: l, b, h => by
    rw [List.foldl_cons, List.foldl_cons]
    have hd := h d (List.mem_cons_self ..)
    have hl : ∀ d ∈ l, sqSum s ink d.1 d.2 = (Kp138.score s p t d : Nat) := fun x hx => h x (List.mem_cons_of_mem _ hx)
    by_cases hlt : Kp138.score s p t b < Kp138.score s p t d
    · have e1 : stepB s ink (b.1, b.2, (Kp138.score s p t b : Int)) d = (d.1, d.2, (Kp138.score s p t d : Int)) := by
        unfold stepB
        rw [if_pos (by rw [hd]; show ((Kp138.score s p t b : Nat) : Int) < _; omega), hd]
      have e2 : stepK s p t b d = d := by
        unfold stepK
        rw [if_pos hlt]
      rw [e1, e2]
      exact fold_best l d hl
    · have e1 : stepB s ink (b.1, b.2, (Kp138.score s p t b : Int)) d = (b.1, b.2, (Kp138.score s p t b : Int)) := by
        unfold stepB
        rw [if_neg (by rw [hd]; show ¬ ((Kp138.score s p t b : Nat) : Int) < _; omega)]
      have e2 : stepK s p t b d = b := by
        unfold stepK
        rw [if_neg hlt]
      rw [e1, e2]
      exact fold_best l b hl
theorem shifts_eq (s : Kp138.Sheet) : Kp138.shifts s = shiftsI s (2 * s.shift + 1) := by
  unfold Kp138.shifts shiftsI rowI
  congr 1
  funext j
  congr 1
  funext i
  refine Prod.ext ?_ ?_
  · show (i : Int) - s.shift = -(s.shift : Int) + i
    omega
  · show (j : Int) - s.shift = -(s.shift : Int) + j
    omega
theorem shifts_mem {s : Kp138.Sheet} {d : Int × Int} {n : Nat} (hn : n ≤ 2 * s.shift + 1) (h : d ∈ shiftsI s n) : -(s.shift : Int) ≤ d.1 ∧ d.1 ≤ s.shift ∧ -(s.shift : Int) ≤ d.2 ∧ d.2 ≤ s.shift := by
  unfold shiftsI rowI at h
  obtain ⟨j, hj, h⟩ := List.mem_flatMap.mp h
  obtain ⟨i, hi, h⟩ := List.mem_map.mp h
  have hj := List.mem_range.mp hj
  have hi := List.mem_range.mp hi
  subst h
  dsimp only
  omega
theorem shifts_head (s : Kp138.Sheet) : ∃ r, shiftsI s (2 * s.shift + 1) = (-(s.shift : Int), -(s.shift : Int)) :: r := by
  refine ⟨((List.range (2 * s.shift)).map Nat.succ).map (fun (i : Nat) => (-(s.shift : Int) + (i : Nat), -(s.shift : Int) + ((0 : Nat) : Int))) ++ ((List.range (2 * s.shift)).map Nat.succ).flatMap fun i => rowI s i (2 * s.shift + 1), ?_⟩
  unfold shiftsI
  rw [List.range_succ_eq_map, List.flatMap_cons]
  unfold rowI
  rw [List.range_succ_eq_map, List.map_cons]
  simp
theorem best_math {s : Kp138.Sheet} {bs : List Kp138.Box} {ps : List Int} (ok : Ok s bs) (pic : Pic s ps) (t : Nat) :
    bestF s (inkL ps (t : Int)) = ((Kp138.best s (nP ps) t).1, (Kp138.best s (nP ps) t).2, (Kp138.score s (nP ps) t (Kp138.best s (nP ps) t) : Int)) := by
  have hall : ∀ d ∈ shiftsI s (2 * s.shift + 1), sqSum s (inkL ps (t : Int)) d.1 d.2 = (Kp138.score s (nP ps) t d : Nat) := fun d hd => by
    obtain ⟨h1, h2, h3, h4⟩ := shifts_mem (Nat.le_refl _) hd
    exact sq_math ok pic t d h1 h2 h3 h4
  obtain ⟨r, er⟩ := shifts_head s
  have eb : Kp138.best s (nP ps) t = (Kp138.shifts s).foldl (stepK s (nP ps) t) (-(s.shift : Int), -(s.shift : Int)) := rfl
  rw [eb, shifts_eq]
  unfold bestF bestTo
  rw [er] at hall ⊢
  rw [List.foldl_cons, List.foldl_cons]
  have hd := hall _ (List.mem_cons_self ..)
  have e1 : stepB s (inkL ps (t : Int)) (0, 0, -1) (-(s.shift : Int), -(s.shift : Int)) = (-(s.shift : Int), -(s.shift : Int), (Kp138.score s (nP ps) t (-(s.shift : Int), -(s.shift : Int)) : Int)) := by
    unfold stepB
    rw [if_pos (by rw [hd]; show (-1 : Int) < _; omega), hd]
  have e2 : stepK s (nP ps) t (-(s.shift : Int), -(s.shift : Int)) (-(s.shift : Int), -(s.shift : Int)) = (-(s.shift : Int), -(s.shift : Int)) := by
    unfold stepK
    rw [if_neg (Nat.lt_irrefl _)]
  rw [e1, e2]
  exact fold_best r (-(s.shift : Int), -(s.shift : Int)) fun d hd => hall d (List.mem_cons_of_mem _ hd)
theorem best_in {s : Kp138.Sheet} {p : List Nat} {t : Nat} : -(s.shift : Int) ≤ (Kp138.best s p t).1 ∧ (Kp138.best s p t).1 ≤ s.shift ∧ -(s.shift : Int) ≤ (Kp138.best s p t).2 ∧ (Kp138.best s p t).2 ≤ s.shift := by
  have eb : Kp138.best s p t = (Kp138.shifts s).foldl (stepK s p t) (-(s.shift : Int), -(s.shift : Int)) := rfl
  rw [eb, shifts_eq]
  have key : ∀ (l : List (Int × Int)) (b : Int × Int), (∀ d ∈ b :: l, -(s.shift : Int) ≤ d.1 ∧ d.1 ≤ s.shift ∧ -(s.shift : Int) ≤ d.2 ∧ d.2 ≤ s.shift) → -(s.shift : Int) ≤ (l.foldl (stepK s p t) b).1 ∧ (l.foldl (stepK s p t) b).1 ≤ s.shift ∧ -(s.shift : Int) ≤ (l.foldl (stepK s p t) b).2 ∧ (l.foldl (stepK s p t) b).2 ≤ s.shift := by
    intro l
    induction l with
    | nil => exact fun b h => h b (List.mem_cons_self ..)
    | cons d l ih =>
      intro b h
      rw [List.foldl_cons]
      refine ih _ fun x hx => ?_
      rcases List.mem_cons.mp hx with e | e
      · rw [e]
        unfold stepK
        split
        · exact h d (List.mem_cons_of_mem _ (List.mem_cons_self ..))
        · exact h b (List.mem_cons_self ..)
      · exact h x (List.mem_cons_of_mem _ (List.mem_cons_of_mem _ e))
  refine key _ _ fun d hd => ?_
  rcases List.mem_cons.mp hd with e | e
  · rw [e]
    dsimp only
    omega
  · exact shifts_mem (Nat.le_refl _) e
end My
end
section
set_option Elab.async false
set_option linter.all false
set_option maxRecDepth 100000
set_option maxHeartbeats 4000000
namespace My
open PySem PySem.Spec PyProof.Rows L2
def nV (n : Nat) : V := .int (n : Int)
def spFind (K : PySem.W.Frag) : Sp := fun vs H Q _ => ∃ (a p : Addr) (s : Kp138.Sheet) (bs : List Kp138.Box) (ps : List Int), vs = [.ref a, .ref p] ∧ SheetAt K H a s bs ∧ SqL K H p (ps.map V.int) ∧ rightB s bs true ∧ Pic s ps ∧
  (Kp138.found s (nP ps) = .faint → ∀ H', Same H H' → Q (.int (-61)) H') ∧ (Kp138.found s (nP ps) = .none_ → ∀ H', Same H H' → Q (.int (-2)) H') ∧
  ∀ d t n, Kp138.found s (nP ps) = .here d t n → ∀ (H' : Hp) (q : Addr), Same H H' → H' q = some (.tup [.int d.1, .int d.2, nV t, nV n]) → Q (.ref q) H'
def spRead (K : PySem.W.Frag) : Sp := fun vs H Q _ => ∃ (a p : Addr) (s : Kp138.Sheet) (bs : List Kp138.Box) (ps : List Int), vs = [.ref a, .ref p] ∧ SheetAt K H a s bs ∧ SqL K H p (ps.map V.int) ∧ rightB s bs true ∧ Pic s ps ∧
  (Kp138.found s (nP ps) = .faint → ∀ H', Same H H' → Q (.int (-61)) H') ∧ (Kp138.found s (nP ps) = .none_ → ∀ H', Same H H' → Q (.int (-2)) H') ∧
  ∀ d t n, Kp138.found s (nP ps) = .here d t n → ∀ (H' : Hp) (l : Addr), Same H H' → H l = none → H' l = some (.lst ((bs.map (Kp138.boxTold s (nP ps) d t)).map nV)) → Q (.ref l) H'
theorem mv {x w s W : Nat} {d : Int} (h1 : s ≤ x) (h2 : x + w + s ≤ W) (h3 : -(s : Int) ≤ d) (h4 : d ≤ s) : (x : Int) + d = ((Kp138.moved x d : Nat) : Int) ∧ Kp138.moved x d + w ≤ W := by
  unfold Kp138.moved
  omega
theorem lt40 {n m W : Nat} (h : n + m ≤ W) (h2 : W ≤ 512) : n < 2 ^ 40 := by omega
theorem le_w {x w s W : Nat} (h : x + w + s ≤ W) (h2 : W ≤ 512) : w ≤ 512 := by omega
theorem lt_w {n : Nat} (h : n ≤ 512) : n < 2 ^ 40 := by omega
theorem boot_int0 : bootBuiltins "int" = some (.type "int") := by decide +kernel
section
variable {P : Program} {w : World} {K : PySem.W.Frag} {mg : Str → Option Value} {base : Heap}
theorem sc26 : FnScope ["sheet", "picture", "right", "ordered", "dark", "light", "edge", "best"] ["sheet", "picture"] (defScope (top 26)) := ⟨rfl, rfl, rfl, by decide +kernel, rfl, by decide +kernel, by decide +kernel⟩
theorem ok26 {f : Addr} {fd : FuncData} (F : Fun K "om_find" "om_find" (top 26) f fd) (M : Mg mg) (d15 : Def P w K mg base 4 "om_right" ["sheet"] (spRight K)) (d22 : Def P w K mg base 1 "ink_of" ["picture", "edge"] (spInk K))
    (d25 : Def P w K mg base 3 "best_shift" ["sheet", "ink"] (spBest K)) : FnOk P w K mg base CX0 5 f fd ["sheet", "picture"] (spFind K) := by
  refine F.ok sc26 (fun vs H Q E h => ?_) (fun cdv Ar outer sh H vs Q E hr h => ?_)
  · obtain ⟨a, p, s, bs, ps, rfl, _⟩ := h
    rfl
  · refine gen fun G' hG => ?_
    obtain ⟨a, p, s, bs, ps, rfl, S, hP, hR, pic, k1, k2, k3⟩ := h
    refine hG ?_
    refine ⟨_, pss_cons (ps_set (i := 2) sc26.nd rfl (Or.inl rfl) (pe_def d15 hr (by rfl) (pa_cons (pv 0) pa_nil))) <|
      pss_cons (ps_if (pt_cmpR op_lt (pv 2) pe_int (nomark _)) (pss_one (ps_ret (pv 2))) pss_nil) <|
      pss_cons (ps_set (i := 3) sc26.nd rfl (Or.inl rfl) (pe_callB (r := rSortedA K) cr_sortedA (by rfl) M.sorted PyProof.Rows.boot_sorted (pa_cons (pv 1) pa_nil))) <|
      pss_cons (ps_set (i := 4) sc26.nd rfl (Or.inl rfl) (pe_ix (r := rIxL K) ix_list (pv 3) (pe_fldK (K := K) rfl (pv 0) rfl) (fun _ _ => rfl))) <|
      pss_cons (ps_set (i := 5) sc26.nd rfl (Or.inl rfl) (pe_ix (r := rIxL K) ix_list (pv 3) (pe_op op_sub (pe_op op_sub (pe_callB (call_lenK (K := K) rfl) (by rfl) M.len PySem.boot_len (pa_cons (pv 3) pa_nil)) pe_int) (pe_fldK (K := K) rfl (pv 0) rfl)) (fun _ _ => rfl))) <|
      pss_cons (ps_if (pt_cmpR op_lt (pv 5) (pe_op op_add (pe_op op_add (pv 4) (pe_op op_mul pe_int (pe_fldK (K := K) rfl (pv 0) rfl))) pe_int) (nomark _)) (pss_one (ps_ret (pe_cst M.tooFaint (by rfl)))) pss_nil) <|
      pss_cons (ps_set (i := 6) sc26.nd rfl (Or.inl rfl) (pe_op op_fdiv (pe_op op_add (pv 5) (pv 4)) pe_int)) <|
      pss_cons (ps_set (i := 7) sc26.nd rfl (Or.inl rfl) (pe_def d25 hr (by rfl) (pa_cons (pv 0) (pa_cons (pe_def d22 hr (by rfl) (pa_cons (pv 1) (pa_cons (pv 6) pa_nil))) pa_nil)))) <|
      pss_cons (ps_if (pt_cmpR op_lt (pe_op op_add (pe_ix (r := rIxT K) ix_tup (pv 7) pe_int (fun _ _ => rfl)) (pe_fldK (K := K) rfl (pv 0) rfl)) (pe_op op_mul (pe_op op_mul pe_int (pe_fldK (K := K) rfl (pv 0) rfl)) (pe_fldK (K := K) rfl (pv 0) rfl)) (nomark _)) (pss_one (ps_ret (pe_cst M.notFound (by rfl)))) pss_nil) <|
      pss_one <| ps_ret <| pe_tup (pa_cons (pe_ix (r := rIxT K) ix_tup (pv 7) pe_int (fun _ _ => rfl)) (pa_cons (pe_ix (r := rIxT K) ix_tup (pv 7) pe_int (fun _ _ => rfl)) (pa_cons (pv 6) (pa_cons (pe_ix (r := rIxT K) ix_tup (pv 7) pe_int (fun _ _ => rfl)) pa_nil)))), ?_⟩
    have ok := ok_of hR
    have hwh : 16 * 16 ≤ s.width * s.height := Nat.mul_le_mul ok.w1 ok.h1
    have hwh2 : s.width * s.height ≤ 512 * 512 := Nat.mul_le_mul ok.w2 ok.h2
    have hlen := pic.len
    have hdu := ok.du
    have hs2 := ok.s2
    refine sg fun Ra hRa => ⟨_, rfl, a, s, bs, rfl, S, fun H1 b s1 hb => hRa _ _ ?_⟩
    have eb : b = true := hb.mpr (hR.mp rfl)
    subst eb
    refine sg fun Rb hRb => ⟨_, rfl, _, _, rfl, rfl, _, rfl, hRb _ _ ?_⟩
    refine sg fun Rc hRc => ⟨_, rfl, p, ps, rfl, s1.seq hP, fun ns q hperm hsort hq => hRc _ _ ?_⟩
    have hnl := hperm.length_eq
    have s2 : Same H (upd H1 q (.lst (ns.map V.int))) := s1.put hq
    have S2 := S.mono s2
    generalize hH2 : upd H1 q (.lst (ns.map V.int)) = H2 at s2 S2
    have hq2 : H2 q = some (.lst (ns.map V.int)) := by rw [← hH2, upd_same]
    have hdk : ns[s.dust]? = some ns[s.dust] := List.getElem?_eq_getElem (by omega)
    have hlt : ns[ps.length - 1 - s.dust]? = some ns[ps.length - 1 - s.dust] := List.getElem?_eq_getElem (by omega)
    have edk := dark_math (s := s) pic.byte hperm hsort hdk
    have elt := light_math (s := s) pic.byte hperm hsort (by omega) hlt
    refine sg fun Rd hRd => ⟨_, rfl, _, rfl, rf S2.dust ⟨q, _, _, _, rfl, rfl, SqL.of hq2, at_of (j := s.dust) (v := .int (Kp138.dark s (nP ps) : Nat)) rfl (by rw [List.getElem?_map, hdk, edk]; rfl), hRd _ _ ?_⟩⟩
    refine sg fun Re hRe => ⟨_, rfl, _, rfl, q, _, rfl, .inl (SqL.of hq2), _, _, rfl, rfl, _, rfl, rf S2.dust ⟨_, _, rfl, rfl, q, _, _, _, rfl, rfl, SqL.of hq2, at_of (j := ps.length - 1 - s.dust) (v := .int (Kp138.light s (nP ps) : Nat)) (by rw [List.length_map]; omega) (by rw [List.getElem?_map, hlt, elt]; rfl), hRe _ _ ?_⟩⟩
    refine sg fun Rf hRf => ⟨_, rfl, _, rfl, _, rfl, rf S2.noise ⟨_, _, rfl, rfl, .inl ⟨by decide, by decide⟩, _, _, rfl, rfl, _, _, rfl, rfl, _, _, rfl, rfl, _, rfl, rite (fun hf => ?_) (fun hf => hRf _ _ ?_)⟩⟩
    · have hf := of_decide_eq_true hf
      refine k1 ?_ H2 s2
      unfold Kp138.found Kp138.plain
      rw [if_pos (decide_eq_false (by omega))]
    · have hf := of_decide_eq_false hf
      have hpl : ¬ Kp138.plain s (nP ps) = false := by
        unfold Kp138.plain
        rw [decide_eq_true (by omega)]
        exact fun z => Bool.noConfusion z
      have ee : ((Kp138.light s (nP ps) : Nat) + (Kp138.dark s (nP ps) : Nat) : Int) / 2 = ((Kp138.edge s (nP ps) : Nat) : Int) := by
        unfold Kp138.edge
        omega
      refine sg fun Rg hRg => ⟨_, rfl, _, rfl, _, _, rfl, rfl, _, _, rfl, rfl, ⟨by decide, by decide⟩, hRg _ _ ?_⟩
      dsimp only
      rw [ee]
      refine sg fun Rh hRh => ⟨_, rfl, _, rfl, _, rfl, p, ps, _, rfl, s2.seq hP, by rw [sizeLine_eq]; omega, fun H3 i s3 hi => ?_⟩
      have s23 := s2.trans s3
      refine ⟨a, i, s, bs, _, rfl, S.mono s23, SqL.of hi, ok, fun H4 bp s4 hbp => hRh _ _ ?_⟩
      rw [best_math ok pic] at hbp
      have s24 := s23.trans s4
      have S4 := S.mono s24
      generalize hD : Kp138.best s (nP ps) (Kp138.edge s (nP ps)) = D at hbp
      have hfound : Kp138.found s (nP ps) = if Kp138.score s (nP ps) (Kp138.edge s (nP ps)) D + s.dust < 4 * s.side * s.side then .none_ else .here D (Kp138.edge s (nP ps)) (Kp138.score s (nP ps) (Kp138.edge s (nP ps)) D) := by
        unfold Kp138.found
        rw [if_neg hpl]
        dsimp only
        rw [hD]
      have e4 : 4 * (s.side : Int) * (s.side : Int) = ((4 * s.side * s.side : Nat) : Int) := by push_cast; rfl
      refine sg fun Ri hRi => ⟨_, rfl, bp, _, _, _, rfl, rfl, SqT.of hbp, atI_nat (j := 2) rfl, _, rfl, rf S4.dust ⟨_, _, rfl, rfl, _, rfl, rf S4.side ⟨_, _, rfl, rfl, .inl ⟨by decide, by decide⟩, _, rfl, rf S4.side ⟨_, _, rfl, rfl, .inl ⟨by omega, by omega⟩, _, _, rfl, rfl, _, rfl, rite (fun hn => ?_) (fun hn => hRi _ _ ?_)⟩⟩⟩⟩
      · have hn := of_decide_eq_true hn
        rw [e4] at hn
        refine k2 ?_ H4 s24
        rw [hfound, if_pos (by dsimp only at hn; omega)]
      · have hn := of_decide_eq_false hn
        rw [e4] at hn
        refine ⟨_, rfl, bp, _, _, _, rfl, rfl, SqT.of hbp, atI_nat (j := 0) rfl, _, rfl, bp, _, _, _, rfl, rfl, SqT.of hbp, atI_nat (j := 1) rfl, _, rfl, _, rfl, bp, _, _, _, rfl, rfl, SqT.of hbp, atI_nat (j := 2) rfl, by show 4 ≤ sizeLine; decide, fun r hr' => ?_⟩
        exact k3 D _ _ (by rw [hfound, if_neg (by dsimp only at hn; omega)]) _ r (s24.put hr') upd_same
theorem sc28 : FnScope ["sheet", "picture", "found", "ink", "told", "box", "has"] ["sheet", "picture"] (defScope (top 28)) := ⟨rfl, rfl, rfl, by decide +kernel, rfl, by decide +kernel, by decide +kernel⟩
theorem ok28 {f : Addr} {fd : FuncData} (F : Fun K "om_read" "om_read" (top 28) f fd) (M : Mg mg) (d26 : Def P w K mg base 5 "om_find" ["sheet", "picture"] (spFind K)) (d22 : Def P w K mg base 1 "ink_of" ["picture", "edge"] (spInk K))
    (d23 : Def P w K mg base 1 "ink_within" ["sheet", "ink", "x", "y", "w", "h"] (spInkIn K)) (d27 : Def P w K mg base 1 "told_of" ["sheet", "box", "has"] (spTold K)) : FnOk P w K mg base CX0 6 f fd ["sheet", "picture"] (spRead K) := by
  refine F.ok sc28 (fun vs H Q E h => ?_) (fun cdv Ar outer sh H vs Q E hr h => ?_)
  · obtain ⟨a, p, s, bs, ps, rfl, _⟩ := h
    rfl
  · refine gen fun G' hG => ?_
    obtain ⟨a, p, s, bs, ps, rfl, S, hP, hR, pic, k1, k2, k3⟩ := h
    refine hG ?_
    refine ⟨_, pss_cons (ps_set (i := 2) sc28.nd rfl (Or.inl rfl) (pe_def d26 hr (by rfl) (pa_cons (pv 0) (pa_cons (pv 1) pa_nil)))) <|
      pss_cons (ps_if (pt_val (pe_callB (r := rIsInt K) cr_isInt (by rfl) M.isinstance PyProof.Rows.boot_isinstance (pa_cons (pv 2) (pa_cons (pe_bltn (v := .ty "int") (by rfl) M.int boot_int0 rfl) pa_nil)))) (pss_one (ps_ret (pv 2))) pss_nil) <|
      pss_cons (ps_set (i := 3) sc28.nd rfl (Or.inl rfl) (pe_def d22 hr (by rfl) (pa_cons (pv 1) (pa_cons (pe_ix (r := rIxT K) ix_tup (pv 2) pe_int (fun _ _ => rfl)) pa_nil)))) <|
      pss_cons (ps_set (i := 4) sc28.nd rfl (Or.inl rfl) (pe_lst pa_nil)) <|
      pss_cons (ps_for PassesOwn.never rfl (pi_listK (K := K) rfl (pe_fldK (K := K) rfl (pv 0) rfl)) (pg_name (i := 5) sc28.nd rfl (Or.inl rfl)) <|
        pss_cons (ps_set (i := 6) sc28.nd rfl (Or.inl rfl) (pe_def d23 hr (by rfl) (pa_cons (pv 0) (pa_cons (pv 3) (pa_cons (pe_op op_add (pe_fldK (K := K) rfl (pv 5) rfl) (pe_ix (r := rIxT K) ix_tup (pv 2) pe_int (fun _ _ => rfl))) (pa_cons (pe_op op_add (pe_fldK (K := K) rfl (pv 5) rfl) (pe_ix (r := rIxT K) ix_tup (pv 2) pe_int (fun _ _ => rfl))) (pa_cons (pe_fldK (K := K) rfl (pv 5) rfl) (pa_cons (pe_fldK (K := K) rfl (pv 5) rfl) pa_nil)))))))) <|
        pss_one <| ps_expr <| pe_bmK (K := K) rfl PySem.F.plainAttrs_list PySem.F.slot_list_append PySem.F.type_list_append mt_append (pv 4) (pa_cons (pe_def d27 hr (by rfl) (pa_cons (pv 0) (pa_cons (pv 5) (pa_cons (pv 6) pa_nil)))) pa_nil)) <|
      pss_one <| ps_ret (pv 4), ?_⟩
    have ok := ok_of hR
    refine sg fun Ra hRa => ⟨_, rfl, _, rfl, a, p, s, bs, ps, rfl, S, hP, hR, pic, fun ef H1 s1 => hRa _ _ ?_, fun ef H1 s1 => hRa _ _ ?_, fun d t n ef H1 q s1 hq => hRa _ _ ?_⟩
    · exact sg fun Rc hRc => ⟨_, rfl, .inl ⟨_, rfl, _, rfl, _, rfl, k1 ef H1 s1⟩⟩
    · exact sg fun Rc hRc => ⟨_, rfl, .inl ⟨_, rfl, _, rfl, _, rfl, k2 ef H1 s1⟩⟩
    · refine sg fun Rb hRb => ⟨_, rfl, .inr (.inr ⟨q, _, rfl, hq, _, rfl, hRb _ _ ?_⟩)⟩
      have hwh2 : s.width * s.height ≤ 512 * 512 := Nat.mul_le_mul ok.w2 ok.h2
      have hlen := pic.len
      have ed : d = Kp138.best s (nP ps) t := by
        unfold Kp138.found at ef
        split at ef
        · cases ef
        · dsimp only at ef
          split at ef
          · cases ef
          · injection ef with e1 e2 e3
            rw [← e1, ← e2]
      have hd := best_in (s := s) (p := nP ps) (t := t)
      rw [← ed] at hd
      refine sg fun Rc hRc => ⟨_, rfl, _, rfl, q, _, _, _, rfl, rfl, SqT.of hq, atI_nat (j := 2) rfl, p, ps, _, rfl, s1.seq hP, by rw [sizeLine_eq]; omega, fun H2 i s2 hi => hRc _ _ ?_⟩
      have s12 := s1.trans s2
      have S2 := S.mono s12
      have hq2 := s2 _ _ hq
      refine sg fun Rd hRd => ⟨by show 0 ≤ sizeLine; decide, fun l hl => hRd _ _ ?_⟩
      have s3 : Same H2 (upd H2 l (.lst [])) := (Same.refl H2).put hl
      refine gen fun G' hG => ?_
      obtain ⟨lb, bx, b1, b2, b3⟩ := S2.boxes
      refine hG ?_
      refine sg fun Re hRe => ⟨_, rfl, rf (b1.mono s3) ⟨lb, rfl, ⟨_, SqL.of (s3 _ _ b2)⟩, ?_⟩⟩
      refine for_listN (K := K) (a := lb) (xs := bx.map V.ref) (fun j σ H' => Same H2 H' ∧ (∃ v5 v6 : Option V, σ = [some (.ref a), some (.ref p), some (.ref q), some (.ref i), some (.ref l), v5, v6]) ∧ H' l = some (.lst (((bs.take j).map (Kp138.boxTold s (nP ps) d t)).map nV))) ?_ ?_ ?_ ?_
      · exact ⟨s3, ⟨none, none, rfl⟩, upd_same⟩
      · intro j σ H3 _ hp4
        refine gen fun G' hG => ?_
        obtain ⟨s4, _, _⟩ := hp4
        refine hG ?_
        exact SqL.of (s4 _ _ b2)
      · intro j x σ H3 Nn hNn hx hp5
        refine gen fun G' hG => ?_
        obtain ⟨s4, ⟨v5, v6, rfl⟩, hl3⟩ := hp5
        refine hG ?_
        refine gen fun G' hG => ?_
        obtain ⟨bo, hbo, rfl⟩ := refs_at hx
        obtain ⟨b, hb, B⟩ := b3.at hbo
        refine hG ?_
        have B3 := B.mono s4
        have S3 := S2.mono s4
        have hq3 := s4 _ _ hq2
        have hbk := ok.box b (List.mem_of_getElem? hb)
        have hw2 := ok.w2
        have hh2 := ok.h2
        have mx := mv hbk.2.2.1 hbk.2.2.2.2.1 hd.1 hd.2.1
        have my := mv hbk.2.2.2.1 hbk.2.2.2.2.2.1 hd.2.2.1 hd.2.2.2
        have bw := le_w hbk.2.2.2.2.1 hw2
        have bh := le_w hbk.2.2.2.2.2.1 hh2
        refine sg fun Rx hRx => ⟨_, rfl, _, rfl, _, rfl, rf B3.x ⟨_, rfl, q, _, _, _, rfl, rfl, SqT.of hq3, atI_nat (j := 0) rfl, _, _, rfl, rfl, _, rfl, rf B3.y ⟨_, rfl, q, _, _, _, rfl, rfl, SqT.of hq3, atI_nat (j := 1) rfl, _, _, rfl, rfl, _, rfl, rf B3.w ⟨_, rfl, rf B3.h ?_⟩⟩⟩⟩
        refine ⟨a, i, s, bs, inkL ps t, Kp138.moved b.x d.1, Kp138.moved b.y d.2, b.w, b.h, by rw [← mx.1, ← my.1]; rfl, S3, SqL.of (s4 _ _ hi), lt40 my.2 hh2, lt_w bh, fun H4 s5 => hRx _ _ ?_⟩
        rw [ink_math pic t _ _ _ _ mx.2 my.2]
        have hl4 := s5 _ _ hl3
        refine ⟨_, rfl, .inl ⟨rfl, _, SqL.of hl4⟩, _, rfl, _, rfl, _, rfl, a, bo, s, bs, b, _, rfl, S3.mono s5, B3.mono s5, ok.fi, Nat.le_trans (Nat.le_of_lt ok.bl) ok.fi, bw, bh, ?_⟩
        refine ⟨l, _, _, rfl, rfl, hl4, ?_, hNn _ _ ⟨fun b' o e => ?_, ⟨_, _, rfl⟩, ?_⟩⟩
        · have := ok.b2
          rw [List.length_map, List.length_map, List.length_take, sizeLine_eq]
          omega
        · rw [upd_ne (ne_of_none e hl)]
          exact s5 _ _ (s4 _ _ e)
        · rw [upd_same, take_snoc hb, List.map_append, List.map_append]
          rfl
      · intro σ H3 hp2
        refine gen fun G' hG => ?_
        obtain ⟨s4, ⟨v5, v6, rfl⟩, hl3⟩ := hp2
        refine hG ?_
        rw [List.length_map, b3.1, List.take_length] at hl3
        exact hRe _ _ ⟨_, rfl, k3 d t n ef H3 l (s12.trans s4) (s12.free hl) hl3⟩
end
end My
end
section
set_option Elab.async false
set_option linter.all false
set_option maxRecDepth 100000
set_option maxHeartbeats 4000000
namespace My
open PySem PySem.Spec PyProof.Rows L2
/-- what is told of a field's boxes, in order -/
def rowL (bs : List Kp138.Box) (ts : List Nat) (f : Nat) : List Nat := ((bs.zip ts).filter fun q => q.1.field == f).map (·.2)
def cnt1 (rs : List Nat) : Nat := rs.countP fun r => r == 1
def any2 (rs : List Nat) : Bool := rs.any fun r => r == 2
def fieldR (rs : List Nat) : Nat := if 2 ≤ cnt1 rs then 254 else if any2 rs = true then 255 else if cnt1 rs = 1 then rs.findIdx (fun r => r == 1) else 253
def sureB (t : Nat) (rs : List Nat) : Bool := decide (nV t = .int 1) && (decide (nV (cnt1 rs) = .int 1) && !any2 rs)
def perhapsB (t : Nat) (rs : List Nat) : Bool := decide (nV (fieldR rs) = .int 255) && (!decide (nV t = .int 0) && decide (V.int (if t = 1 then (cnt1 rs : Int) - 1 else cnt1 rs) = .int 0))
theorem count_nV (rs : List Nat) (n : Nat) : ((rs.map nV).countP fun z => eqV z (.int (n : Int))) = rs.countP fun r => r == n := by
  rw [List.countP_map]
  refine List.countP_congr fun x _ => ?_
  show ((x : Int) == (n : Int)) = true ↔ (x == n) = true
  simp
  omega
theorem any_nV (rs : List Nat) (n : Nat) : inV (.int (n : Int)) (rs.map nV) = rs.any fun r => r == n := by
  unfold inV
  rw [List.any_map]
  congr 1
  funext x
  show ((x : Int) == (n : Int)) = (x == n)
  rw [Bool.eq_iff_iff]
  simp
  omega
theorem flat_nV : ∀ ns : List Nat, (ns.map nV).all flatV = true
  | [] => rfl
  | n :: r => by
    rw [List.map_cons, List.all_cons, flat_nV r]
    rfl
def spField (K : PySem.W.Frag) : Sp := fun vs H Q _ => ∃ (a : Addr) (rs : List Nat), vs = [.ref a] ∧ SqL K H a (rs.map nV) ∧ Q (nV (fieldR rs)) H
def spSure (K : PySem.W.Frag) : Sp := fun vs H Q _ => ∃ (t : Nat) (a : Addr) (rs : List Nat), vs = [nV t, .ref a] ∧ SqL K H a (rs.map nV) ∧ Q (.bl (sureB t rs)) H
def spPerhaps (K : PySem.W.Frag) : Sp := fun vs H Q _ => ∃ (t : Nat) (a : Addr) (rs : List Nat), vs = [nV t, .ref a] ∧ SqL K H a (rs.map nV) ∧ Q (.bl (perhapsB t rs)) H
def spByField (K : PySem.W.Frag) : Sp := fun vs H Q _ => ∃ (a l : Addr) (s : Kp138.Sheet) (bs : List Kp138.Box) (ts : List Nat), vs = [.ref a, .ref l] ∧ SheetAt K H a s bs ∧ H l = some (.lst (ts.map nV)) ∧ ts.length = bs.length ∧ (∀ b ∈ bs, b.field < 64) ∧ bs.length ≤ 256 ∧
  ∀ (H' : Hp) (r : Addr) (as : List Addr), Same H H' → H r = none → H' r = some (.lst (as.map V.ref)) → as.length = 64 → (∀ c ∈ as, H c = none) → (∀ (f : Nat) (c : Addr), as[f]? = some c → H' c = some (.lst ((rowL bs ts f).map nV))) → Q (.ref r) H'
theorem blk36 : BlkOk ["sheet", "told", "rows", "field", "box", "reading"] (defScope (top 36)) (lcSc (valOf (st (top 36) 0))) [("field", 3)] := ⟨rfl, by decide +kernel, by decide +kernel, by decide +kernel, by decide +kernel⟩
theorem idx_at : ∀ (rs : List Nat), cnt1 rs = 1 → ∃ j, j = rs.findIdx (fun r => r == 1) ∧ rs[j]? = some 1 ∧ ∀ (m : Nat) (z : Nat), m < j → rs[m]? = some z → (z == 1) = false := by
  intro rs h
  have hex : ∃ x ∈ rs, (x == 1) = true := by
    unfold cnt1 at h
    have : 0 < rs.countP fun r => r == 1 := by omega
    exact List.countP_pos_iff.mp this
  have hlt : rs.findIdx (fun r => r == 1) < rs.length := List.findIdx_lt_length_of_exists hex
  refine ⟨_, rfl, ?_, fun m z hm hz => ?_⟩
  · have q := List.findIdx_getElem (xs := rs) (p := fun r => r == 1) (w := hlt)
    rw [List.getElem?_eq_getElem hlt]
    have q' : (rs[rs.findIdx (fun r => r == 1)] == 1) = true := q
    rw [beq_iff_eq.mp q']
  · have q := List.not_of_lt_findIdx hm
    have hml : m < rs.length := by omega
    rw [List.getElem?_eq_getElem hml] at hz
    have e := Option.some.inj hz
    rw [← e]
    simpa using q
section
variable {P : Program} {w : World} {K : PySem.W.Frag} {mg : Str → Option Value} {base : Heap}
theorem sc37 : FnScope ["row", "full"] ["row"] (defScope (top 37)) := ⟨rfl, rfl, rfl, by decide +kernel, rfl, by decide +kernel, by decide +kernel⟩
theorem ok37 {f : Addr} {fd : FuncData} (F : Fun K "told_of_field" "told_of_field" (top 37) f fd) (M : Mg mg) : FnOk P w K mg base CX0 1 f fd ["row"] (spField K) := by
  refine F.ok sc37 (fun vs H Q E h => ?_) (fun cdv Ar outer sh H vs Q E hr h => ?_)
  · obtain ⟨a, rs, rfl, _⟩ := h
    rfl
  · refine gen fun G' hG => ?_
    obtain ⟨a, rs, rfl, hR, k⟩ := h
    refine hG ?_
    refine ⟨_, pss_cons (ps_set (i := 1) sc37.nd rfl (Or.inl rfl) (pe_bmK (K := K) rfl PySem.F.plainAttrs_list PySem.F.slot_list_count PySem.F.type_list_count (r := rCount K) mt_countL (pv 0) (pa_cons (pe_cst M.full (by rfl)) pa_nil))) <|
      pss_cons (ps_if (pt_cmpR op_ge (pv 1) pe_int (nomark _)) (pss_one (ps_ret (pe_cst M.several (by rfl)))) pss_nil) <|
      pss_cons (ps_if (pt_cmpR (r := rIn K false) op_in_seq (pe_cst M.unsure (by rfl)) (pv 0) (by rfl)) (pss_one (ps_ret (pe_cst M.funsure (by rfl)))) pss_nil) <|
      pss_cons (ps_if (pt_cmpR op_eq (pv 1) pe_int (nomark _)) (pss_one (ps_ret (pe_bmK (K := K) rfl PySem.F.plainAttrs_list PySem.F.slot_list_index PySem.F.type_list_index (r := rIndex K) mt_index (pv 0) (pa_cons (pe_cst M.full (by rfl)) pa_nil)))) pss_nil) <|
      pss_one <| ps_ret (pe_cst M.fnone (by rfl)), ?_⟩
    refine ⟨_, rfl, .inl ⟨rfl, _, hR⟩, a, _, _, rfl, rfl, hR, rfl, flat_nV _, ?_⟩
    have e1 : ((rs.map nV).countP fun z => eqV z (.int 1)) = cnt1 rs := count_nV rs 1
    rw [e1]
    unfold fieldR at k
    refine ⟨_, rfl, _, _, rfl, rfl, _, rfl, rite (fun h2 => ?_) (fun h2 => ?_)⟩
    · have h2 := of_decide_eq_true h2
      rw [if_pos (by omega)] at k
      exact k
    · have h2 := of_decide_eq_false h2
      rw [if_neg (by omega)] at k
      have e2 : inV (.int 2) (rs.map nV) = any2 rs := any_nV rs 2
      refine ⟨_, rfl, a, _, rfl, .inl hR, rfl, flat_nV _, _, rfl, ?_⟩
      show if inV (.int 2) (rs.map nV) = true then _ else _
      rw [e2]
      refine rite (fun h3 => ?_) (fun h3 => ?_)
      · rw [if_pos h3] at k
        exact k
      · rw [if_neg (by rw [h3]; exact Bool.false_ne_true)] at k
        refine ⟨_, rfl, rfl, _, rfl, rite (fun h4 => ?_) (fun h4 => ?_)⟩
        · have h4 := of_decide_eq_true h4
          injection h4 with h4
          have h5 : cnt1 rs = 1 := by omega
          rw [if_pos h5] at k
          refine gen fun G' hG => ?_
          obtain ⟨j, ej, hj, hm⟩ := idx_at rs h5
          refine hG ?_
          rw [← ej] at k
          refine ⟨_, rfl, .inl ⟨rfl, _, hR⟩, a, _, _, j, nV 1, rfl, rfl, hR, rfl, flat_nV _, by rw [List.getElem?_map, hj]; rfl, rfl, fun m z' hm' hz => ?_, k⟩
          rw [List.getElem?_map] at hz
          refine gen fun G' hG => ?_
          obtain ⟨z, hz1, hz2⟩ := Option.map_eq_some_iff.mp hz
          refine hG ?_
          rw [← hz2]
          have q := hm m z hm' hz1
          show ((z : Int) == 1) = false
          simp at q ⊢
          omega
        · have h4 := of_decide_eq_false h4
          rw [if_neg (fun e => h4 (by rw [e]; rfl))] at k
          exact k
theorem sc38 : FnScope ["reading", "row"] ["reading", "row"] (defScope (top 38)) := ⟨rfl, rfl, rfl, by decide +kernel, rfl, by decide +kernel, by decide +kernel⟩
theorem ok38 {f : Addr} {fd : FuncData} (F : Fun K "is_sure" "is_sure" (top 38) f fd) (M : Mg mg) : FnOk P w K mg base CX0 1 f fd ["reading", "row"] (spSure K) := by
  refine F.ok sc38 (fun vs H Q E h => ?_) (fun cdv Ar outer sh H vs Q E hr h => ?_)
  · obtain ⟨t, a, rs, rfl, _⟩ := h
    rfl
  · refine gen fun G' hG => ?_
    obtain ⟨t, a, rs, rfl, hR, k⟩ := h
    refine hG ?_
    refine ⟨_, pss_one <| ps_ret <| pe_and (pe_cmpR op_eq (pv 0) (pe_cst M.full (by rfl)) (nomark _)) <|
      pe_and (pe_cmpR op_eq (pe_bmK (K := K) rfl PySem.F.plainAttrs_list PySem.F.slot_list_count PySem.F.type_list_count (r := rCount K) mt_countL (pv 1) (pa_cons (pe_cst M.full (by rfl)) pa_nil)) pe_int (nomark _)) <|
      pe_one (pe_cmpR (r := rIn K true) op_notIn_seq (pe_cst M.unsure (by rfl)) (pv 1) (by rfl)), ?_⟩
    have e1 : ((rs.map nV).countP fun z => eqV z (.int 1)) = cnt1 rs := count_nV rs 1
    have e2 : inV (.int 2) (rs.map nV) = any2 rs := any_nV rs 2
    unfold sureB at k
    refine ⟨_, rfl, rfl, rband k fun k => ?_⟩
    refine ⟨_, rfl, .inl ⟨rfl, _, hR⟩, a, _, _, rfl, rfl, hR, rfl, flat_nV _, rfl, ?_⟩
    rw [e1]
    refine rband k fun k => ?_
    refine ⟨_, rfl, a, _, rfl, .inl hR, rfl, flat_nV _, ?_⟩
    show Q (.bl (!inV (.int 2) (rs.map nV))) H
    rw [e2]
    exact k
theorem sc39 : FnScope ["reading", "row", "others"] ["reading", "row"] (defScope (top 39)) := ⟨rfl, rfl, rfl, by decide +kernel, rfl, by decide +kernel, by decide +kernel⟩
theorem ok39 {f : Addr} {fd : FuncData} (F : Fun K "is_perhaps" "is_perhaps" (top 39) f fd) (M : Mg mg) (d37 : Def P w K mg base 1 "told_of_field" ["row"] (spField K)) : FnOk P w K mg base CX0 2 f fd ["reading", "row"] (spPerhaps K) := by
  refine F.ok sc39 (fun vs H Q E h => ?_) (fun cdv Ar outer sh H vs Q E hr h => ?_)
  · obtain ⟨t, a, rs, rfl, _⟩ := h
    rfl
  · refine gen fun G' hG => ?_
    obtain ⟨t, a, rs, rfl, hR, k⟩ := h
    refine hG ?_
    refine ⟨_, pss_cons (ps_set (i := 2) sc39.nd rfl (Or.inl rfl) (pe_bmK (K := K) rfl PySem.F.plainAttrs_list PySem.F.slot_list_count PySem.F.type_list_count (r := rCount K) mt_countL (pv 1) (pa_cons (pe_cst M.full (by rfl)) pa_nil))) <|
      pss_cons (ps_if (pt_cmpR op_eq (pv 0) (pe_cst M.full (by rfl)) (nomark _)) (pss_one (ps_aug (i := 2) sc39.nd rfl (Or.inl rfl) pe_int ip_sub)) pss_nil) <|
      pss_one <| ps_ret <| pe_and (pe_cmpR op_eq (pe_def d37 hr (by rfl) (pa_cons (pv 1) pa_nil)) (pe_cst M.funsure (by rfl)) (nomark _)) <|
      pe_and (pe_cmpR op_ne (pv 0) (pe_cst M.empty (by rfl)) (nomark _)) <| pe_one (pe_cmpR op_eq (pv 2) pe_int (nomark _)), ?_⟩
    have e1 : ((rs.map nV).countP fun z => eqV z (.int 1)) = cnt1 rs := count_nV rs 1
    unfold perhapsB at k
    refine ⟨_, rfl, .inl ⟨rfl, _, hR⟩, a, _, _, rfl, rfl, hR, rfl, flat_nV _, ?_⟩
    rw [e1]
    refine ⟨_, rfl, rfl, _, rfl, rite (fun h1 => ?_) (fun h1 => ?_)⟩
    · have h1 := of_decide_eq_true h1
      injection h1 with h1
      rw [if_pos (by omega)] at k
      exact ⟨_, rfl, _, _, rfl, rfl, _, rfl, a, rs, rfl, hR, rfl, rband k fun k => ⟨_, rfl, rfl, rband k fun k => ⟨_, rfl, rfl, k⟩⟩⟩
    · have h1 := of_decide_eq_false h1
      rw [if_neg (fun e => h1 (by rw [e]; rfl))] at k
      exact ⟨_, rfl, a, rs, rfl, hR, rfl, rband k fun k => ⟨_, rfl, rfl, rband k fun k => ⟨_, rfl, rfl, k⟩⟩⟩
end
end My
end
section
set_option Elab.async false
set_option linter.all false
set_option maxRecDepth 100000
set_option maxHeartbeats 4000000
namespace My
open PySem PySem.Spec PyProof.Rows L2
theorem rowL_snoc {bs : List Kp138.Box} {ts : List Nat} {j : Nat} {b : Kp138.Box} {t : Nat} (hb : bs[j]? = some b) (ht : ts[j]? = some t) (f : Nat) :
    rowL (bs.take (j + 1)) (ts.take (j + 1)) f = rowL (bs.take j) (ts.take j) f ++ if b.field = f then [t] else [] := by
  have hbl := (List.getElem?_eq_some_iff.mp hb).1
  have htl := (List.getElem?_eq_some_iff.mp ht).1
  unfold rowL
  rw [take_snoc hb, take_snoc ht, List.zip_append (by rw [List.length_take, List.length_take]; omega), List.filter_append, List.map_append]
  congr 1
  show ((List.filter (fun q => q.1.field == f) [(b, t)]).map (·.2)) = _
  rw [List.filter_cons]
  by_cases e : b.field = f
  · rw [if_pos (by simpa using e), if_pos e]
    rfl
  · rw [if_neg (by simpa using e), if_neg e]
    rfl
section
variable {P : Program} {w : World} {K : PySem.W.Frag} {mg : Str → Option Value} {base : Heap}
theorem sc36 : FnScope ["sheet", "told", "rows", "field", "box", "reading"] ["sheet", "told"] (defScope (top 36)) := ⟨rfl, rfl, rfl, by decide +kernel, rfl, by decide +kernel, by decide +kernel⟩
theorem ok36 {f : Addr} {fd : FuncData} (F : Fun K "told_by_field" "told_by_field" (top 36) f fd) (M : Mg mg) : FnOk P w K mg base CX0 1 f fd ["sheet", "told"] (spByField K) := by
  refine F.ok sc36 (fun vs H Q E h => ?_) (fun cdv Ar outer sh H vs Q E hr h => ?_)
  · obtain ⟨a, l, s, bs, ts, rfl, _⟩ := h
    rfl
  · refine gen fun G' hG => ?_
    obtain ⟨a, l, s, bs, ts, rfl, S, hl, hlen, hfld, hbl, k⟩ := h
    refine hG ?_
    refine ⟨_, pss_cons (ps_setLc (i := 2) rfl sc36.nd rfl rfl (by rfl) (pi_range1 (by rfl) M.range (pa_cons (pe_cst M.told (by rfl)) pa_nil)) blk36 (by intros; exact pg_name (i := 3) sc36.nd rfl (Or.inl rfl)) (by intros; exact pts_nil) (by intros; exact pe_lst pa_nil)) <|
      pss_cons (ps_for PassesOwn.never rfl (pi_zipK (K := K) rfl (by rfl) M.zip (pa_cons (pe_fldK (K := K) rfl (pv 0) rfl) (pa_cons (pv 1) pa_nil))) (pg_tupK (K := K) rfl rfl (pgs_cons (pg_name (i := 4) sc36.nd rfl (Or.inl rfl)) (pgs_cons (pg_name (i := 5) sc36.nd rfl (Or.inl rfl)) pgs_nil)))
        (pss_one <| ps_expr <| pe_bmK (K := K) rfl PySem.F.plainAttrs_list PySem.F.slot_list_append PySem.F.type_list_append mt_append (pe_ix (r := rIxL K) ix_list (pv 2) (pe_fldK (K := K) rfl (pv 4) rfl) (fun _ _ => rfl)) (pa_cons (pv 5) pa_nil))) <|
      pss_one <| ps_ret (pv 2), ?_⟩
    refine ⟨64, rfl, by decide, by decide, fun D hD => ?_⟩
    refine lc_range (n := 64) (fun i H' => ∃ as : List Addr, as.length = i ∧ as.Nodup ∧ Same H H' ∧ H' D = some (.lst (as.map V.ref)) ∧ ∀ c ∈ as, H c = none ∧ c ≠ D ∧ H' c = some (.lst [])) ?_ ?_ ?_
    · exact ⟨[], rfl, List.nodup_nil, (Same.refl H).put hD, upd_same, fun c hc => absurd hc (by simp)⟩
    · intro i H1 hi hp3
      refine gen fun G' hG => ?_
      obtain ⟨as, hal, hnd, s1, hD1, hall⟩ := hp3
      refine hG ?_
      refine ⟨rfl, ?_⟩
      refine ⟨by show 0 ≤ sizeLine; decide, fun c hc => ?_⟩
      have nD : D ≠ c := ne_of_none hD1 hc
      refine ⟨as.map V.ref, by rw [upd_ne nD]; exact hD1, by rw [List.length_map, hal, sizeLine_eq]; omega, as ++ [c], by rw [List.length_append, hal]; rfl, ?_, ?_, ?_, ?_⟩
      · refine nd_snoc hnd fun hm => ?_
        rw [(hall c hm).2.2] at hc
        cases hc
      · intro b o e
        rw [upd_ne (ne_of_none e hD), upd_ne (ne_of_none (s1 b o e) hc)]
        exact s1 b o e
      · rw [upd_same, List.map_append]
        rfl
      · intro x hx
        rcases List.mem_append.mp hx with hx | hx
        · refine gen fun G' hG => ?_
          obtain ⟨h1, h2, h3⟩ := hall x hx
          refine hG ?_
          refine ⟨h1, h2, ?_⟩
          rw [upd_ne h2, upd_ne (ne_of_none h3 hc)]
          exact h3
        · have e : x = c := by simpa using hx
          subst e
          exact ⟨s1.free hc, Ne.symm nD, by rw [upd_ne (Ne.symm nD), upd_same]⟩
    · intro H1 hp1
      refine gen fun G' hG => ?_
      obtain ⟨as, hal, hnd, s1, hD1, hall⟩ := hp1
      refine hG ?_
      refine gen fun G' hG => ?_
      obtain ⟨lb, bx, b1, b2, b3⟩ := S.boxes
      refine hG ?_
      refine ⟨_, rfl, rf (b1.mono s1) ⟨_, rfl, lb, l, _, _, rfl, SqL.of (s1 _ _ b2), SqL.of (s1 _ _ hl), ?_⟩⟩
      refine for_it (n := bs.length) (fun j σ H' => Same H H' ∧ (∃ v4 v5 : Option V, σ = [some (.ref a), some (.ref l), some (.ref D), none, v4, v5]) ∧ H' D = some (.lst (as.map V.ref)) ∧ ∀ (f : Nat) (c : Addr), as[f]? = some c → H' c = some (.lst ((rowL (bs.take j) (ts.take j) f).map nV))) ?_ ?_ ?_ ?_ ?_
      · refine ⟨s1, ⟨none, none, rfl⟩, hD1, fun f c hc => ?_⟩
        exact (hall c (List.mem_of_getElem? hc)).2.2
      · intro i σ H2 hi hp4
        refine gen fun G' hG => ?_
        obtain ⟨s2, _, _, _⟩ := hp4
        refine hG ?_
        exact ⟨_, _, V.ref (bx[i]'(by rw [b3.1]; exact hi)), nV (ts[i]'(by omega)), SqL.of (s2 _ _ b2), SqL.of (s2 _ _ hl), by rw [List.getElem?_map, List.getElem?_eq_getElem (by rw [b3.1]; exact hi)]; rfl, by rw [List.getElem?_map, List.getElem?_eq_getElem (by omega)]; rfl⟩
      · intro σ H2 hp2
        refine gen fun G' hG => ?_
        obtain ⟨s2, _, _, _⟩ := hp2
        refine hG ?_
        exact ⟨_, _, SqL.of (s2 _ _ b2), SqL.of (s2 _ _ hl), .inl (by rw [List.length_map, b3.1]; exact Nat.le_refl _)⟩
      · intro j σ H2 x H3 hj hp6 hp7
        refine gen fun G' hG => ?_
        obtain ⟨s2, ⟨v4, v5, rfl⟩, hD2, hrow⟩ := hp6
        obtain ⟨T, y, z, rfl, hT, rfl, hy, hz⟩ := hp7
        refine hG ?_
        refine gen fun G' hG => ?_
        obtain ⟨bo, hbo, rfl⟩ := refs_at (hy _ (SqL.of (s2 _ _ b2)))
        obtain ⟨b, hb, B⟩ := b3.at hbo
        refine hG ?_
        have hz' := hz _ (SqL.of (s2 _ _ hl))
        rw [List.getElem?_map] at hz'
        refine gen fun G' hG => ?_
        obtain ⟨t, ht, ez⟩ := Option.map_eq_some_iff.mp hz'
        refine hG ?_
        subst ez
        have s3 : Same H2 (upd H2 T (.tup [.ref bo, nV t])) := (Same.refl H2).put hT
        have hf := hfld b (List.mem_of_getElem? hb)
        have hcf : as[b.field]? = some (as[b.field]'(by omega)) := List.getElem?_eq_getElem (by omega)
        generalize as[b.field]'(by omega) = c at hcf
        have hcm := List.mem_of_getElem? hcf
        have hcr := s3 _ _ (hrow b.field c hcf)
        refine ⟨T, _, rfl, SqT.of upd_same, rfl, _, _, rfl, _, _, rfl, rfl, ?_⟩
        refine ⟨_, rfl, _, rfl, rf (B.mono (s2.trans s3)).field ⟨D, _, _, _, rfl, rfl, SqL.of (s3 _ _ hD2), at_of (j := b.field) (v := V.ref c) rfl (by rw [List.getElem?_map, hcf]; rfl), .inl ⟨rfl, _, SqL.of hcr⟩, _, rfl, c, _, _, rfl, rfl, hcr, ?_, ?_, ⟨_, _, rfl⟩, ?_, ?_⟩⟩
        · have h1 : ((bs.take j).zip (ts.take j)).length ≤ 256 := by
            rw [List.length_zip, List.length_take]
            omega
          have h2 : (rowL (bs.take j) (ts.take j) b.field).length ≤ ((bs.take j).zip (ts.take j)).length := by
            unfold rowL
            rw [List.length_map]
            exact List.length_filter_le _ _
          rw [List.length_map, sizeLine_eq]
          omega
        · intro b' o e
          rw [upd_ne (ne_of_none e (hall c hcm).1)]
          exact s3 _ _ (s2 _ _ e)
        · rw [upd_ne (Ne.symm (hall c hcm).2.1)]
          exact s3 _ _ hD2
        · intro f c' hc'
          rw [rowL_snoc hb ht f]
          by_cases e : f = b.field
          · subst e
            rw [hcf] at hc'
            cases hc'
            rw [upd_same, if_pos rfl, List.map_append]
            rfl
          · have hne : c' ≠ c := fun q => e (nd_ix hnd hc' (by rw [q]; exact hcf))
            rw [upd_ne hne, if_neg (fun q => e q.symm), List.append_nil]
            exact s3 _ _ (hrow f c' hc')
      · intro σ H2 hp2
        refine gen fun G' hG => ?_
        obtain ⟨s2, ⟨v4, v5, rfl⟩, hD2, hrow⟩ := hp2
        refine hG ?_
        refine ⟨_, rfl, k H2 D as s2 hD hD2 hal (fun c hc => (hall c hc).1) fun f c hc => ?_⟩
        have q := hrow f c hc
        rw [List.take_length, List.take_of_length_le (by omega)] at q
        exact q
end
end My
end
section
set_option Elab.async false
set_option linter.all false
set_option maxRecDepth 100000
set_option maxHeartbeats 4000000
namespace My
open PySem PySem.Spec PyProof.Rows L2
/-! ### the classes of the text -/
structure Tx (K : PySem.W.Frag) (A : Ad) : Prop where
  clC : Cls K A.C
  clB : Cls K A.B
  clS : Cls K A.S
  clT : Cls K A.T
  clU : Cls K A.U
  cx : NoAttr K A.C "x"
  cy : NoAttr K A.C "y"
  cz : NoAttr K A.C "zero"
  bx : NoAttr K A.B "x"
  by' : NoAttr K A.B "y"
  bw : NoAttr K A.B "w"
  bh : NoAttr K A.B "h"
  bf : NoAttr K A.B "field"
  bz : NoAttr K A.B "zero"
  s1 : NoAttr K A.S "width"
  s2 : NoAttr K A.S "height"
  s3 : NoAttr K A.S "shift"
  s4 : NoAttr K A.S "side"
  s5 : NoAttr K A.S "dust"
  s6 : NoAttr K A.S "noise"
  s7 : NoAttr K A.S "fill"
  s8 : NoAttr K A.S "blank"
  s9 : NoAttr K A.S "fields"
  s10 : NoAttr K A.S "corners"
  s11 : NoAttr K A.S "boxes"
  t1 : NoAttr K A.T "sheet"
  t2 : NoAttr K A.T "counted"
  t3 : NoAttr K A.T "sure"
  t4 : NoAttr K A.T "perhaps"
  u1 : NoAttr K A.U "numbers"
  u2 : NoAttr K A.U "place"
def tf (sv : V) (n : Nat) (l m : Addr) : List (Str × V) := [("sheet", sv), ("counted", .int (n : Int)), ("sure", .ref l), ("perhaps", .ref m)]
structure TallyAt (A : Ad) (H : Hp) (t : Addr) (sv : V) (n : Nat) (l m : Addr) : Prop where
  ex : ∃ dx, H t = some (.ins A.T dx (tf sv n l m))
section
variable {K : PySem.W.Frag} {A : Ad} {H H' : Hp} {t : Addr} {sv : V} {n : Nat} {l m : Addr}
theorem TallyAt.sheet (h : TallyAt A H t sv n l m) (T : Tx K A) : HasF K H t "sheet" sv := let ⟨dx, e⟩ := h.ex; ⟨A.T, dx, _, e, T.clT, T.t1, rfl⟩
theorem TallyAt.counted (h : TallyAt A H t sv n l m) (T : Tx K A) : HasF K H t "counted" (.int n) := let ⟨dx, e⟩ := h.ex; ⟨A.T, dx, _, e, T.clT, T.t2, rfl⟩
theorem TallyAt.sure (h : TallyAt A H t sv n l m) (T : Tx K A) : HasF K H t "sure" (.ref l) := let ⟨dx, e⟩ := h.ex; ⟨A.T, dx, _, e, T.clT, T.t3, rfl⟩
theorem TallyAt.perhaps (h : TallyAt A H t sv n l m) (T : Tx K A) : HasF K H t "perhaps" (.ref m) := let ⟨dx, e⟩ := h.ex; ⟨A.T, dx, _, e, T.clT, T.t4, rfl⟩
theorem TallyAt.mono (h : TallyAt A H t sv n l m) (s : Same H H') : TallyAt A H' t sv n l m := let ⟨dx, e⟩ := h.ex; ⟨dx, s _ _ e⟩
end
/-- all but what stands at these places is as it was -/
def Keep (ex : List Addr) (H H' : Hp) : Prop := ∀ b o, H b = some o → ¬ b ∈ ex → H' b = some o
def spTInit (A : Ad) : Sp := fun vs H Q _ => ∃ p dx : Addr, vs = [.ref p] ∧ H p = some (.ins A.T dx []) ∧
  ∀ (H' : Hp) (l m : Addr), Keep [p] H H' → TallyAt A H' p .non 0 l m → H' l = some (.lst []) → H' m = some (.lst []) → H l = none → H m = none → l ≠ m → Q .non H'
def spStart (K : PySem.W.Frag) (A : Ad) : Sp := fun vs H Q _ => ∃ (t a : Addr) (s : Kp138.Sheet) (bs : List Kp138.Box) (sv : V) (n : Nat) (l m : Addr) (Hs : Hp), vs = [.ref t, .ref a] ∧ TallyAt A H t sv n l m ∧ SheetAt K Hs a s bs ∧ Same Hs H ∧ Hs t = none ∧
  (rightB s bs false → ∀ H', Same H H' → Q (.int (-22)) H') ∧
  (rightB s bs true → ∀ (H' : Hp) (l' m' : Addr), Keep [t] H H' → TallyAt A H' t (.ref a) 0 l' m' → H' l' = some (.lst (List.replicate bs.length (.int 0))) → H' m' = some (.lst (List.replicate bs.length (.int 0))) → H l' = none → H m' = none → l' ≠ m' → Q (.int 0) H')
def spCount (A : Ad) : Sp := fun vs H Q _ => ∃ (t : Addr) (k : Nat) (sv : V) (n : Nat) (l m : Addr) (su pe : List Nat), vs = [.ref t, .int (k : Int)] ∧ TallyAt A H t sv n l m ∧ H l = some (.lst (su.map nV)) ∧ H m = some (.lst (pe.map nV)) ∧ su.length = pe.length ∧
  (su.length ≤ k → Q (.int (-22)) H) ∧ (∀ x y, su[k]? = some x → pe[k]? = some y → ∀ (H' : Hp) (r : Addr), Same H H' → H r = none → H' r = some (.lst [nV x, nV y, nV n]) → Q (.ref r) H')
theorem blk40a : BlkOk ["self", "sheet", "right", "box"] (defScope (inClass (top 40) 1)) (lcSc (valOf (st (inClass (top 40) 1) 4))) [("box", 3)] := ⟨rfl, by decide +kernel, by decide +kernel, by decide +kernel, by decide +kernel⟩
theorem blk40b : BlkOk ["self", "sheet", "right", "box"] (defScope (inClass (top 40) 1)) (lcSc (valOf (st (inClass (top 40) 1) 5))) [("box", 3)] := ⟨rfl, by decide +kernel, by decide +kernel, by decide +kernel, by decide +kernel⟩
section
variable {P : Program} {w : World} {K : PySem.W.Frag} {mg : Str → Option Value} {base : Heap} {A : Ad}
theorem scT0 : FnScope ["self"] ["self"] (defScope (inClass (top 40) 0)) := ⟨rfl, rfl, rfl, by decide +kernel, rfl, by decide +kernel, by decide +kernel⟩
theorem okT0 {f : Addr} {fd : FuncData} (F : Fun K "__init__" "Tally.__init__" (inClass (top 40) 0) f fd) (T : Tx K A) : FnOk P w K mg base CX0 1 f fd ["self"] (spTInit A) := by
  refine F.ok scT0 (fun vs H Q E h => ?_) (fun cdv Ar outer sh H vs Q E hr h => ?_)
  · obtain ⟨p, dx, rfl, _⟩ := h
    rfl
  · refine gen fun G' hG => ?_
    obtain ⟨p, dx, rfl, hp, k⟩ := h
    refine hG ?_
    refine ⟨_, pss_cons (ps_fldK (K := K) rfl (pv 0) pe_non rfl) <| pss_cons (ps_fldK (K := K) rfl (pv 0) pe_int rfl) <| pss_cons (ps_fldK (K := K) rfl (pv 0) (pe_lst pa_nil) rfl) <| pss_one (ps_fldK (K := K) rfl (pv 0) (pe_lst pa_nil) rfl), ?_⟩
    refine ⟨_, rfl, p, A.T, dx, _, rfl, hp, T.clT, T.t1, by show 0 < 1000; decide, ?_⟩
    refine ⟨_, rfl, p, A.T, dx, _, rfl, upd_same, T.clT, T.t2, by show 1 < 1000; decide, ?_⟩
    refine ⟨by show 0 ≤ sizeLine; decide, fun l hl => ?_⟩
    have npl : p ≠ l := fun q => by
      rw [q, upd_same] at hl
      cases hl
    refine ⟨_, rfl, p, A.T, dx, _, rfl, by rw [upd_ne npl]; exact upd_same, T.clT, T.t3, by show 2 < 1000; decide, ?_⟩
    refine ⟨by show 0 ≤ sizeLine; decide, fun m hm => ?_⟩
    have npm : p ≠ m := fun q => by
      rw [q, upd_same] at hm
      cases hm
    have nlm : l ≠ m := fun q => by
      rw [← q, upd_ne (Ne.symm npl), upd_same] at hm
      cases hm
    refine ⟨_, rfl, p, A.T, dx, _, rfl, by rw [upd_ne npm]; exact upd_same, T.clT, T.t4, by show 3 < 1000; decide, ?_⟩
    have hl0 : H l = none := by
      rw [upd_ne (Ne.symm npl), upd_ne (Ne.symm npl)] at hl
      exact hl
    have hm0 : H m = none := by
      rw [upd_ne (Ne.symm npm), upd_ne (Ne.symm nlm), upd_ne (Ne.symm npm), upd_ne (Ne.symm npm)] at hm
      exact hm
    refine k _ l m ?_ ⟨dx, upd_same⟩ ?_ ?_ hl0 hm0 nlm
    · intro b o e hb
      have hbp : b ≠ p := fun q => hb (by rw [q]; simp)
      rw [upd_ne hbp, upd_ne (ne_of_none e hm0), upd_ne hbp, upd_ne (ne_of_none e hl0), upd_ne hbp, upd_ne hbp]
      exact e
    · rw [upd_ne (Ne.symm npl), upd_ne nlm, upd_ne (Ne.symm npl), upd_same]
    · rw [upd_ne (Ne.symm npm), upd_same]
theorem scT1 : FnScope ["self", "sheet", "right", "box"] ["self", "sheet"] (defScope (inClass (top 40) 1)) := ⟨rfl, rfl, rfl, by decide +kernel, rfl, by decide +kernel, by decide +kernel⟩
theorem okT1 {f : Addr} {fd : FuncData} (F : Fun K "oc_start" "Tally.oc_start" (inClass (top 40) 1) f fd) (T : Tx K A) (d15 : Def P w K mg base 4 "om_right" ["sheet"] (spRight K)) : FnOk P w K mg base CX0 5 f fd ["self", "sheet"] (spStart K A) := by
  refine F.ok scT1 (fun vs H Q E h => ?_) (fun cdv Ar outer sh H vs Q E hr h => ?_)
  · obtain ⟨t, a, s, bs, sv, n, l, m, Hs, rfl, _⟩ := h
    rfl
  · refine gen fun G' hG => ?_
    obtain ⟨t, a, s, bs, sv, n, l, m, Hs, rfl, ⟨dx, hT⟩, S, sHs, hst, k1, k2⟩ := h
    refine hG ?_
    refine ⟨_, pss_cons (ps_set (i := 2) scT1.nd rfl (Or.inl rfl) (pe_def d15 hr (by rfl) (pa_cons (pv 1) pa_nil))) <|
      pss_cons (ps_if (pt_cmpR op_lt (pv 2) pe_int (nomark _)) (pss_one (ps_ret (pv 2))) pss_nil) <|
      pss_cons (ps_fldK (K := K) rfl (pv 0) (pv 1) rfl) <| pss_cons (ps_fldK (K := K) rfl (pv 0) pe_int rfl) <|
      pss_cons (ps_fldK (K := K) rfl (pv 0) (pe_lc rfl scT1.nd (pi_listK (K := K) rfl (pe_fldK (K := K) rfl (pv 1) rfl)) blk40a (by intros; exact pg_name (i := 3) scT1.nd rfl (Or.inl rfl)) (by intros; exact pts_nil) (by intros; exact pe_int)) rfl) <|
      pss_cons (ps_fldK (K := K) rfl (pv 0) (pe_lc rfl scT1.nd (pi_listK (K := K) rfl (pe_fldK (K := K) rfl (pv 1) rfl)) blk40b (by intros; exact pg_name (i := 3) scT1.nd rfl (Or.inl rfl)) (by intros; exact pts_nil) (by intros; exact pe_int)) rfl) <|
      pss_one (ps_ret pe_int), ?_⟩
    refine ⟨_, rfl, a, s, bs, rfl, S.mono sHs, fun H1 b s1 hb => ?_⟩
    cases b with
    | false => exact ⟨_, rfl, _, _, rfl, rfl, _, rfl, _, rfl, k1 hb H1 s1⟩
    | true =>
      have ok := ok_of hb
      have hb256 := ok.b2
      have hT1 := s1 _ _ hT
      refine ⟨_, rfl, _, _, rfl, rfl, _, rfl, ?_⟩
      refine ⟨_, rfl, _, rfl, t, A.T, dx, _, rfl, hT1, T.clT, T.t1, by show 4 < 1000; decide, ?_⟩
      refine ⟨_, rfl, t, A.T, dx, _, rfl, upd_same, T.clT, T.t2, by show 4 < 1000; decide, ?_⟩
      have sS3 : Same Hs (upd (upd H1 t (.ins A.T dx (tf (.ref a) n l m))) t (.ins A.T dx (tf (.ref a) 0 l m))) := fun b o e => by
        have hbt := ne_of_none e hst
        rw [upd_ne hbt, upd_ne hbt]
        exact s1 _ _ (sHs _ _ e)
      have hT3 : (upd (upd H1 t (.ins A.T dx (tf (.ref a) n l m))) t (.ins A.T dx (tf (.ref a) 0 l m))) t = some (.ins A.T dx (tf (.ref a) 0 l m)) := upd_same
      have kp3 : Keep [t] H (upd (upd H1 t (.ins A.T dx (tf (.ref a) n l m))) t (.ins A.T dx (tf (.ref a) 0 l m))) := fun b o e hb => by
        have hbt : b ≠ t := fun q => hb (by rw [q]; simp)
        rw [upd_ne hbt, upd_ne hbt]
        exact s1 _ _ e
      rw [show putF "sheet" (V.ref a) (tf sv n l m) = tf (.ref a) n l m from rfl, show putF "counted" (V.int 0) (tf (.ref a) n l m) = tf (.ref a) 0 l m from rfl]
      generalize (upd (upd H1 t (.ins A.T dx (tf (.ref a) n l m))) t (.ins A.T dx (tf (.ref a) 0 l m))) = H3 at sS3 hT3 kp3
      refine gen fun G' hG => ?_
      obtain ⟨lb, bx, b1, b2, b3⟩ := S.boxes
      refine hG ?_
      refine ⟨_, rfl, rf (b1.mono sS3) ⟨lb, rfl, ⟨_, SqL.of (sS3 _ _ b2)⟩, fun D hD => ?_⟩⟩
      refine lcm_list (xs := bx.map V.ref) (ys := List.replicate bs.length (.int 0)) hD (by rw [List.length_map, b3.1, List.length_replicate]) (by rw [List.length_map, b3.1]; exact Nat.le_trans hb256 (by decide)) (SqL.of (sS3 _ _ b2)) (fun x => rfl) ?_ ?_
      · intro j x y H4 R hx hy s4 kR
        have ey : y = .int 0 := by
          have := List.mem_of_getElem? hy
          exact (List.mem_replicate.mp this).2
        subst ey
        exact kR H4 (Same.refl _)
      · intro H4 s4 hD4
        have hT4 := s4 _ _ hT3
        refine ⟨_, rfl, t, A.T, dx, _, rfl, hT4, T.clT, T.t3, by show 4 < 1000; decide, ?_⟩
        have hDt : D ≠ t := Ne.symm (ne_of_none hT3 hD)
        have hT5 : (upd H4 t (.ins A.T dx (tf (.ref a) 0 D m))) t = some (.ins A.T dx (tf (.ref a) 0 D m)) := upd_same
        have hD5 : (upd H4 t (.ins A.T dx (tf (.ref a) 0 D m))) D = some (.lst (List.replicate bs.length (.int 0))) := by rw [upd_ne hDt]; exact hD4
        have sS5 : Same Hs (upd H4 t (.ins A.T dx (tf (.ref a) 0 D m))) := fun b o e => by
          rw [upd_ne (ne_of_none e hst)]
          exact s4 _ _ (sS3 _ _ e)
        have kp5 : Keep [t] H (upd H4 t (.ins A.T dx (tf (.ref a) 0 D m))) := fun b o e hb => by
          have hbt : b ≠ t := fun q => hb (by rw [q]; simp)
          rw [upd_ne hbt]
          exact s4 _ _ (kp3 b o e hb)
        rw [show putF "sure" (V.ref D) (tf (.ref a) 0 l m) = tf (.ref a) 0 D m from rfl]
        generalize (upd H4 t (.ins A.T dx (tf (.ref a) 0 D m))) = H5 at hT5 hD5 sS5 kp5
        refine ⟨_, rfl, rf (b1.mono sS5) ⟨lb, rfl, ⟨_, SqL.of (sS5 _ _ b2)⟩, fun D2 hD2 => ?_⟩⟩
        refine lcm_list (xs := bx.map V.ref) (ys := List.replicate bs.length (.int 0)) hD2 (by rw [List.length_map, b3.1, List.length_replicate]) (by rw [List.length_map, b3.1]; exact Nat.le_trans hb256 (by decide)) (SqL.of (sS5 _ _ b2)) (fun x => rfl) ?_ ?_
        · intro j x y H6 R hx hy s6 kR
          have ey : y = .int 0 := by
            have := List.mem_of_getElem? hy
            exact (List.mem_replicate.mp this).2
          subst ey
          exact kR H6 (Same.refl _)
        · intro H6 s6 hD6
          refine ⟨_, rfl, t, A.T, dx, _, rfl, s6 _ _ hT5, T.clT, T.t4, by show 4 < 1000; decide, ?_⟩
          have hD2t : D2 ≠ t := Ne.symm (ne_of_none hT5 hD2)
          have free : ∀ {b : Addr} {Hx : Hp}, Keep [t] H Hx → b ≠ t → Hx b = none → H b = none := fun {b Hx} kp hbt hx => by
            cases e : H b with
            | none => rfl
            | some o =>
              rw [kp b o e (by simpa using hbt)] at hx
              cases hx
          refine k2 hb _ D D2 ?_ ⟨dx, upd_same⟩ ?_ ?_ (free kp3 hDt hD) (free kp5 hD2t hD2) (ne_of_none hD5 hD2)
          · intro b o e hb
            have hbt : b ≠ t := fun q => hb (by rw [q]; simp)
            rw [upd_ne hbt]
            exact s6 _ _ (kp5 b o e hb)
          · rw [upd_ne hDt]
            exact s6 _ _ hD5
          · rw [upd_ne hD2t]
            exact hD6
theorem scT4 : FnScope ["self", "k"] ["self", "k"] (defScope (inClass (top 40) 4)) := ⟨rfl, rfl, rfl, by decide +kernel, rfl, by decide +kernel, by decide +kernel⟩
theorem okT4 {f : Addr} {fd : FuncData} (F : Fun K "oc_count" "Tally.oc_count" (inClass (top 40) 4) f fd) (T : Tx K A) (M : Mg mg) : FnOk P w K mg base CX0 1 f fd ["self", "k"] (spCount A) := by
  refine F.ok scT4 (fun vs H Q E h => ?_) (fun cdv Ar outer sh H vs Q E hr h => ?_)
  · obtain ⟨t, k, sv, n, l, m, su, pe, rfl, _⟩ := h
    rfl
  · refine gen fun G' hG => ?_
    obtain ⟨t, k, sv, n, l, m, su, pe, rfl, hT, hl, hm, hlen, k1, k2⟩ := h
    refine hG ?_
    refine ⟨_, pss_cons (ps_if (pt_cmpR op_ge (pv 1) (pe_callB (call_lenK (K := K) rfl) (by rfl) M.len PySem.boot_len (pa_cons (pe_fldK (K := K) rfl (pv 0) rfl) pa_nil)) (nomark _)) (pss_one (ps_ret (pe_cst M.notRight (by rfl)))) pss_nil) <|
      pss_one <| ps_ret <| pe_lst (pa_cons (pe_ix (r := rIxL K) ix_list (pe_fldK (K := K) rfl (pv 0) rfl) (pv 1) (fun _ _ => rfl)) (pa_cons (pe_ix (r := rIxL K) ix_list (pe_fldK (K := K) rfl (pv 0) rfl) (pv 1) (fun _ _ => rfl)) (pa_cons (pe_fldK (K := K) rfl (pv 0) rfl) pa_nil))), ?_⟩
    refine ⟨_, rfl, _, rfl, rf (hT.sure T) ⟨l, _, rfl, .inl (SqL.of hl), _, _, rfl, rfl, _, rfl, ?_⟩⟩
    rw [List.length_map]
    refine rite (fun hk => ?_) (fun hk => ?_)
    · have hk := of_decide_eq_true hk
      exact k1 (by omega)
    · have hk := of_decide_eq_false hk
      have e1 : su[k]? = some su[k] := List.getElem?_eq_getElem (by omega)
      have e2 : pe[k]? = some pe[k] := List.getElem?_eq_getElem (by omega)
      refine ⟨_, rfl, rf (hT.sure T) ⟨_, rfl, l, _, _, _, rfl, rfl, SqL.of hl, at_of (j := k) (v := nV su[k]) rfl (by rw [List.getElem?_map, e1]; rfl), ?_⟩⟩
      refine ⟨_, rfl, rf (hT.perhaps T) ⟨_, rfl, m, _, _, _, rfl, rfl, SqL.of hm, at_of (j := k) (v := nV pe[k]) rfl (by rw [List.getElem?_map, e2]; rfl), ?_⟩⟩
      refine ⟨_, rfl, rf (hT.counted T) ⟨by show 3 ≤ sizeLine; decide, fun r hr' => ?_⟩⟩
      exact k2 _ _ e1 e2 _ r ((Same.refl H).put hr') hr' upd_same
end
end My
end
section
set_option Elab.async false
set_option linter.all false
set_option maxRecDepth 100000
set_option maxHeartbeats 4000000
namespace My
open PySem PySem.Spec PyProof.Rows L2
def mask (ex : List Addr) (H : Hp) : Hp := fun b => if b ∈ ex then none else H b
theorem mask_in {ex : List Addr} {H : Hp} {b : Addr} (h : b ∈ ex) : mask ex H b = none := by
  unfold mask
  rw [if_pos h]
theorem mask_out {ex : List Addr} {H : Hp} {b : Addr} (h : ¬ b ∈ ex) : mask ex H b = H b := by
  unfold mask
  rw [if_neg h]
theorem mask_same {ex : List Addr} {H : Hp} : Same (mask ex H) H := fun b o e => by
  by_cases h : b ∈ ex
  · rw [mask_in h] at e
    cases e
  · rw [mask_out h] at e
    exact e
/-! ### counts -/
def upTo (f : Nat → Bool) (j : Nat) : Nat → Bool := fun k => decide (k < j) && f k
theorem count_at (l : List Nat) (f : Nat → Bool) (k : Nat) (h : k < l.length) : (Kp139.count l f)[k]? = some (l.getD k 0 + if f k = true then 1 else 0) := by
  unfold Kp139.count
  rw [List.getElem?_map, List.getElem?_range h]
  rfl
theorem count_len (l : List Nat) (f : Nat → Bool) : (Kp139.count l f).length = l.length := by
  unfold Kp139.count
  rw [List.length_map, List.length_range]
theorem count_ext {l l' : List Nat} {f : Nat → Bool} (hl : l'.length = l.length) (h : ∀ k, k < l.length → l'[k]? = some (l.getD k 0 + if f k = true then 1 else 0)) : Kp139.count l f = l' := by
  refine List.ext_getElem? fun k => ?_
  by_cases hk : k < l.length
  · rw [count_at l f k hk, h k hk]
  · rw [List.getElem?_eq_none (by rw [count_len]; omega), List.getElem?_eq_none (by omega)]
theorem count_zero' (l : List Nat) (f : Nat → Bool) : Kp139.count l (upTo f 0) = l := by
  refine count_ext rfl fun k hk => ?_
  have : upTo f 0 k = false := by
    unfold upTo
    simp
  rw [this, if_neg Bool.false_ne_true, List.getD_eq_getElem?_getD, List.getElem?_eq_getElem hk]
  rfl
theorem count_all (l : List Nat) (f : Nat → Bool) : Kp139.count l (upTo f l.length) = Kp139.count l f := by
  refine count_ext (count_len _ _) fun k hk => ?_
  have : upTo f l.length k = f k := by
    unfold upTo
    rw [decide_eq_true hk, Bool.true_and]
  rw [this, count_at l f k hk]
theorem count_no (l : List Nat) (f : Nat → Bool) (j : Nat) (h : f j = false) : Kp139.count l (upTo f (j + 1)) = Kp139.count l (upTo f j) := by
  refine count_ext (count_len _ _) fun k hk => ?_
  rw [count_at _ _ k hk]
  have : upTo f (j + 1) k = upTo f j k := by
    unfold upTo
    by_cases e : k = j
    · subst e
      rw [h, Bool.and_false, Bool.and_false]
    · rw [show decide (k < j + 1) = decide (k < j) from decide_eq_decide.mpr (by omega)]
  rw [this]
theorem count_yes (l : List Nat) (f : Nat → Bool) (j : Nat) (hj : j < l.length) (h : f j = true) : Kp139.count l (upTo f (j + 1)) = (Kp139.count l (upTo f j)).set j (l.getD j 0 + 1) := by
  refine count_ext (by rw [List.length_set, count_len]) fun k hk => ?_
  by_cases e : k = j
  · subst e
    rw [List.getElem?_set_self (by rw [count_len]; exact hk)]
    have : upTo f (k + 1) k = true := by
      unfold upTo
      rw [h, decide_eq_true (by omega)]
      rfl
    rw [this, if_pos rfl]
  · rw [List.getElem?_set_ne (Ne.symm e), count_at _ _ k hk]
    have : upTo f (j + 1) k = upTo f j k := by
      unfold upTo
      rw [show decide (k < j + 1) = decide (k < j) from decide_eq_decide.mpr (by omega)]
    rw [this]
theorem count_now (l : List Nat) (f : Nat → Bool) (j : Nat) (hj : j < l.length) : (Kp139.count l (upTo f j))[j]? = some (l.getD j 0) := by
  rw [count_at _ _ j hj]
  have : upTo f j j = false := by
    unfold upTo
    simp
  rw [this]
  rfl
def boxD : Kp138.Box := ⟨0, 0, 0, 0, 0, 0⟩
def sureK (bs : List Kp138.Box) (ts : List Nat) (k : Nat) : Bool := sureB (ts.getD k 0) (rowL bs ts (bs.getD k boxD).field)
def perK (bs : List Kp138.Box) (ts : List Nat) (k : Nat) : Bool := perhapsB (ts.getD k 0) (rowL bs ts (bs.getD k boxD).field)
/-- what count_sheet reads -/
structure ReadAt (K : PySem.W.Frag) (Hs : Hp) (a tl rl : Addr) (s : Kp138.Sheet) (bs : List Kp138.Box) (ts : List Nat) (as : List Addr) : Prop where
  S : SheetAt K Hs a s bs
  tl : Hs tl = some (.lst (ts.map nV))
  rl : Hs rl = some (.lst (as.map V.ref))
  n : as.length = 64
  row : ∀ (f : Nat) (c : Addr), as[f]? = some c → Hs c = some (.lst ((rowL bs ts f).map nV))
  len : ts.length = bs.length
  fld : ∀ b ∈ bs, b.field < 64
def spCountSheet (K : PySem.W.Frag) (A : Ad) : Sp := fun vs H Q _ => ∃ (t tl rl a : Addr) (s : Kp138.Sheet) (bs : List Kp138.Box) (n : Nat) (l m : Addr) (su pe ts : List Nat) (as : List Addr) (Hs : Hp), vs = [.ref t, .ref tl, .ref rl] ∧ TallyAt A H t (.ref a) n l m ∧ ReadAt K Hs a tl rl s bs ts as ∧ Same Hs H ∧ Hs t = none ∧ Hs l = none ∧ Hs m = none ∧
  H l = some (.lst (su.map nV)) ∧ H m = some (.lst (pe.map nV)) ∧ su.length = bs.length ∧ pe.length = bs.length ∧ l ≠ m ∧
  ∀ H' : Hp, Keep [t, l, m] H H' → TallyAt A H' t (.ref a) (n + 1) l m → H' l = some (.lst ((Kp139.count su (sureK bs ts)).map nV)) → H' m = some (.lst ((Kp139.count pe (perK bs ts)).map nV)) → Q .non H'
theorem ixN_nat {n j : Nat} (h : j < n) : ixN n (j : Int) = some j := by
  unfold ixN
  rw [if_pos (by omega), if_pos (by omega)]
  simp
theorem set_nV (l : List Nat) (j x : Nat) : (l.map nV).set j (nV x) = (l.set j x).map nV := by
  rw [List.map_set]
section
variable {P : Program} {w : World} {K : PySem.W.Frag} {mg : Str → Option Value} {base : Heap} {A : Ad}
theorem scT3 : FnScope ["self", "told", "rows", "k", "reading", "row"] ["self", "told", "rows"] (defScope (inClass (top 40) 3)) := ⟨rfl, rfl, rfl, by decide +kernel, rfl, by decide +kernel, by decide +kernel⟩
theorem okT3 {f : Addr} {fd : FuncData} (F : Fun K "count_sheet" "Tally.count_sheet" (inClass (top 40) 3) f fd) (T : Tx K A) (M : Mg mg) (d38 : Def P w K mg base 1 "is_sure" ["reading", "row"] (spSure K)) (d39 : Def P w K mg base 2 "is_perhaps" ["reading", "row"] (spPerhaps K)) : FnOk P w K mg base CX0 3 f fd ["self", "told", "rows"] (spCountSheet K A) := by
  refine F.ok scT3 (fun vs H Q E h => ?_) (fun cdv Ar outer sh H vs Q E hr h => ?_)
  · obtain ⟨t, tl, rl, a, s, bs, n, l, m, su, pe, ts, as, Hs, rfl, _⟩ := h
    rfl
  · refine gen fun G' hG => ?_
    obtain ⟨t, tl, rl, a, s, bs, n, l, m, su, pe, ts, as, Hs, rfl, hT, R, sHs, nt, nl, nm, hl, hm, lsu, lpe, hlm, k⟩ := h
    refine hG ?_
    refine ⟨_, pss_cons (ps_fldaugK (K := K) rfl (pv 0) pe_int in_add) <|
      pss_one <| ps_for PassesOwn.never rfl (pi_enumK (K := K) rfl (by rfl) M.enumerate (pa_cons (pv 1) pa_nil)) (pg_tupK (K := K) rfl rfl (pgs_cons (pg_name (i := 3) scT3.nd rfl (Or.inl rfl)) (pgs_cons (pg_name (i := 4) scT3.nd rfl (Or.inl rfl)) pgs_nil))) <|
        pss_cons (ps_set (i := 5) scT3.nd rfl (Or.inl rfl) (pe_ix (r := rIxL K) ix_list (pv 2) (pe_fldK (K := K) rfl (pe_ix (r := rIxL K) ix_list (pe_fldK (K := K) rfl (pe_fldK (K := K) rfl (pv 0) rfl) rfl) (pv 3) (fun _ _ => rfl)) rfl) (fun _ _ => rfl))) <|
        pss_cons (ps_if (pt_val (pe_def d38 hr (by rfl) (pa_cons (pv 4) (pa_cons (pv 5) pa_nil)))) (pss_one (ps_augS (pe_fldK (K := K) rfl (pv 0) rfl) (pv 3) (tget := rGetL K) get_list pe_int ip_add set_list)) pss_nil) <|
        pss_one (ps_if (pt_val (pe_def d39 hr (by rfl) (pa_cons (pv 4) (pa_cons (pv 5) pa_nil)))) (pss_one (ps_augS (pe_fldK (K := K) rfl (pv 0) rfl) (pv 3) (tget := rGetL K) get_list pe_int ip_add set_list)) pss_nil), ?_⟩
    refine gen fun G' hG => ?_
    obtain ⟨dx, hT0⟩ := id hT.ex
    refine hG ?_
    have hlt : l ≠ t := fun q => by
      rw [q, hT0] at hl
      cases hl
    have hmt : m ≠ t := fun q => by
      rw [q, hT0] at hm
      cases hm
    refine ⟨_, rfl, t, A.T, dx, _, _, rfl, hT0, T.clT, T.t2, rfl, _, _, rfl, rfl, dx, _, hT0, by show 4 < 1000; decide, ?_⟩
    rw [show putF "counted" (V.int ((n : Int) + 1)) (tf (.ref a) n l m) = tf (.ref a) (n + 1) l m from rfl]
    have sH1 : Same Hs (upd H t (.ins A.T dx (tf (.ref a) (n + 1) l m))) := fun b o e => by
      rw [upd_ne (ne_of_none e nt)]
      exact sHs _ _ e
    refine ⟨_, rfl, tl, _, rfl, SqL.of (sH1 _ _ R.tl), ?_⟩
    refine for_it (n := bs.length) (fun j σ H' => Same Hs H' ∧ (∃ v3 v4 v5 : Option V, σ = [some (.ref t), some (.ref tl), some (.ref rl), v3, v4, v5]) ∧ TallyAt A H' t (.ref a) (n + 1) l m ∧ H' l = some (.lst ((Kp139.count su (upTo (sureK bs ts) j)).map nV)) ∧ H' m = some (.lst ((Kp139.count pe (upTo (perK bs ts) j)).map nV)) ∧ Keep [t, l, m] H H') ?_ ?_ ?_ ?_ ?_
    · refine ⟨sH1, ⟨none, none, none, rfl⟩, ⟨dx, upd_same⟩, ?_, ?_, fun b o e hb => ?_⟩
      · rw [upd_ne hlt, count_zero']
        exact hl
      · rw [upd_ne hmt, count_zero']
        exact hm
      · rw [upd_ne (fun q => hb (by rw [q]; simp))]
        exact e
    · intro j σ H2 hj hp4
      refine gen fun G' hG => ?_
      obtain ⟨s2, _⟩ := hp4
      refine hG ?_
      exact ⟨_, nV (ts[j]'(by rw [R.len]; exact hj)), SqL.of (s2 _ _ R.tl), by rw [List.getElem?_map, List.getElem?_eq_getElem (by rw [R.len]; exact hj)]; rfl⟩
    · intro σ H2 hp2
      refine gen fun G' hG => ?_
      obtain ⟨s2, _⟩ := hp2
      refine hG ?_
      exact ⟨_, SqL.of (s2 _ _ R.tl), by rw [List.length_map, R.len]; exact Nat.le_refl _⟩
    · intro j σ H2 x H3 hj hp6 hp7
      refine gen fun G' hG => ?_
      obtain ⟨s2, ⟨v3, v4, v5, rfl⟩, hT2, hl2, hm2, kp2⟩ := hp6
      obtain ⟨Z, y, rfl, hZ, rfl, hy⟩ := hp7
      refine hG ?_
      have hy' := hy _ (SqL.of (s2 _ _ R.tl))
      rw [List.getElem?_map] at hy'
      refine gen fun G' hG => ?_
      obtain ⟨u, hu, ey⟩ := Option.map_eq_some_iff.mp hy'
      refine hG ?_
      subst ey
      have s3 : Same H2 (upd H2 Z (.tup [.int (j : Nat), nV u])) := (Same.refl H2).put hZ
      have s23 := s2.trans s3
      have S3 := R.S.mono s23
      have hT3 := hT2.mono s3
      have hl3 := s3 _ _ hl2
      have hm3 := s3 _ _ hm2
      have kp3 : Keep [t, l, m] H (upd H2 Z (.tup [.int (j : Nat), nV u])) := fun b o e hb => s3 _ _ (kp2 b o e hb)
      generalize hH3 : upd H2 Z (.tup [.int (j : Nat), nV u]) = H3 at s3 s23 S3 hT3 hl3 hm3 kp3
      have hZ3 : H3 Z = some (.tup [.int (j : Nat), nV u]) := by rw [← hH3, upd_same]
      refine gen fun G' hG => ?_
      obtain ⟨lb, bx, b1, b2, b3⟩ := S3.boxes
      refine hG ?_
      have hbj : bs[j]? = some bs[j] := List.getElem?_eq_getElem hj
      refine gen fun G' hG => ?_
      obtain ⟨bo, hbo, B⟩ := b3.of hbj
      refine hG ?_
      have hfld := R.fld _ (List.getElem_mem hj)
      have hcf : as[bs[j].field]? = some (as[bs[j].field]'(by rw [R.n]; exact hfld)) := List.getElem?_eq_getElem (by rw [R.n]; exact hfld)
      generalize as[bs[j].field]'(by rw [R.n]; exact hfld) = c at hcf
      have hrow := R.row _ c hcf
      have eS : sureK bs ts j = sureB u (rowL bs ts bs[j].field) := by
        unfold sureK
        rw [List.getD_eq_getElem?_getD, List.getD_eq_getElem?_getD, hu, hbj]
        rfl
      have eP : perK bs ts j = perhapsB u (rowL bs ts bs[j].field) := by
        unfold perK
        rw [List.getD_eq_getElem?_getD, List.getD_eq_getElem?_getD, hu, hbj]
        rfl
      refine ⟨Z, _, rfl, SqT.of hZ3, rfl, _, _, rfl, _, _, rfl, rfl, ?_⟩
      refine ⟨_, rfl, _, rfl, rf (hT3.sheet T) (rf b1 ⟨_, rfl, lb, _, _, _, rfl, rfl, SqL.of b2, at_of (j := j) (v := V.ref bo) rfl (by rw [List.getElem?_map, hbo]; rfl), rf B.field ⟨rl, _, _, _, rfl, rfl, SqL.of (s23 _ _ R.rl), at_of (j := bs[j].field) (v := V.ref c) rfl (by rw [List.getElem?_map, hcf]; rfl), ?_⟩⟩)⟩
      refine ⟨_, rfl, _, rfl, u, c, _, rfl, SqL.of (s23 _ _ hrow), _, rfl, ?_⟩
      -- the first if: what stands behind it
      have mid : ∀ H4 : Hp, Same Hs H4 → TallyAt A H4 t (.ref a) (n + 1) l m → H4 l = some (.lst ((Kp139.count su (upTo (sureK bs ts) (j + 1))).map nV)) → H4 m = some (.lst ((Kp139.count pe (upTo (perK bs ts) j)).map nV)) → Keep [t, l, m] H H4 →
          (tIfS (tB (tCall (spPerhaps K) [] E0 (tCons (tVar 4) (tCons (tVar 5) tNil)))) (tAugS (tFld K (tVar 0) "perhaps") (tVar 3) (tC (.int 1)) (rGetL K) (ipI fun i j => i + j) rSetL) tNext)
            { nx := fun σ H' => Same Hs H' ∧ (∃ v3 v4 v5 : Option V, σ = [some (.ref t), some (.ref tl), some (.ref rl), v3, v4, v5]) ∧ TallyAt A H' t (.ref a) (n + 1) l m ∧ H' l = some (.lst ((Kp139.count su (upTo (sureK bs ts) (j + 1))).map nV)) ∧ H' m = some (.lst ((Kp139.count pe (upTo (perK bs ts) (j + 1))).map nV)) ∧ Keep [t, l, m] H H', rt := Q }
            [some (.ref t), some (.ref tl), some (.ref rl), some (.int (j : Nat)), some (nV u), some (.ref c)] H4 := by
        intro H4 s4 hT4 hl4 hm4 kp4
        refine ⟨_, rfl, _, rfl, u, c, _, rfl, SqL.of (s4 _ _ hrow), _, rfl, rite (fun hp => ?_) (fun hp => ?_)⟩
        · refine ⟨_, rfl, rf (hT4.perhaps T) ⟨_, rfl, m, _, j, _, rfl, rfl, SqL.of hm4, by rw [List.getElem?_map, count_now pe _ j (by omega)]; rfl, _, _, rfl, rfl, m, _, _, j, rfl, rfl, hm4, ixN_nat (by rw [List.length_map, count_len]; omega), ?_⟩⟩
          refine gen fun G' hG => ?_
          obtain ⟨dx4, hT4'⟩ := id hT4.ex
          refine hG ?_
          refine ⟨fun b o e => ?_, ⟨_, _, _, rfl⟩, ⟨dx4, ?_⟩, ?_, ?_, fun b o e hb => ?_⟩
          · rw [upd_ne (ne_of_none e nm)]
            exact s4 _ _ e
          · rw [upd_ne (Ne.symm hmt)]
            exact hT4'
          · rw [upd_ne hlm]
            exact hl4
          · rw [upd_same, count_yes pe _ j (by omega) (by rw [eP]; exact hp), ← set_nV]
            rfl
          · rw [upd_ne (fun q => hb (by rw [q]; simp))]
            exact kp4 b o e hb
        · exact ⟨s4, ⟨_, _, _, rfl⟩, hT4, hl4, by rw [count_no pe _ j (by rw [eP]; exact hp)]; exact hm4, kp4⟩
      refine rite (fun hs => ?_) (fun hs => ?_)
      · refine ⟨_, rfl, rf (hT3.sure T) ⟨_, rfl, l, _, j, _, rfl, rfl, SqL.of hl3, by rw [List.getElem?_map, count_now su _ j (by omega)]; rfl, _, _, rfl, rfl, l, _, _, j, rfl, rfl, hl3, ixN_nat (by rw [List.length_map, count_len]; omega), ?_⟩⟩
        refine gen fun G' hG => ?_
        obtain ⟨dx3, hT3'⟩ := id hT3.ex
        refine hG ?_
        refine mid _ (fun b o e => ?_) ⟨dx3, ?_⟩ ?_ ?_ (fun b o e hb => ?_)
        · rw [upd_ne (ne_of_none e nl)]
          exact s23 _ _ e
        · rw [upd_ne (Ne.symm hlt)]
          exact hT3'
        · rw [upd_same, count_yes su _ j (by omega) (by rw [eS]; exact hs), ← set_nV]
          rfl
        · rw [upd_ne (Ne.symm hlm)]
          exact hm3
        · rw [upd_ne (fun q => hb (by rw [q]; simp))]
          exact kp3 b o e hb
      · exact mid H3 s23 hT3 (by rw [count_no su _ j (by rw [eS]; exact hs)]; exact hl3) hm3 kp3
    · intro σ H2 hp2
      refine gen fun G' hG => ?_
      obtain ⟨s2, ⟨v3, v4, v5, rfl⟩, hT2, hl2, hm2, kp2⟩ := hp2
      refine hG ?_
      refine k H2 kp2 hT2 ?_ ?_
      · rw [← lsu, count_all] at hl2
        exact hl2
      · rw [← lpe, count_all] at hm2
        exact hm2
end
end My
end
section
set_option Elab.async false
set_option linter.all false
set_option maxRecDepth 100000
set_option maxHeartbeats 4000000
namespace My
open PySem PySem.Spec PyProof.Rows L2
def spSheet (K : PySem.W.Frag) (A : Ad) : Sp := fun vs H Q _ => ∃ (t p a : Addr) (s : Kp138.Sheet) (bs : List Kp138.Box) (ps : List Int) (n : Nat) (l m : Addr) (su pe : List Nat) (Hs : Hp), vs = [.ref t, .ref p] ∧ TallyAt A H t (.ref a) n l m ∧ SheetAt K Hs a s bs ∧ Same Hs H ∧ Hs t = none ∧ Hs l = none ∧ Hs m = none ∧
  H l = some (.lst (su.map nV)) ∧ H m = some (.lst (pe.map nV)) ∧ su.length = bs.length ∧ pe.length = bs.length ∧ l ≠ m ∧ SqL K H p (ps.map V.int) ∧ rightB s bs true ∧ Pic s ps ∧ n < 4294967295 ∧
  (Kp138.found s (nP ps) = .faint → ∀ H', Same H H' → Q (.int (-61)) H') ∧ (Kp138.found s (nP ps) = .none_ → ∀ H', Same H H' → Q (.int (-2)) H') ∧
  ∀ d th c, Kp138.found s (nP ps) = .here d th c → ∀ (H' : Hp) (r : Addr), Keep [t, l, m] H H' → H r = none → TallyAt A H' t (.ref a) (n + 1) l m → H' l = some (.lst ((Kp139.count su (sureK bs (bs.map (Kp138.boxTold s (nP ps) d th)))).map nV)) → H' m = some (.lst ((Kp139.count pe (perK bs (bs.map (Kp138.boxTold s (nP ps) d th)))).map nV)) →
    H' r = some (.lst (((List.range 64).map fun f => fieldR (rowL bs (bs.map (Kp138.boxTold s (nP ps) d th)) f)).map nV)) → Q (.ref r) H'
theorem blk40c : BlkOk ["self", "picture", "told", "rows", "row"] (defScope (inClass (top 40) 2)) (lcSc (valOf (st (inClass (top 40) 2) 5))) [("row", 4)] := ⟨rfl, by decide +kernel, by decide +kernel, by decide +kernel, by decide +kernel⟩
section
variable {P : Program} {w : World} {K : PySem.W.Frag} {mg : Str → Option Value} {base : Heap} {A : Ad}
theorem scT2 : FnScope ["self", "picture", "told", "rows", "row"] ["self", "picture"] (defScope (inClass (top 40) 2)) := ⟨rfl, rfl, rfl, by decide +kernel, rfl, by decide +kernel, by decide +kernel⟩
theorem okT2 {f : Addr} {fd : FuncData} (F : Fun K "oc_sheet" "Tally.oc_sheet" (inClass (top 40) 2) f fd) (T : Tx K A) (M : Mg mg) (d28 : Def P w K mg base 6 "om_read" ["sheet", "picture"] (spRead K)) (d36 : Def P w K mg base 1 "told_by_field" ["sheet", "told"] (spByField K))
    (d37 : Def P w K mg base 1 "told_of_field" ["row"] (spField K)) (m3 : Mth P w K mg base 3 A.T "count_sheet" ["self", "told", "rows"] (spCountSheet K A)) : FnOk P w K mg base CX0 7 f fd ["self", "picture"] (spSheet K A) := by
  refine F.ok scT2 (fun vs H Q E h => ?_) (fun cdv Ar outer sh H vs Q E hr h => ?_)
  · obtain ⟨t, p, a, s, bs, ps, n, l, m, su, pe, Hs, rfl, _⟩ := h
    rfl
  · refine gen fun G' hG => ?_
    obtain ⟨t, p, a, s, bs, ps, n, l, m, su, pe, Hs, rfl, hT, S, sHs, nt, nl, nm, hl, hm, lsu, lpe, hlm, hP, hR, pic, hn, k1, k2, k3⟩ := h
    refine hG ?_
    refine ⟨_, pss_cons (ps_if (pt_cmpR op_eq (pe_fldK (K := K) rfl (pv 0) rfl) (pe_cst M.most (by rfl)) (nomark _)) (pss_one (ps_ret (pe_cst M.allCounted (by rfl)))) pss_nil) <|
      pss_cons (ps_set (i := 2) scT2.nd rfl (Or.inl rfl) (pe_def d28 hr (by rfl) (pa_cons (pe_fldK (K := K) rfl (pv 0) rfl) (pa_cons (pv 1) pa_nil)))) <|
      pss_cons (ps_if (pt_val (pe_callB (r := rIsInt K) cr_isInt (by rfl) M.isinstance PyProof.Rows.boot_isinstance (pa_cons (pv 2) (pa_cons (pe_bltn (v := .ty "int") (by rfl) M.int boot_int0 rfl) pa_nil)))) (pss_one (ps_ret (pv 2))) pss_nil) <|
      pss_cons (ps_set (i := 3) scT2.nd rfl (Or.inl rfl) (pe_def d36 hr (by rfl) (pa_cons (pe_fldK (K := K) rfl (pv 0) rfl) (pa_cons (pv 2) pa_nil)))) <|
      pss_cons (ps_expr (pe_mth (pv 0) m3 hr (pa_cons (pv 2) (pa_cons (pv 3) pa_nil)))) <|
      pss_one <| ps_ret <| pe_lc rfl scT2.nd (pi_listK (K := K) rfl (pv 3)) blk40c (by intros; exact pg_name (i := 4) scT2.nd rfl (Or.inl rfl)) (by intros; exact pts_nil) (by intros; exact pe_def d37 hr (by rfl) (pa_cons (pv 4) pa_nil)), ?_⟩
    have ok := ok_of hR
    refine gen fun G' hG => ?_
    obtain ⟨dx, hT0⟩ := id hT.ex
    refine hG ?_
    refine sg fun Ra hRa => ⟨_, rfl, rf (hT.counted T) ⟨rfl, _, rfl, rite (fun hc => ?_) (fun hc => hRa _ _ ?_)⟩⟩
    · exfalso
      have hc := of_decide_eq_true hc
      injection hc with hc
      omega
    refine sg fun Rb hRb => ⟨_, rfl, rf (hT.sheet T) ⟨_, rfl, a, p, s, bs, ps, rfl, S.mono sHs, hP, hR, pic, fun ef H1 s1 => hRb _ _ ?_, fun ef H1 s1 => hRb _ _ ?_, fun d th c ef H1 tl s1 ntl htl => hRb _ _ ?_⟩⟩
    · exact sg fun Rc hRc => ⟨_, rfl, .inl ⟨_, rfl, _, rfl, _, rfl, k1 ef H1 s1⟩⟩
    · exact sg fun Rc hRc => ⟨_, rfl, .inl ⟨_, rfl, _, rfl, _, rfl, k2 ef H1 s1⟩⟩
    · refine sg fun Rc hRc => ⟨_, rfl, .inr (.inl ⟨tl, _, rfl, htl, _, rfl, hRc _ _ ?_⟩)⟩
      have lts : (bs.map (Kp138.boxTold s (nP ps) d th)).length = bs.length := List.length_map _
      have key := k3 d th c ef
      generalize bs.map (Kp138.boxTold s (nP ps) d th) = ts at htl lts key
      have hT1 := hT.mono s1
      have sS1 := sHs.trans s1
      have hfl : ∀ b ∈ bs, b.field < 64 := fun b hb => by
        have := ok.box b hb
        have := ok.f2
        omega
      refine sg fun Rd hRd => ⟨_, rfl, rf (hT1.sheet T) ⟨_, rfl, a, tl, s, bs, ts, rfl, S.mono sS1, htl, lts, hfl, ok.b2, fun H2 rl as s2 nrl hrl has nas hrow => hRd _ _ ?_⟩⟩
      have s12 := s1.trans s2
      have hT2 := hT.mono s12
      refine gen fun G' hG => ?_
      obtain ⟨dx2, hT2'⟩ := id hT2.ex
      refine hG ?_
      have hl2 := s12 _ _ hl
      have hm2 := s12 _ _ hm
      -- what is only read from here on
      have out : ∀ {b : Addr}, H b = none → ¬ b ∈ [t, l, m] := fun {b} hb hm' => by
        simp only [List.mem_cons, List.not_mem_nil, or_false] at hm'
        rcases hm' with e | e | e
        · rw [e, hT0] at hb
          cases hb
        · rw [e, hl] at hb
          cases hb
        · rw [e, hm] at hb
          cases hb
      have nrlH : H rl = none := s1.free nrl
      have R : ReadAt K (mask [t, l, m] H2) a tl rl s bs ts as := by
        refine ⟨S.mono fun b o e => ?_, ?_, ?_, has, fun f c hc => ?_, lts, hfl⟩
        · rw [mask_out]
          · exact s2 _ _ (sS1 _ _ e)
          · intro hm'
            simp only [List.mem_cons, List.not_mem_nil, or_false] at hm'
            rcases hm' with q | q | q
            · rw [q, nt] at e
              cases e
            · rw [q, nl] at e
              cases e
            · rw [q, nm] at e
              cases e
        · rw [mask_out (out ntl)]
          exact s2 _ _ htl
        · rw [mask_out (out nrlH)]
          exact hrl
        · rw [mask_out (out (s1.free (nas c (List.mem_of_getElem? hc))))]
          exact hrow f c hc
      refine sg fun Re hRe => ⟨_, rfl, t, dx2, _, rfl, hT2', rfl, _, rfl, _, rfl, ?_⟩
      refine ⟨t, tl, rl, a, s, bs, n, l, m, su, pe, ts, as, mask [t, l, m] H2, rfl, hT2, R, mask_same, mask_in (by simp), mask_in (by simp), mask_in (by simp), hl2, hm2, lsu, lpe, hlm, fun H3 kp3 hT3 hl3 hm3 => hRe _ _ ?_⟩
      have hrl3 : H3 rl = some (.lst (as.map V.ref)) := kp3 _ _ hrl (out nrlH)
      refine ⟨_, rfl, rl, rfl, ⟨_, SqL.of hrl3⟩, fun D hD => ?_⟩
      refine lcm_list (xs := as.map V.ref) (ys := ((List.range 64).map fun f => fieldR (rowL bs ts f)).map nV) hD (by rw [List.length_map, List.length_map, List.length_map, List.length_range, has]) (by rw [List.length_map, has]; decide) (SqL.of hrl3) (fun x => rfl) ?_ ?_
      · intro j x y H4 Rr hx hy s4 kR
        refine gen fun G' hG => ?_
        obtain ⟨c, hc, rfl⟩ := refs_at hx
        refine hG ?_
        have hj : j < 64 := by
          have := (List.getElem?_eq_some_iff.mp hc).1
          omega
        have ey : y = nV (fieldR (rowL bs ts j)) := by
          rw [List.getElem?_map, List.getElem?_map, List.getElem?_range hj] at hy
          exact (Option.some.inj hy).symm
        subst ey
        have hc3 : H3 c = some (.lst ((rowL bs ts j).map nV)) := kp3 _ _ (hrow j c hc) (out (s1.free (nas c (List.mem_of_getElem? hc))))
        exact ⟨_, rfl, c, _, rfl, SqL.of (s4 _ _ hc3), kR H4 (Same.refl _)⟩
      · intro H4 s4 hD4
        refine key H4 D ?_ ?_ (hT3.mono s4) (s4 _ _ hl3) (s4 _ _ hm3) hD4
        · exact fun b o e hb => s4 _ _ (kp3 b o (s12 _ _ e) hb)
        · cases e : H D with
          | none => rfl
          | some o =>
            exfalso
            by_cases hm' : D ∈ [t, l, m]
            · simp only [List.mem_cons, List.not_mem_nil, or_false] at hm'
              refine gen fun G' hG => ?_
              obtain ⟨dx3, hT3'⟩ := id hT3.ex
              refine hG ?_
              rcases hm' with q | q | q
              · rw [q, hT3'] at hD
                cases hD
              · rw [q, hl3] at hD
                cases hD
              · rw [q, hm3] at hD
                cases hD
            · rw [kp3 D o (s12 _ _ e) hm'] at hD
              cases hD
end
end My
end
section
set_option Elab.async false
set_option linter.all false
set_option maxRecDepth 100000
set_option maxHeartbeats 4000000
namespace My
open PySem PySem.Spec PyProof.Rows L2
theorem lc_it {J : It} {n : Nat} {g : TG} {tt : TT} {te : TE} {vs : List Nat} {σ : St} {H1 : Hp} {D : Addr} {Qd : Hp → Prop} (Pv : Nat → Hp → Prop) (h0 : Pv 0 (upd H1 D (.lst []))) (hgo : ∀ i H, i < n → Pv i H → J.go i H) (hst : ∀ H, Pv n H → J.stop n H)
    (hs : ∀ i H x H', i < n → Pv i H → J.yld i H x H' → g x (wipe σ vs) H' fun σ2 H2 => wipe σ2 vs = wipe σ vs ∧ tt σ2 H2 fun b H3 =>
      if b = true then te σ2 H3 fun y H4 => ∃ acc, H4 D = some (.lst acc) ∧ acc.length < sizeLine ∧ Pv (i + 1) (upd H4 D (.lst (acc ++ [y]))) else Pv (i + 1) H3) (hd : ∀ H, Pv n H → Qd H) :
    ∃ W : Nat → Nat → Hp → Prop, (∃ m, W 0 m (upd H1 D (.lst []))) ∧ ∀ i m H, W i m H →
      (J.stop i H ∧ Qd H) ∨ (J.go i H ∧ ∃ Nx : Hp → Prop, (∀ H', Nx H' → ∃ m', m' < m ∧ W (i + 1) m' H') ∧ ∀ x H', J.yld i H x H' → g x (wipe σ vs) H' fun σ2 H2 => wipe σ2 vs = wipe σ vs ∧ tt σ2 H2 fun b H3 =>
        if b = true then te σ2 H3 fun y H4 => ∃ acc, H4 D = some (.lst acc) ∧ acc.length < sizeLine ∧ Nx (upd H4 D (.lst (acc ++ [y]))) else Nx H3) := by
  refine ⟨fun i m H => m = n - i ∧ i ≤ n ∧ Pv i H, ⟨n, by simp, Nat.zero_le _, h0⟩, ?_⟩
  rintro i m H ⟨rfl, hi, p⟩
  by_cases hlt : i < n
  · exact .inr ⟨hgo i H hlt p, Pv (i + 1), fun H' p' => ⟨n - (i + 1), by omega, rfl, hlt, p'⟩, fun x H' y => hs i H x H' hlt p y⟩
  · have e : i = n := by omega
    subst e
    exact .inl ⟨hst H p, hd H p⟩
theorem rgc {len n c : Nat} (hc : 1 ≤ c) (hc2 : c ≤ 6) (h : len = c * n) (hl : len ≤ 100000) : RgC 0 (len : Int) (c : Int) n := by
  have e : Builtin.Range.rangeSize 0 (len : Int) (c : Int) = (n : Int) := by
    rw [PyProof.Rows.rangeSize_pos (by omega) (by omega), h]
    have e1 : ((c * n : Nat) : Int) + (c : Int) - 1 = ((c : Int) - 1) + (n : Int) * (c : Int) := by
      push_cast
      rw [Int.mul_comm]
      omega
    rw [e1, Int.add_mul_ediv_right _ _ (by omega), Int.ediv_eq_zero_of_lt (by omega) (by omega), Int.zero_add]
  have hn : n ≤ len := by
    rw [h]
    exact Nat.le_mul_of_pos_left n (by omega)
  refine ⟨by omega, by omega, ?_, e⟩
  unfold Builtin.Range.small
  rw [e]
  simp only [Builtin.Range.rangeFitsLong, Bool.and_eq_true, Bool.or_eq_true, decide_eq_true_eq, beq_iff_eq, show (c : Int) > 0 by omega, if_true]
  omega
/-! ### the classes' makers -/
def cf (x y z : Int) : List (Str × V) := [("x", .int x), ("y", .int y), ("zero", .int z)]
def bf (x y w h f z : Int) : List (Str × V) := [("x", .int x), ("y", .int y), ("w", .int w), ("h", .int h), ("field", .int f), ("zero", .int z)]
def sf (v1 v2 v3 v4 v5 v6 v7 v8 v9 v10 v11 : V) : List (Str × V) := [("width", v1), ("height", v2), ("shift", v3), ("side", v4), ("dust", v5), ("noise", v6), ("fill", v7), ("blank", v8), ("fields", v9), ("corners", v10), ("boxes", v11)]
def uf (c : Addr) (k : Nat) : List (Str × V) := [("numbers", .ref c), ("place", .int (k : Int))]
def spCInit (A : Ad) : Sp := fun vs H Q _ => ∃ (p dx : Addr) (x y z : Int), vs = [.ref p, .int x, .int y, .int z] ∧ H p = some (.ins A.C dx []) ∧ ∀ H' : Hp, Keep [p] H H' → H' p = some (.ins A.C dx (cf x y z)) → Q .non H'
def spBInit (A : Ad) : Sp := fun vs H Q _ => ∃ (p dx : Addr) (x y w h f z : Int), vs = [.ref p, .int x, .int y, .int w, .int h, .int f, .int z] ∧ H p = some (.ins A.B dx []) ∧ ∀ H' : Hp, Keep [p] H H' → H' p = some (.ins A.B dx (bf x y w h f z)) → Q .non H'
def spSInit (A : Ad) : Sp := fun vs H Q _ => ∃ (p dx : Addr) (v1 v2 v3 v4 v5 v6 v7 v8 v9 v10 v11 : V), vs = [.ref p, v1, v2, v3, v4, v5, v6, v7, v8, v9, v10, v11] ∧ H p = some (.ins A.S dx []) ∧ ∀ H' : Hp, Keep [p] H H' → H' p = some (.ins A.S dx (sf v1 v2 v3 v4 v5 v6 v7 v8 v9 v10 v11)) → Q .non H'
def spUInit (A : Ad) : Sp := fun vs H Q _ => ∃ (p dx c : Addr), vs = [.ref p, .ref c] ∧ H p = some (.ins A.U dx []) ∧ ∀ H' : Hp, Keep [p] H H' → H' p = some (.ins A.U dx (uf c 0)) → Q .non H'
structure CursorAt (A : Ad) (H : Hp) (u c : Addr) (k : Nat) : Prop where
  ex : ∃ dx, H u = some (.ins A.U dx (uf c k))
/-- the numbers of the calls, which nothing changes -/
structure NumsAt (K : PySem.W.Frag) (Hc H : Hp) (c u : Addr) (ns : List Int) : Prop where
  sq : SqL K Hc c (ns.map V.int)
  same : Same Hc H
  u : Hc u = none
def spEnd (K : PySem.W.Frag) (A : Ad) : Sp := fun vs H Q _ => ∃ (u c : Addr) (k : Nat) (ns : List Int) (Hc : Hp), vs = [.ref u] ∧ CursorAt A H u c k ∧ NumsAt K Hc H c u ns ∧ Q (.bl (decide ((ns.length : Int) ≤ k))) H
def spTake (K : PySem.W.Frag) (A : Ad) : Sp := fun vs H Q _ => ∃ (u c : Addr) (k : Nat) (ns : List Int) (z : Int) (Hc : Hp), vs = [.ref u] ∧ CursorAt A H u c k ∧ NumsAt K Hc H c u ns ∧ ns[k]? = some z ∧ ∀ H' : Hp, Keep [u] H H' → CursorAt A H' u c (k + 1) → Q (.int z) H'
def spSome (K : PySem.W.Frag) (A : Ad) : Sp := fun vs H Q _ => ∃ (u c : Addr) (k sz : Nat) (ns : List Int) (Hc : Hp), vs = [.ref u, .int (sz : Int)] ∧ CursorAt A H u c k ∧ NumsAt K Hc H c u ns ∧
  ∀ (H' : Hp) (r : Addr), Keep [u] H H' → H r = none → H' r = some (.lst (((ns.drop k).take sz).map V.int)) → CursorAt A H' u c (k + sz) → Q (.ref r) H'
def spRow (K : PySem.W.Frag) (A : Ad) : Sp := fun vs H Q _ => ∃ (u c : Addr) (k sz : Nat) (ns : List Int) (Hc : Hp), vs = [.ref u] ∧ CursorAt A H u c k ∧ NumsAt K Hc H c u ns ∧ ns[k]? = some (sz : Int) ∧
  ∀ (H' : Hp) (r : Addr), Keep [u] H H' → H r = none → H' r = some (.lst (((ns.drop (k + 1)).take sz).map V.int)) → CursorAt A H' u c (k + 1 + sz) → Q (.ref r) H'
theorem keep1 {H : Hp} {p : Addr} {o o' : HO} : Keep [p] H (upd H p o) := fun b q e hb => by
  rw [upd_ne (fun z => hb (by rw [z]; simp))]
  exact e
theorem Keep.trans {ex : List Addr} {H H1 H2 : Hp} (a : Keep ex H H1) (b : Keep ex H1 H2) : Keep ex H H2 := fun c o e h => b c o (a c o e h) h
theorem Keep.of {ex : List Addr} {H H1 : Hp} (a : Same H H1) : Keep ex H H1 := fun c o e _ => a c o e
theorem Keep.same {ex : List Addr} {Hs H H1 : Hp} (a : Keep ex H H1) (s : Same Hs H) (h : ∀ b ∈ ex, Hs b = none) : Same Hs H1 := fun c o e => a c o (s c o e) fun hm => by
  rw [h c hm] at e
  cases e
section
variable {P : Program} {w : World} {K : PySem.W.Frag} {mg : Str → Option Value} {base : Heap} {A : Ad}
theorem scC0 : FnScope ["self", "x", "y", "zero"] ["self", "x", "y", "zero"] (defScope (inClass (top 2) 0)) := ⟨rfl, rfl, rfl, by decide +kernel, rfl, by decide +kernel, by decide +kernel⟩
theorem okC0 {f : Addr} {fd : FuncData} (F : Fun K "__init__" "Corner.__init__" (inClass (top 2) 0) f fd) (T : Tx K A) : FnOk P w K mg base CX0 1 f fd ["self", "x", "y", "zero"] (spCInit A) := by
  refine F.ok scC0 (fun vs H Q E h => ?_) (fun cdv Ar outer sh H vs Q E hr h => ?_)
  · obtain ⟨p, dx, x, y, z, rfl, _⟩ := h
    rfl
  · refine gen fun G' hG => ?_
    obtain ⟨p, dx, x, y, z, rfl, hp, k⟩ := h
    refine hG ?_
    refine ⟨_, pss_cons (ps_fldK (K := K) rfl (pv 0) (pv 1) rfl) <| pss_cons (ps_fldK (K := K) rfl (pv 0) (pv 2) rfl) <| pss_one (ps_fldK (K := K) rfl (pv 0) (pv 3) rfl), ?_⟩
    refine ⟨_, rfl, _, rfl, p, A.C, dx, _, rfl, hp, T.clC, T.cx, by show 0 < 1000; decide, ?_⟩
    refine ⟨_, rfl, _, rfl, p, A.C, dx, _, rfl, upd_same, T.clC, T.cy, by show 1 < 1000; decide, ?_⟩
    refine ⟨_, rfl, _, rfl, p, A.C, dx, _, rfl, upd_same, T.clC, T.cz, by show 2 < 1000; decide, ?_⟩
    exact k _ ((keep1 (o' := .lst [])).trans ((keep1 (o' := .lst [])).trans (keep1 (o' := .lst [])))) upd_same
theorem scB0 : FnScope ["self", "x", "y", "w", "h", "field", "zero"] ["self", "x", "y", "w", "h", "field", "zero"] (defScope (inClass (top 3) 0)) := ⟨rfl, rfl, rfl, by decide +kernel, rfl, by decide +kernel, by decide +kernel⟩
theorem okB0 {f : Addr} {fd : FuncData} (F : Fun K "__init__" "Box.__init__" (inClass (top 3) 0) f fd) (T : Tx K A) : FnOk P w K mg base CX0 1 f fd ["self", "x", "y", "w", "h", "field", "zero"] (spBInit A) := by
  refine F.ok scB0 (fun vs H Q E h => ?_) (fun cdv Ar outer sh H vs Q E hr h => ?_)
  · obtain ⟨p, dx, x, y, w, h, f, z, rfl, _⟩ := h
    rfl
  · refine gen fun G' hG => ?_
    obtain ⟨p, dx, x, y, w, h, f, z, rfl, hp, k⟩ := h
    refine hG ?_
    refine ⟨_, pss_cons (ps_fldK (K := K) rfl (pv 0) (pv 1) rfl) <| pss_cons (ps_fldK (K := K) rfl (pv 0) (pv 2) rfl) <| pss_cons (ps_fldK (K := K) rfl (pv 0) (pv 3) rfl) <| pss_cons (ps_fldK (K := K) rfl (pv 0) (pv 4) rfl) <| pss_cons (ps_fldK (K := K) rfl (pv 0) (pv 5) rfl) <| pss_one (ps_fldK (K := K) rfl (pv 0) (pv 6) rfl), ?_⟩
    refine ⟨_, rfl, _, rfl, p, A.B, dx, _, rfl, hp, T.clB, T.bx, by show 0 < 1000; decide, ?_⟩
    refine ⟨_, rfl, _, rfl, p, A.B, dx, _, rfl, upd_same, T.clB, T.by', by show 1 < 1000; decide, ?_⟩
    refine ⟨_, rfl, _, rfl, p, A.B, dx, _, rfl, upd_same, T.clB, T.bw, by show 2 < 1000; decide, ?_⟩
    refine ⟨_, rfl, _, rfl, p, A.B, dx, _, rfl, upd_same, T.clB, T.bh, by show 3 < 1000; decide, ?_⟩
    refine ⟨_, rfl, _, rfl, p, A.B, dx, _, rfl, upd_same, T.clB, T.bf, by show 4 < 1000; decide, ?_⟩
    refine ⟨_, rfl, _, rfl, p, A.B, dx, _, rfl, upd_same, T.clB, T.bz, by show 5 < 1000; decide, ?_⟩
    exact k _ ((keep1 (o' := .lst [])).trans ((keep1 (o' := .lst [])).trans ((keep1 (o' := .lst [])).trans ((keep1 (o' := .lst [])).trans ((keep1 (o' := .lst [])).trans (keep1 (o' := .lst []))))))) upd_same
theorem scS0 : FnScope ["self", "width", "height", "shift", "side", "dust", "noise", "fill", "blank", "fields", "corners", "boxes"] ["self", "width", "height", "shift", "side", "dust", "noise", "fill", "blank", "fields", "corners", "boxes"] (defScope (inClass (top 4) 0)) := ⟨rfl, rfl, rfl, by decide +kernel, rfl, by decide +kernel, by decide +kernel⟩
theorem okS0 {f : Addr} {fd : FuncData} (F : Fun K "__init__" "Sheet.__init__" (inClass (top 4) 0) f fd) (T : Tx K A) : FnOk P w K mg base CX0 1 f fd ["self", "width", "height", "shift", "side", "dust", "noise", "fill", "blank", "fields", "corners", "boxes"] (spSInit A) := by
  refine F.ok scS0 (fun vs H Q E h => ?_) (fun cdv Ar outer sh H vs Q E hr h => ?_)
  · obtain ⟨p, dx, v1, v2, v3, v4, v5, v6, v7, v8, v9, v10, v11, rfl, _⟩ := h
    rfl
  · refine gen fun G' hG => ?_
    obtain ⟨p, dx, v1, v2, v3, v4, v5, v6, v7, v8, v9, v10, v11, rfl, hp, k⟩ := h
    refine hG ?_
    refine ⟨_, pss_cons (ps_fldK (K := K) rfl (pv 0) (pv 1) rfl) <| pss_cons (ps_fldK (K := K) rfl (pv 0) (pv 2) rfl) <| pss_cons (ps_fldK (K := K) rfl (pv 0) (pv 3) rfl) <| pss_cons (ps_fldK (K := K) rfl (pv 0) (pv 4) rfl) <| pss_cons (ps_fldK (K := K) rfl (pv 0) (pv 5) rfl) <| pss_cons (ps_fldK (K := K) rfl (pv 0) (pv 6) rfl) <| pss_cons (ps_fldK (K := K) rfl (pv 0) (pv 7) rfl) <| pss_cons (ps_fldK (K := K) rfl (pv 0) (pv 8) rfl) <| pss_cons (ps_fldK (K := K) rfl (pv 0) (pv 9) rfl) <| pss_cons (ps_fldK (K := K) rfl (pv 0) (pv 10) rfl) <| pss_one (ps_fldK (K := K) rfl (pv 0) (pv 11) rfl), ?_⟩
    refine ⟨_, rfl, _, rfl, p, A.S, dx, _, rfl, hp, T.clS, T.s1, by show 0 < 1000; decide, ?_⟩
    refine ⟨_, rfl, _, rfl, p, A.S, dx, _, rfl, upd_same, T.clS, T.s2, by show 1 < 1000; decide, ?_⟩
    refine ⟨_, rfl, _, rfl, p, A.S, dx, _, rfl, upd_same, T.clS, T.s3, by show 2 < 1000; decide, ?_⟩
    refine ⟨_, rfl, _, rfl, p, A.S, dx, _, rfl, upd_same, T.clS, T.s4, by show 3 < 1000; decide, ?_⟩
    refine ⟨_, rfl, _, rfl, p, A.S, dx, _, rfl, upd_same, T.clS, T.s5, by show 4 < 1000; decide, ?_⟩
    refine ⟨_, rfl, _, rfl, p, A.S, dx, _, rfl, upd_same, T.clS, T.s6, by show 5 < 1000; decide, ?_⟩
    refine ⟨_, rfl, _, rfl, p, A.S, dx, _, rfl, upd_same, T.clS, T.s7, by show 6 < 1000; decide, ?_⟩
    refine ⟨_, rfl, _, rfl, p, A.S, dx, _, rfl, upd_same, T.clS, T.s8, by show 7 < 1000; decide, ?_⟩
    refine ⟨_, rfl, _, rfl, p, A.S, dx, _, rfl, upd_same, T.clS, T.s9, by show 8 < 1000; decide, ?_⟩
    refine ⟨_, rfl, _, rfl, p, A.S, dx, _, rfl, upd_same, T.clS, T.s10, by show 9 < 1000; decide, ?_⟩
    refine ⟨_, rfl, _, rfl, p, A.S, dx, _, rfl, upd_same, T.clS, T.s11, by show 10 < 1000; decide, ?_⟩
    have k1 : ∀ {H : Hp} {o : HO}, Keep [p] H (upd H p o) := keep1 (o' := .lst [])
    exact k _ (k1.trans <| k1.trans <| k1.trans <| k1.trans <| k1.trans <| k1.trans <| k1.trans <| k1.trans <| k1.trans <| k1.trans k1) upd_same
theorem scU0 : FnScope ["self", "numbers"] ["self", "numbers"] (defScope (inClass (top 46) 0)) := ⟨rfl, rfl, rfl, by decide +kernel, rfl, by decide +kernel, by decide +kernel⟩
theorem okU0 {f : Addr} {fd : FuncData} (F : Fun K "__init__" "Cursor.__init__" (inClass (top 46) 0) f fd) (T : Tx K A) : FnOk P w K mg base CX0 1 f fd ["self", "numbers"] (spUInit A) := by
  refine F.ok scU0 (fun vs H Q E h => ?_) (fun cdv Ar outer sh H vs Q E hr h => ?_)
  · obtain ⟨p, dx, c, rfl, _⟩ := h
    rfl
  · refine gen fun G' hG => ?_
    obtain ⟨p, dx, c, rfl, hp, k⟩ := h
    refine hG ?_
    refine ⟨_, pss_cons (ps_fldK (K := K) rfl (pv 0) (pv 1) rfl) <| pss_one (ps_fldK (K := K) rfl (pv 0) pe_int rfl), ?_⟩
    refine ⟨_, rfl, _, rfl, p, A.U, dx, _, rfl, hp, T.clU, T.u1, by show 0 < 1000; decide, ?_⟩
    refine ⟨_, rfl, p, A.U, dx, _, rfl, upd_same, T.clU, T.u2, by show 1 < 1000; decide, ?_⟩
    exact k _ ((keep1 (o' := .lst [])).trans (keep1 (o' := .lst []))) upd_same
theorem CursorAt.nums {H : Hp} {u c : Addr} {k : Nat} (h : CursorAt A H u c k) (T : Tx K A) : HasF K H u "numbers" (.ref c) := let ⟨dx, e⟩ := h.ex; ⟨A.U, dx, _, e, T.clU, T.u1, rfl⟩
theorem CursorAt.place {H : Hp} {u c : Addr} {k : Nat} (h : CursorAt A H u c k) (T : Tx K A) : HasF K H u "place" (.int k) := let ⟨dx, e⟩ := h.ex; ⟨A.U, dx, _, e, T.clU, T.u2, rfl⟩
theorem scU1 : FnScope ["self"] ["self"] (defScope (inClass (top 46) 1)) := ⟨rfl, rfl, rfl, by decide +kernel, rfl, by decide +kernel, by decide +kernel⟩
theorem okU1 {f : Addr} {fd : FuncData} (F : Fun K "at_end" "Cursor.at_end" (inClass (top 46) 1) f fd) (T : Tx K A) (M : Mg mg) : FnOk P w K mg base CX0 1 f fd ["self"] (spEnd K A) := by
  refine F.ok scU1 (fun vs H Q E h => ?_) (fun cdv Ar outer sh H vs Q E hr h => ?_)
  · obtain ⟨u, c, k, ns, Hc, rfl, _⟩ := h
    rfl
  · refine gen fun G' hG => ?_
    obtain ⟨u, c, k, ns, Hc, rfl, U, N, kk⟩ := h
    refine hG ?_
    refine ⟨_, pss_one <| ps_ret <| pe_cmpR op_ge (pe_fldK (K := K) rfl (pv 0) rfl) (pe_callB (call_lenK (K := K) rfl) (by rfl) M.len PySem.boot_len (pa_cons (pe_fldK (K := K) rfl (pv 0) rfl) pa_nil)) (nomark _), ?_⟩
    refine ⟨_, rfl, rf (U.place T) ⟨_, rfl, rf (U.nums T) ⟨c, _, rfl, .inl (N.same.seq N.sq), _, _, rfl, rfl, ?_⟩⟩⟩
    rw [List.length_map]
    exact kk
theorem scU2 : FnScope ["self", "taken"] ["self"] (defScope (inClass (top 46) 2)) := ⟨rfl, rfl, rfl, by decide +kernel, rfl, by decide +kernel, by decide +kernel⟩
theorem okU2 {f : Addr} {fd : FuncData} (F : Fun K "take" "Cursor.take" (inClass (top 46) 2) f fd) (T : Tx K A) : FnOk P w K mg base CX0 1 f fd ["self"] (spTake K A) := by
  refine F.ok scU2 (fun vs H Q E h => ?_) (fun cdv Ar outer sh H vs Q E hr h => ?_)
  · obtain ⟨u, c, k, ns, z, Hc, rfl, _⟩ := h
    rfl
  · refine gen fun G' hG => ?_
    obtain ⟨u, c, k, ns, z, Hc, rfl, U, N, hz, kk⟩ := h
    refine hG ?_
    refine ⟨_, pss_cons (ps_set (i := 1) scU2.nd rfl (Or.inl rfl) (pe_ix (r := rIxL K) ix_list (pe_fldK (K := K) rfl (pv 0) rfl) (pe_fldK (K := K) rfl (pv 0) rfl) (fun _ _ => rfl))) <|
      pss_cons (ps_fldaugK (K := K) rfl (pv 0) pe_int in_add) <| pss_one (ps_ret (pv 1)), ?_⟩
    refine gen fun G' hG => ?_
    obtain ⟨dx, hU⟩ := id U.ex
    refine hG ?_
    refine ⟨_, rfl, rf (U.nums T) ⟨_, rfl, rf (U.place T) ⟨c, _, _, _, rfl, rfl, N.same.seq N.sq, at_of (j := k) (v := .int z) rfl (by rw [List.getElem?_map, hz]; rfl), ?_⟩⟩⟩
    refine ⟨_, rfl, u, A.U, dx, _, _, rfl, hU, T.clU, T.u2, rfl, _, _, rfl, rfl, dx, _, hU, by show 2 < 1000; decide, ?_⟩
    exact ⟨_, rfl, kk _ (keep1 (o' := .lst [])) ⟨dx, upd_same⟩⟩
theorem scU3 : FnScope ["self", "size", "taken"] ["self", "size"] (defScope (inClass (top 46) 3)) := ⟨rfl, rfl, rfl, by decide +kernel, rfl, by decide +kernel, by decide +kernel⟩
theorem okU3 {f : Addr} {fd : FuncData} (F : Fun K "take_several" "Cursor.take_several" (inClass (top 46) 3) f fd) (T : Tx K A) : FnOk P w K mg base CX0 1 f fd ["self", "size"] (spSome K A) := by
  refine F.ok scU3 (fun vs H Q E h => ?_) (fun cdv Ar outer sh H vs Q E hr h => ?_)
  · obtain ⟨u, c, k, sz, ns, Hc, rfl, _⟩ := h
    rfl
  · refine gen fun G' hG => ?_
    obtain ⟨u, c, k, sz, ns, Hc, rfl, U, N, kk⟩ := h
    refine hG ?_
    refine ⟨_, pss_cons (ps_set (i := 2) scU3.nd rfl (Or.inl rfl) (pe_slice (r := rSlL K) sl_list (pe_fldK (K := K) rfl (pv 0) rfl) (po_some (pe_fldK (K := K) rfl (pv 0) rfl)) (po_some (pe_op op_add (pe_fldK (K := K) rfl (pv 0) rfl) (pv 1))))) <|
      pss_cons (ps_fldaugK (K := K) rfl (pv 0) (pv 1) in_add) <| pss_one (ps_ret (pv 2)), ?_⟩
    refine gen fun G' hG => ?_
    obtain ⟨dx, hU⟩ := id U.ex
    refine hG ?_
    refine ⟨_, rfl, rf (U.nums T) ⟨_, rfl, rf (U.place T) ⟨_, rfl, _, rfl, rf (U.place T) ⟨_, rfl, _, _, rfl, rfl, _, rfl, c, _, rfl, N.same.seq N.sq, fun r hr' => ?_⟩⟩⟩⟩
    rw [cut_nat]
    have hur : u ≠ r := ne_of_none hU hr'
    refine ⟨_, rfl, u, A.U, dx, _, _, rfl, by rw [upd_ne hur]; exact hU, T.clU, T.u2, rfl, _, rfl, _, _, rfl, rfl, dx, _, by rw [upd_ne hur]; exact hU, by show 2 < 1000; decide, ?_⟩
    refine ⟨_, rfl, kk _ r ?_ hr' ?_ ⟨dx, upd_same⟩⟩
    · exact (Keep.of ((Same.refl H).put hr')).trans (keep1 (o' := .lst []))
    · rw [upd_ne (Ne.symm hur), upd_same]
theorem scU4 : FnScope ["self"] ["self"] (defScope (inClass (top 46) 4)) := ⟨rfl, rfl, rfl, by decide +kernel, rfl, by decide +kernel, by decide +kernel⟩
theorem okU4 {f : Addr} {fd : FuncData} (F : Fun K "take_row" "Cursor.take_row" (inClass (top 46) 4) f fd) (T : Tx K A) (m2 : Mth P w K mg base 1 A.U "take" ["self"] (spTake K A)) (m3 : Mth P w K mg base 1 A.U "take_several" ["self", "size"] (spSome K A)) : FnOk P w K mg base CX0 2 f fd ["self"] (spRow K A) := by
  refine F.ok scU4 (fun vs H Q E h => ?_) (fun cdv Ar outer sh H vs Q E hr h => ?_)
  · obtain ⟨u, c, k, sz, ns, Hc, rfl, _⟩ := h
    rfl
  · refine gen fun G' hG => ?_
    obtain ⟨u, c, k, sz, ns, Hc, rfl, U, N, hz, kk⟩ := h
    refine hG ?_
    refine ⟨_, pss_one <| ps_ret <| pe_mth (pv 0) m3 hr (pa_cons (pe_mth0 (pv 0) m2 hr) pa_nil), ?_⟩
    refine gen fun G' hG => ?_
    obtain ⟨dx, hU⟩ := id U.ex
    refine hG ?_
    refine ⟨_, rfl, u, dx, _, rfl, hU, rfl, _, rfl, u, dx, _, rfl, hU, rfl, u, c, k, ns, _, Hc, rfl, U, N, hz, fun H1 kp1 U1 => ?_⟩
    have N1 : NumsAt K Hc H1 c u ns := ⟨N.sq, kp1.same N.same (fun b hb => (List.mem_singleton.mp hb).symm ▸ N.u), N.u⟩
    exact ⟨u, c, k + 1, sz, ns, Hc, rfl, U1, N1, fun H2 r kp2 nr hr' U2 => kk H2 r (kp1.trans kp2) (by
      cases e : H r with
      | none => rfl
      | some o =>
        exfalso
        by_cases hm : r ∈ [u]
        · have e2 : r = u := by simpa using hm
          refine gen fun G' hG => ?_
          obtain ⟨dx1, hU1⟩ := U1.ex
          refine hG ?_
          rw [e2, hU1] at nr
          cases nr
        · rw [kp1 r o e hm] at nr
          cases nr) hr' U2⟩
end
end My
end
section
set_option Elab.async false
set_option linter.all false
set_option maxRecDepth 100000
set_option maxHeartbeats 4000000
namespace My
open PySem PySem.Spec PyProof.Rows L2
def ancs (zs : List Int) (n : Nat) : List Kp138.Anchor := (List.range n).map fun i => ⟨(zs.getD (3 * i) 0).toNat, (zs.getD (3 * i + 1) 0).toNat, (zs.getD (3 * i + 2) 0).toNat⟩
def boxs (zs : List Int) (n : Nat) : List Kp138.Box := (List.range n).map fun i => ⟨(zs.getD (6 * i) 0).toNat, (zs.getD (6 * i + 1) 0).toNat, (zs.getD (6 * i + 2) 0).toNat, (zs.getD (6 * i + 3) 0).toNat, (zs.getD (6 * i + 4) 0).toNat, (zs.getD (6 * i + 5) 0).toNat⟩
def spCorners (K : PySem.W.Frag) : Sp := fun vs H Q _ => ∃ (r : Addr) (zs : List Int) (n : Nat), vs = [.ref r] ∧ SqL K H r (zs.map V.int) ∧ zs.length = 3 * n ∧ zs.length ≤ 100000 ∧ (∀ z ∈ zs, 0 ≤ z) ∧
  ∀ (H' : Hp) (l : Addr) (as : List Addr), Same H H' → H l = none → H' l = some (.lst (as.map V.ref)) → (∀ c ∈ as, H c = none) → All2 (CornerAt K H') as (ancs zs n) → Q (.ref l) H'
def spBoxes (K : PySem.W.Frag) : Sp := fun vs H Q _ => ∃ (r : Addr) (zs : List Int) (n : Nat), vs = [.ref r] ∧ SqL K H r (zs.map V.int) ∧ zs.length = 6 * n ∧ zs.length ≤ 100000 ∧ (∀ z ∈ zs, 0 ≤ z) ∧
  ∀ (H' : Hp) (l : Addr) (as : List Addr), Same H H' → H l = none → H' l = some (.lst (as.map V.ref)) → (∀ c ∈ as, H c = none) → All2 (BoxAt K H') as (boxs zs n) → Q (.ref l) H'
theorem blk47 : BlkOk ["row", "k"] (defScope (top 47)) (lcSc (valOf (st (top 47) 0))) [("k", 1)] := ⟨rfl, by decide +kernel, by decide +kernel, by decide +kernel, by decide +kernel⟩
theorem blk48 : BlkOk ["row", "k"] (defScope (top 48)) (lcSc (valOf (st (top 48) 0))) [("k", 1)] := ⟨rfl, by decide +kernel, by decide +kernel, by decide +kernel, by decide +kernel⟩
theorem item_of {zs : List Int} (h0 : ∀ z ∈ zs, 0 ≤ z) {j : Nat} (hj : j < zs.length) : (zs.map V.int)[j]? = some (.int ((zs.getD j 0).toNat : Int)) := by
  rw [List.getElem?_map, List.getElem?_eq_getElem hj, List.getD_eq_getElem?_getD, List.getElem?_eq_getElem hj]
  have := h0 _ (List.getElem_mem hj)
  show some (V.int zs[j]) = some (V.int ((zs[j].toNat : Nat) : Int))
  rw [Int.toNat_of_nonneg this]
theorem at3 {zs : List Int} {n i : Nat} (h0 : ∀ z ∈ zs, 0 ≤ z) (hl : zs.length = 3 * n) (hi : i < n) (c : Nat) (hc : c < 3) : atI (zs.map V.int) (0 + (i : Int) * 3 + (c : Int)) = some (.int ((zs.getD (3 * i + c) 0).toNat : Int)) :=
  at_of (j := 3 * i + c) (by omega) (item_of h0 (by omega))
theorem at6 {zs : List Int} {n i : Nat} (h0 : ∀ z ∈ zs, 0 ≤ z) (hl : zs.length = 6 * n) (hi : i < n) (c : Nat) (hc : c < 6) : atI (zs.map V.int) (0 + (i : Int) * 6 + (c : Int)) = some (.int ((zs.getD (6 * i + c) 0).toNat : Int)) :=
  at_of (j := 6 * i + c) (by omega) (item_of h0 (by omega))
theorem made_same {H H1 : Hp} {x dx C : Addr} (nx : H x = none) (nd : H dx = none) (k : Keep [x] (upd (upd H dx (.own x)) x (.ins C dx [])) H1) : Same H H1 := fun b o e =>
  k b o (by rw [upd_ne (ne_of_none e nx), upd_ne (ne_of_none e nd)]; exact e) (by simpa using ne_of_none e nx)
theorem All2.snoc {α : Type} {R : Addr → α → Prop} {as : List Addr} {xs : List α} {a : Addr} {x : α} (h : All2 R as xs) (q : R a x) : All2 R (as ++ [a]) (xs ++ [x]) := by
  refine ⟨by rw [List.length_append, List.length_append, h.1]; rfl, fun i b y e1 e2 => ?_⟩
  by_cases hi : i < as.length
  · rw [List.getElem?_append_left hi] at e1
    rw [List.getElem?_append_left (by rw [← h.1]; exact hi)] at e2
    exact h.2 i b y e1 e2
  · have hi2 : i = as.length := by
      have := (List.getElem?_eq_some_iff.mp e1).1
      rw [List.length_append, List.length_singleton] at this
      omega
    subst hi2
    rw [List.getElem?_concat_length] at e1
    rw [h.1, List.getElem?_concat_length] at e2
    cases e1
    cases e2
    exact q
section
variable {P : Program} {w : World} {K : PySem.W.Frag} {mg : Str → Option Value} {base : Heap} {A : Ad}
theorem sc47 : FnScope ["row", "k"] ["row"] (defScope (top 47)) := ⟨rfl, rfl, rfl, by decide +kernel, rfl, by decide +kernel, by decide +kernel⟩
theorem ok47 {f : Addr} {fd : FuncData} (F : Fun K "corners_from" "corners_from" (top 47) f fd) (T : Tx K A) (M : Mg mg) (mC : Mak P w K mg base 1 "Corner" A.C ["self", "x", "y", "zero"] (spCInit A)) : FnOk P w K mg base CX0 3 f fd ["row"] (spCorners K) := by
  refine F.ok sc47 (fun vs H Q E h => ?_) (fun cdv Ar outer sh H vs Q E hr h => ?_)
  · obtain ⟨r, zs, n, rfl, _⟩ := h
    rfl
  · refine gen fun G' hG => ?_
    obtain ⟨r, zs, n, rfl, hR, hlen, hle, h0, kk⟩ := h
    refine hG ?_
    refine ⟨_, pss_one <| ps_ret <| pe_lc rfl sc47.nd (pi_range3 (by rfl) M.range (pa_cons pe_int (pa_cons (pe_callB (call_lenK (K := K) rfl) (by rfl) M.len PySem.boot_len (pa_cons (pv 0) pa_nil)) (pa_cons pe_int pa_nil)))) blk47 (by intros; exact pg_name (i := 1) sc47.nd rfl (Or.inl rfl)) (by intros; exact pts_nil)
      (by intros; exact pe_mak mC hr (by rfl) (pa_cons (pe_ix (r := rIxL K) ix_list (pv 0) (pv 1) (fun _ _ => rfl)) (pa_cons (pe_ix (r := rIxL K) ix_list (pv 0) (pe_op op_add (pv 1) pe_int) (fun _ _ => rfl)) (pa_cons (pe_ix (r := rIxL K) ix_list (pv 0) (pe_op op_add (pv 1) pe_int) (fun _ _ => rfl)) pa_nil)))), ?_⟩
    refine ⟨_, rfl, r, _, rfl, .inl hR, 0, ((zs.map V.int).length : Nat), 3, n, rfl, by rw [List.length_map]; exact rgc (c := 3) (by decide) (by decide) hlen hle, fun D hD => ?_⟩
    refine lc_it (n := n) (fun i H' => ∃ as : List Addr, Same H H' ∧ H' D = some (.lst (as.map V.ref)) ∧ (∀ c ∈ as, H c = none ∧ c ≠ D) ∧ All2 (CornerAt K H') as (ancs zs i)) ?_ (fun i H' hi _ => hi) (fun H' _ => Nat.le_refl _) ?_ ?_
    · exact ⟨[], (Same.refl H).put hD, upd_same, fun c hc => absurd hc (by simp), rfl, fun i a x e => by simp at e⟩
    · intro i H1 x H1' hi hp5 hp6
      refine gen fun G' hG => ?_
      obtain ⟨as, s1, hD1, hn, h2⟩ := hp5
      obtain ⟨rfl, rfl⟩ := hp6
      refine hG ?_
      have R1 := s1.seq hR
      refine ⟨rfl, ?_⟩
      refine ⟨_, rfl, _, rfl, r, _, _, _, rfl, rfl, R1, at_of (j := 3 * i) (by omega) (item_of h0 (by omega)), _, rfl, _, rfl, _, _, rfl, rfl, r, _, _, _, rfl, rfl, R1, at3 h0 hlen hi 1 (by decide),
        _, rfl, _, rfl, _, _, rfl, rfl, r, _, _, _, rfl, rfl, R1, at3 h0 hlen hi 2 (by decide), fun x dx nx nd ne => ?_⟩
      refine ⟨x, dx, _, _, _, rfl, upd_same, fun H2 kp2 hx => ⟨rfl, ?_⟩⟩
      have s2 : Same H1' H2 := made_same nx nd kp2
      have hxD : x ≠ D := Ne.symm (ne_of_none hD1 nx)
      have s3 : Same H2 (upd H2 D (.lst (as.map V.ref ++ [.ref x]))) ∨ True := .inr trivial
      refine ⟨as.map V.ref, s2 _ _ hD1, ?_, as ++ [x], ?_, ?_, ?_, ?_⟩
      · have := h2.1
        unfold ancs at this
        rw [List.length_map, List.length_range] at this
        rw [List.length_map, this, sizeLine_eq]
        omega
      · intro b o e
        rw [upd_ne (ne_of_none e hD)]
        exact s2 _ _ (s1 _ _ e)
      · rw [upd_same, List.map_append]
        rfl
      · intro c hc
        rcases List.mem_append.mp hc with hc | hc
        · exact hn c hc
        · have e : c = x := by simpa using hc
          rw [e]
          exact ⟨s1.free nx, hxD⟩
      · have e : ancs zs (i + 1) = ancs zs i ++ [⟨(zs.getD (3 * i) 0).toNat, (zs.getD (3 * i + 1) 0).toNat, (zs.getD (3 * i + 2) 0).toNat⟩] := by
          unfold ancs
          rw [List.range_succ, List.map_append]
          rfl
        rw [e]
        have up : ∀ {c : Addr} {f : Str} {v : V}, HasF K H2 c f v → c ≠ D → HasF K (upd H2 D (.lst (as.map V.ref ++ [.ref x]))) c f v := fun {c f v} ⟨C, d, fs, e1, e2⟩ hc => ⟨C, d, fs, by rw [upd_ne hc]; exact e1, e2⟩
        refine All2.snoc ⟨h2.1, fun j c y e1 e2 => ?_⟩ ?_
        · have q := (h2.2 j c y e1 e2).mono s2
          have hc := (hn c (List.mem_of_getElem? e1)).2
          exact ⟨up q.x hc, up q.y hc, up q.zero hc⟩
        · exact ⟨up ⟨A.C, dx, _, hx, T.clC, T.cx, rfl⟩ hxD, up ⟨A.C, dx, _, hx, T.clC, T.cy, rfl⟩ hxD, up ⟨A.C, dx, _, hx, T.clC, T.cz, rfl⟩ hxD⟩
    · intro H1 hp1
      refine gen fun G' hG => ?_
      obtain ⟨as, s1, hD1, hn, h2⟩ := hp1
      refine hG ?_
      exact kk H1 D as s1 hD hD1 (fun c hc => (hn c hc).1) h2
theorem sc48 : FnScope ["row", "k"] ["row"] (defScope (top 48)) := ⟨rfl, rfl, rfl, by decide +kernel, rfl, by decide +kernel, by decide +kernel⟩
theorem ok48 {f : Addr} {fd : FuncData} (F : Fun K "boxes_from" "boxes_from" (top 48) f fd) (T : Tx K A) (M : Mg mg) (mB : Mak P w K mg base 1 "Box" A.B ["self", "x", "y", "w", "h", "field", "zero"] (spBInit A)) : FnOk P w K mg base CX0 3 f fd ["row"] (spBoxes K) := by
  refine F.ok sc48 (fun vs H Q E h => ?_) (fun cdv Ar outer sh H vs Q E hr h => ?_)
  · obtain ⟨r, zs, n, rfl, _⟩ := h
    rfl
  · refine gen fun G' hG => ?_
    obtain ⟨r, zs, n, rfl, hR, hlen, hle, h0, kk⟩ := h
    refine hG ?_
    refine ⟨_, pss_one <| ps_ret <| pe_lc rfl sc48.nd (pi_range3 (by rfl) M.range (pa_cons pe_int (pa_cons (pe_callB (call_lenK (K := K) rfl) (by rfl) M.len PySem.boot_len (pa_cons (pv 0) pa_nil)) (pa_cons pe_int pa_nil)))) blk48 (by intros; exact pg_name (i := 1) sc48.nd rfl (Or.inl rfl)) (by intros; exact pts_nil)
      (by intros; exact pe_mak mB hr (by rfl) (pa_cons (pe_ix (r := rIxL K) ix_list (pv 0) (pv 1) (fun _ _ => rfl)) <| pa_cons (pe_ix (r := rIxL K) ix_list (pv 0) (pe_op op_add (pv 1) pe_int) (fun _ _ => rfl)) <| pa_cons (pe_ix (r := rIxL K) ix_list (pv 0) (pe_op op_add (pv 1) pe_int) (fun _ _ => rfl)) <|
        pa_cons (pe_ix (r := rIxL K) ix_list (pv 0) (pe_op op_add (pv 1) pe_int) (fun _ _ => rfl)) <| pa_cons (pe_ix (r := rIxL K) ix_list (pv 0) (pe_op op_add (pv 1) pe_int) (fun _ _ => rfl)) <| pa_cons (pe_ix (r := rIxL K) ix_list (pv 0) (pe_op op_add (pv 1) pe_int) (fun _ _ => rfl)) pa_nil)), ?_⟩
    refine ⟨_, rfl, r, _, rfl, .inl hR, 0, ((zs.map V.int).length : Nat), 6, n, rfl, by rw [List.length_map]; exact rgc (c := 6) (by decide) (by decide) hlen hle, fun D hD => ?_⟩
    refine lc_it (n := n) (fun i H' => ∃ as : List Addr, Same H H' ∧ H' D = some (.lst (as.map V.ref)) ∧ (∀ c ∈ as, H c = none ∧ c ≠ D) ∧ All2 (BoxAt K H') as (boxs zs i)) ?_ (fun i H' hi _ => hi) (fun H' _ => Nat.le_refl _) ?_ ?_
    · exact ⟨[], (Same.refl H).put hD, upd_same, fun c hc => absurd hc (by simp), rfl, fun i a x e => by simp at e⟩
    · intro i H1 x H1' hi hp5 hp6
      refine gen fun G' hG => ?_
      obtain ⟨as, s1, hD1, hn, h2⟩ := hp5
      obtain ⟨rfl, rfl⟩ := hp6
      refine hG ?_
      have R1 := s1.seq hR
      refine ⟨rfl, ?_⟩
      refine ⟨_, rfl, _, rfl, r, _, _, _, rfl, rfl, R1, at_of (j := 6 * i) (by omega) (item_of h0 (by omega)), ?_⟩
      refine ⟨_, rfl, _, rfl, _, _, rfl, rfl, r, _, _, _, rfl, rfl, R1, at6 h0 hlen hi 1 (by decide), ?_⟩
      refine ⟨_, rfl, _, rfl, _, _, rfl, rfl, r, _, _, _, rfl, rfl, R1, at6 h0 hlen hi 2 (by decide), ?_⟩
      refine ⟨_, rfl, _, rfl, _, _, rfl, rfl, r, _, _, _, rfl, rfl, R1, at6 h0 hlen hi 3 (by decide), ?_⟩
      refine ⟨_, rfl, _, rfl, _, _, rfl, rfl, r, _, _, _, rfl, rfl, R1, at6 h0 hlen hi 4 (by decide), ?_⟩
      refine ⟨_, rfl, _, rfl, _, _, rfl, rfl, r, _, _, _, rfl, rfl, R1, at6 h0 hlen hi 5 (by decide), fun x dx nx nd ne => ?_⟩
      refine ⟨x, dx, _, _, _, _, _, _, rfl, upd_same, fun H2 kp2 hx => ⟨rfl, ?_⟩⟩
      have s2 : Same H1' H2 := made_same nx nd kp2
      have hxD : x ≠ D := Ne.symm (ne_of_none hD1 nx)
      refine ⟨as.map V.ref, s2 _ _ hD1, ?_, as ++ [x], ?_, ?_, ?_, ?_⟩
      · have := h2.1
        unfold boxs at this
        rw [List.length_map, List.length_range] at this
        rw [List.length_map, this, sizeLine_eq]
        omega
      · intro b o e
        rw [upd_ne (ne_of_none e hD)]
        exact s2 _ _ (s1 _ _ e)
      · rw [upd_same, List.map_append]
        rfl
      · intro c hc
        rcases List.mem_append.mp hc with hc | hc
        · exact hn c hc
        · have e : c = x := by simpa using hc
          rw [e]
          exact ⟨s1.free nx, hxD⟩
      · have e : boxs zs (i + 1) = boxs zs i ++ [⟨(zs.getD (6 * i) 0).toNat, (zs.getD (6 * i + 1) 0).toNat, (zs.getD (6 * i + 2) 0).toNat, (zs.getD (6 * i + 3) 0).toNat, (zs.getD (6 * i + 4) 0).toNat, (zs.getD (6 * i + 5) 0).toNat⟩] := by
          unfold boxs
          rw [List.range_succ, List.map_append]
          rfl
        rw [e]
        have up : ∀ {c : Addr} {f : Str} {v : V}, HasF K H2 c f v → c ≠ D → HasF K (upd H2 D (.lst (as.map V.ref ++ [.ref x]))) c f v := fun {c f v} ⟨C, d, fs, e1, e2⟩ hc => ⟨C, d, fs, by rw [upd_ne hc]; exact e1, e2⟩
        refine All2.snoc ⟨h2.1, fun j c y e1 e2 => ?_⟩ ?_
        · have q := (h2.2 j c y e1 e2).mono s2
          have hc := (hn c (List.mem_of_getElem? e1)).2
          exact ⟨up q.x hc, up q.y hc, up q.w hc, up q.h hc, up q.field hc, up q.zero hc⟩
        · exact ⟨up ⟨A.B, dx, _, hx, T.clB, T.bx, rfl⟩ hxD, up ⟨A.B, dx, _, hx, T.clB, T.by', rfl⟩ hxD, up ⟨A.B, dx, _, hx, T.clB, T.bw, rfl⟩ hxD, up ⟨A.B, dx, _, hx, T.clB, T.bh, rfl⟩ hxD, up ⟨A.B, dx, _, hx, T.clB, T.bf, rfl⟩ hxD, up ⟨A.B, dx, _, hx, T.clB, T.bz, rfl⟩ hxD⟩
    · intro H1 hp1
      refine gen fun G' hG => ?_
      obtain ⟨as, s1, hD1, hn, h2⟩ := hp1
      refine hG ?_
      exact kk H1 D as s1 hD hD1 (fun c hc => (hn c hc).1) h2
end
end My
end
section
set_option Elab.async false
set_option linter.all false
set_option maxRecDepth 100000
set_option maxHeartbeats 2000000
namespace My
open PySem PySem.Spec PyProof.Rows L2
/-! ### good and right -/
theorem range_map_getD {α : Type} (d : α) : ∀ l : List α, (List.range l.length).map (fun k => l.getD k d) = l := fun l => by
  refine List.ext_getElem? fun k => ?_
  rw [List.getElem?_map]
  by_cases h : k < l.length
  · rw [List.getElem?_range h, List.getElem?_eq_getElem h]
    show some (l.getD k d) = _
    rw [List.getD_eq_getElem?_getD, List.getElem?_eq_getElem h]
    rfl
  · rw [List.getElem?_eq_none (by rw [List.length_range]; omega), List.getElem?_eq_none (by omega)]
    rfl
theorem filter_range {α : Type} (d : α) (l : List α) (p : α → Bool) : ((List.range l.length).filter fun k => p (l.getD k d)).length = l.countP p := by
  rw [← List.countP_eq_length_filter]
  conv => rhs; rw [← range_map_getD d l, List.countP_map]
  rfl
theorem clear_math {s : Kp138.Sheet} {A : Kp138.Anchor} (hx : 2 * s.shift + 1 ≤ A.x) (hy : 2 * s.shift + 1 ≤ A.y) (x y w h : Nat) :
    over4 ((A.x : Int) - moreOf s) ((A.y : Int) - moreOf s) ((A.x : Int) + s.side + moreOf s) ((A.y : Int) + s.side + moreOf s) (x : Int) (y : Int) ((x : Int) + w) ((y : Int) + h) = !Kp138.clear s A x y w h := by
  unfold over4 Kp138.clear Kp138.apart Kp138.zone moreOf
  rw [Bool.eq_iff_iff]
  simp only [Bool.and_eq_true, decide_eq_true_eq, Bool.not_eq_true', Bool.or_eq_false_iff, decide_eq_false_iff_not]
  omega
theorem field_math (s : Kp138.Sheet) (bs : List Kp138.Box) (h : s.all = bs) (f : Nat) : ((Kp138.ofField s f).length : Int) = (((bs.map fun b => V.int (b.field : Int)).countP fun z => eqV z (.int (f : Nat)) : Nat) : Int) := by
  unfold Kp138.ofField
  rw [h]
  refine (congrArg (fun n : Nat => (n : Int)) (filter_range ⟨0, 0, 0, 0, 0, 0⟩ bs fun b => b.field == f)).trans ?_
  rw [List.countP_map]
  congr 1
  refine List.countP_congr fun b _ => ?_
  show (b.field == f) = true ↔ ((b.field : Int) == (f : Int)) = true
  simp
  omega
theorem good_right {s : Kp138.Sheet} {bs : List Kp138.Box} (hb : s.boxes = bs.length) (hall : bs.length ≤ 256 → s.all = bs) : Kp138.good s = true ↔ rightB s bs true := by
  constructor
  · intro hg
    unfold Kp138.good at hg
    simp only [Bool.and_eq_true, decide_eq_true_eq, List.all_eq_true, beq_iff_eq] at hg
    obtain ⟨⟨⟨⟨⟨g1, g2⟩, g3⟩, g4⟩, g5⟩, g6⟩ := hg
    have e := hall (by omega)
    rw [e] at g5
    have cor : ∀ A ∈ s.anchor, 2 * s.shift + 1 ≤ A.x ∧ 2 * s.shift + 1 ≤ A.y ∧ A.x + s.side + (2 * s.shift + 1) ≤ s.width ∧ A.y + s.side + (2 * s.shift + 1) ≤ s.height ∧ A.zero = 0 := fun A hA => by
      have q := g3 A hA
      unfold Kp138.goodAnchor Kp138.zone at q
      simp only [Bool.and_eq_true, decide_eq_true_eq, beq_iff_eq] at q
      omega
    refine ⟨fun _ => ⟨?_, fun b hbm => ?_, fun k A hk hA => ?_, ?_⟩, fun _ => rfl⟩
    · simp only [measuresB, inB, Bool.and_eq_true, decide_eq_true_eq]
      refine ⟨by omega, by omega, by omega, by omega, by omega, by omega, by omega, by omega, by omega, by rw [g2]; rfl, by omega⟩
    · have q := g5 b hbm
      unfold Kp138.goodBox at q
      simp only [Bool.and_eq_true, decide_eq_true_eq, beq_iff_eq] at q
      obtain ⟨⟨q, q8⟩, q9⟩ := q
      simp only [boxB, within4, Bool.and_eq_true, decide_eq_true_eq]
      exact ⟨by omega, by omega, ⟨by omega, by omega, by omega, by omega⟩, by omega, by rw [q8]; rfl⟩
    · have hc := cor A (List.mem_of_getElem? hA)
      refine ⟨fun _ => ⟨fun j B hB hjk => ?_, fun b hbm => ?_, hc.2.2.2.2, ?_⟩, fun _ => rfl⟩
      · have hj : j < 4 := by
          have := (List.getElem?_eq_some_iff.mp hB).1
          omega
        have q := g4 k (List.mem_range.mpr hk) j (List.mem_range.mpr hj)
        rw [List.getD_eq_getElem?_getD, List.getD_eq_getElem?_getD, hA, hB] at q
        simp only [Bool.or_eq_true, beq_iff_eq] at q
        rcases q with q | q
        · exact absurd q.symm hjk
        · unfold overSq
          rw [clear_math hc.1 hc.2.1 B.x B.y s.side s.side]
          have q' : Kp138.clear s A B.x B.y s.side s.side = true := q
          rw [q']
          rfl
      · have q := g5 b hbm
        unfold Kp138.goodBox at q
        simp only [Bool.and_eq_true, List.all_eq_true] at q
        have q' := q.2 A (List.mem_of_getElem? hA)
        unfold overBox
        rw [clear_math hc.1 hc.2.1 b.x b.y b.w b.h, q']
        rfl
      · simp only [within4, Bool.and_eq_true, decide_eq_true_eq]
        unfold moreOf
        omega
    · unfold fieldsB
      rw [List.all_eq_true]
      intro f hf
      have q := g6 f hf
      rw [← field_math s bs e f]
      exact decide_eq_true (by omega)
  · intro hr
    obtain ⟨r1, r2, r3, r4⟩ := hr.mp rfl
    have ok := ok_of hr
    have e := hall ok.b2
    have han := ok.an
    have key : ∀ (k : Nat), k < 4 → ∃ A, s.anchor[k]? = some A := fun k hk => ⟨_, List.getElem?_eq_getElem (by omega)⟩
    unfold Kp138.good
    simp only [Bool.and_eq_true, decide_eq_true_eq, List.all_eq_true, beq_iff_eq]
    have := ok.w1
    have := ok.w2
    have := ok.h1
    have := ok.h2
    have := ok.sh
    have := ok.s1
    have := ok.s2
    have := ok.du
    have := ok.no
    have := ok.bl
    have := ok.fi
    have := ok.f1
    have := ok.f2
    have := ok.b1
    have := ok.b2
    refine ⟨⟨⟨⟨⟨by omega, han⟩, fun A hA => ?_⟩, fun i hi j hj => ?_⟩, fun b hbm => ?_⟩, fun f hf => ?_⟩
    · have q := ok.cor A hA
      unfold Kp138.goodAnchor Kp138.zone
      simp only [Bool.and_eq_true, decide_eq_true_eq, beq_iff_eq]
      omega
    · have hi := List.mem_range.mp hi
      have hj := List.mem_range.mp hj
      obtain ⟨A, hA⟩ := key i hi
      obtain ⟨B, hB⟩ := key j hj
      rw [List.getD_eq_getElem?_getD, List.getD_eq_getElem?_getD, hA, hB]
      simp only [Bool.or_eq_true, beq_iff_eq]
      by_cases hij : i = j
      · exact .inl hij
      · right
        have q := ((r3 i A hi hA).mp rfl).1 j B hB (fun z => hij z.symm)
        have hc := ok.cor A (List.mem_of_getElem? hA)
        unfold overSq at q
        rw [clear_math hc.1 hc.2.1 B.x B.y s.side s.side] at q
        show Kp138.clear s A B.x B.y s.side s.side = true
        simpa using q
    · rw [e] at hbm
      have q := ok.box b hbm
      unfold Kp138.goodBox
      simp only [Bool.and_eq_true, decide_eq_true_eq, beq_iff_eq, List.all_eq_true]
      refine ⟨⟨by omega, q.2.2.2.2.2.2.2⟩, fun A hA => ?_⟩
      obtain ⟨i, hi, eA⟩ := List.getElem_of_mem hA
      have hA' : s.anchor[i]? = some A := by rw [← eA]; exact List.getElem?_eq_getElem hi
      have q2 := ((r3 i A (by omega) hA').mp rfl).2.1 b hbm
      have hc := ok.cor A hA
      unfold overBox at q2
      rw [clear_math hc.1 hc.2.1 b.x b.y b.w b.h] at q2
      simpa using q2
    · unfold fieldsB at r4
      rw [List.all_eq_true] at r4
      have q := r4 f hf
      rw [← field_math s bs e f] at q
      have q := of_decide_eq_true q
      omega
theorem right_false {s : Kp138.Sheet} {bs : List Kp138.Box} (hb : s.boxes = bs.length) (hall : bs.length ≤ 256 → s.all = bs) : rightB s bs false ↔ Kp138.good s = false := by
  have h := good_right hb hall
  constructor
  · intro hf
    cases e : Kp138.good s with
    | false => rfl
    | true =>
      have q := hf.mpr ((h.mp e).mp rfl)
      cases q
  · intro hf
    refine ⟨fun q => (by cases q), fun q => ?_⟩
    have : rightB s bs true := ⟨fun _ => q, fun _ => rfl⟩
    rw [h.mpr this] at hf
    cases hf
/-! ### fields -/
section
variable {s : Kp138.Sheet} {bs : List Kp138.Box} {ts : List Nat}
theorem zip_range (hl : ts.length = bs.length) : bs.zip ts = (List.range bs.length).map fun k => (bs.getD k boxD, ts.getD k 0) := by
  refine List.ext_getElem? fun k => ?_
  rw [List.getElem?_map]
  by_cases h : k < bs.length
  · have h2 : k < ts.length := by omega
    rw [List.getElem?_range h, show (bs.zip ts)[k]? = some (bs[k], ts[k]) from List.getElem?_zip_eq_some.mpr ⟨List.getElem?_eq_getElem h, List.getElem?_eq_getElem h2⟩]
    show _ = some (bs.getD k boxD, ts.getD k 0)
    rw [List.getD_eq_getElem?_getD, List.getD_eq_getElem?_getD, List.getElem?_eq_getElem h, List.getElem?_eq_getElem (show k < ts.length by omega)]
    rfl
  · rw [List.getElem?_eq_none (by rw [List.length_zip]; omega), List.getElem?_eq_none (by rw [List.length_range]; omega)]
    rfl
theorem row_of (h : s.all = bs) (hl : ts.length = bs.length) (f : Nat) : rowL bs ts f = (Kp138.ofField s f).map fun k => ts.getD k 0 := by
  unfold rowL Kp138.ofField
  rw [h, zip_range hl, List.filter_map, List.map_map]
  rfl
theorem cnt_of (h : s.all = bs) (hl : ts.length = bs.length) (f : Nat) : cnt1 (rowL bs ts f) = (Kp139.those s ts f 1).length := by
  unfold cnt1 Kp139.those
  rw [row_of h hl, List.countP_map, List.countP_eq_length_filter]
  rfl
theorem any_of (h : s.all = bs) (hl : ts.length = bs.length) (f : Nat) : any2 (rowL bs ts f) = !(Kp139.those s ts f 2).isEmpty := by
  unfold any2 Kp139.those
  rw [row_of h hl, List.any_map, Bool.eq_iff_iff, List.any_eq_true]
  simp only [Function.comp, Bool.not_eq_true', List.isEmpty_eq_false_iff_exists_mem, List.mem_filter]
theorem idx_congr {α : Type} {p q : α → Bool} : ∀ (l : List α), (∀ x ∈ l, p x = q x) → l.findIdx p = l.findIdx q
  | [], _ => rfl
  | a :: l, h => by
    rw [List.findIdx_cons, List.findIdx_cons, h a (List.mem_cons_self ..), idx_congr l fun x hx => h x (List.mem_cons_of_mem _ hx)]
theorem idx_map {α β : Type} (g : α → β) (p : β → Bool) : ∀ l : List α, (l.map g).findIdx p = l.findIdx fun x => p (g x)
  | [] => rfl
  | a :: l => by
    rw [List.map_cons, List.findIdx_cons, List.findIdx_cons, idx_map g p l]
theorem result_math (h : s.all = bs) (hl : ts.length = bs.length) (f : Nat) : Kp139.result s ts f = fieldR (rowL bs ts f) := by
  unfold fieldR
  rw [cnt_of h hl, any_of h hl, row_of h hl, idx_map]
  unfold Kp139.result
  have hm : ∀ y, y ∈ Kp139.those s ts f 1 ↔ y ∈ Kp138.ofField s f ∧ (ts.getD y 0 == 1) = true := fun y => List.mem_filter
  generalize Kp139.those s ts f 1 = L1 at hm
  generalize Kp139.those s ts f 2 = L2
  match L1, hm with
  | [], _ => cases L2 <;> rfl
  | [k], hm =>
    cases L2 with
    | cons x r => rfl
    | nil =>
      show Kp139.place s f k = (Kp138.ofField s f).findIdx fun x => ts.getD x 0 == 1
      unfold Kp139.place
      refine idx_congr _ fun x hx => ?_
      rw [Bool.eq_iff_iff, beq_iff_eq]
      constructor
      · intro q
        exact ((hm x).mp (by rw [q]; simp)).2
      · intro q
        exact List.mem_singleton.mp ((hm x).mpr ⟨hx, q⟩)
  | k :: k2 :: r, _ =>
    show Kp139.MANY = _
    rw [if_pos (show 2 ≤ (k :: k2 :: r).length by simp)]
    rfl
theorem nodup_those (f v : Nat) : (Kp139.those s ts f v).Nodup := by
  unfold Kp139.those Kp138.ofField
  exact (List.nodup_range.filter _).filter _
theorem own_field (h : s.all = bs) {k : Nat} (hk : k < bs.length) : k ∈ Kp138.ofField s (Kp139.fieldOf s k) := by
  unfold Kp138.ofField Kp139.fieldOf
  rw [h]
  exact List.mem_filter.mpr ⟨List.mem_range.mpr hk, by simp⟩
theorem one_of {l : List Nat} {k : Nat} (h : l.length = 1) (hk : k ∈ l) : l = [k] := by
  match l, h with
  | [x], _ => rw [List.mem_singleton.mp hk]
theorem sure_math (h : s.all = bs) (hl : ts.length = bs.length) {k : Nat} (hk : k < bs.length) : Kp139.surely s ts k = sureK bs ts k := by
  have ef : (bs.getD k boxD).field = Kp139.fieldOf s k := by
    unfold Kp139.fieldOf
    rw [h]
    rfl
  unfold sureK sureB Kp139.surely
  rw [ef, cnt_of h hl, any_of h hl, Bool.not_not]
  have ho := own_field h hk
  have hm : k ∈ Kp139.those s ts (Kp139.fieldOf s k) 1 ↔ ts.getD k 0 = 1 := by
    unfold Kp139.those
    rw [List.mem_filter, beq_iff_eq]
    exact ⟨fun q => q.2, fun q => ⟨ho, q⟩⟩
  rw [Bool.eq_iff_iff]
  simp only [Bool.and_eq_true, decide_eq_true_eq, beq_iff_eq, nV, V.int.injEq]
  constructor
  · rintro ⟨q1, q2⟩
    rw [q1] at hm ⊢
    have := hm.mp (by simp)
    exact ⟨by omega, by simp, q2⟩
  · rintro ⟨q1, q2, q3⟩
    exact ⟨one_of (by omega) (hm.mpr (by omega)), q3⟩
theorem perhaps_math (h : s.all = bs) (hl : ts.length = bs.length) {k : Nat} (hk : k < bs.length) : Kp139.perhaps s ts k = perK bs ts k := by
  have ef : (bs.getD k boxD).field = Kp139.fieldOf s k := by
    unfold Kp139.fieldOf
    rw [h]
    rfl
  unfold perK perhapsB Kp139.perhaps
  rw [ef, cnt_of h hl, ← result_math h hl]
  have ho := own_field h hk
  have hm : k ∈ Kp139.those s ts (Kp139.fieldOf s k) 1 ↔ ts.getD k 0 = 1 := by
    unfold Kp139.those
    rw [List.mem_filter, beq_iff_eq]
    exact ⟨fun q => q.2, fun q => ⟨ho, q⟩⟩
  have nd := nodup_those (s := s) (ts := ts) (Kp139.fieldOf s k) 1
  have e1 : (Kp139.result s ts (Kp139.fieldOf s k) == Kp139.UNSURE) = decide (nV (Kp139.result s ts (Kp139.fieldOf s k)) = .int 255) := by
    rw [Bool.eq_iff_iff]
    simp only [decide_eq_true_eq, beq_iff_eq, nV, V.int.injEq, Kp139.UNSURE]
    omega
  have e2 : (ts.getD k 0 != 0) = !decide (nV (ts.getD k 0) = .int 0) := by
    rw [Bool.eq_iff_iff]
    simp only [Bool.not_eq_true', decide_eq_false_iff_not, bne_iff_ne, nV, V.int.injEq, ne_eq]
    omega
  rw [e1, e2, Bool.and_assoc]
  congr 2
  generalize Kp139.those s ts (Kp139.fieldOf s k) 1 = L at hm nd
  rw [Bool.eq_iff_iff, List.all_eq_true]
  simp only [decide_eq_true_eq, V.int.injEq, beq_iff_eq]
  by_cases ht : ts.getD k 0 = 1
  · rw [if_pos ht]
    have hkL := hm.mpr ht
    constructor
    · intro q
      match L, nd, hkL, q with
      | [x], _, _, _ => rfl
      | x :: y :: r, nd, _, q =>
        have qx := q x (by simp)
        have qy := q y (by simp)
        rw [qx, qy] at nd
        simp at nd
    · intro q x hx
      rw [one_of (by omega) hkL] at hx
      exact List.mem_singleton.mp hx
  · rw [if_neg ht]
    constructor
    · intro q
      match L, q, hm with
      | [], _, _ => rfl
      | x :: r, q, hm =>
        have qx := q x (by simp)
        exact absurd (hm.mp (by rw [← qx]; simp)) ht
    · intro q x hx
      have : L = [] := List.length_eq_zero_iff.mp (by omega)
      rw [this] at hx
      cases hx
end
theorem count_congr {l : List Nat} {f g : Nat → Bool} (h : ∀ k, k < l.length → f k = g k) : Kp139.count l f = Kp139.count l g := by
  refine count_ext (count_len _ _) fun k hk => ?_
  rw [count_at _ _ k hk, h k hk]
/-! ### rows of numbers -/
theorem chunks_eq {m : Nat} (hm : 1 ≤ m) : ∀ (n f : Nat) (l : List Int), l.length = m * n → n ≤ f → Kp139Neutral.chunksBy m f l = (List.range n).map fun i => (l.drop (m * i)).take m
  | 0, f, l, h, _ => by
    have e : l = [] := List.length_eq_zero_iff.mp (by omega)
    subst e
    cases f with
    | zero => rfl
    | succ f =>
      unfold Kp139Neutral.chunksBy
      rw [if_pos rfl]
      rfl
  | n + 1, 0, l, _, h => absurd h (by omega)
  | n + 1, f + 1, l, h, hf => by
    have hl : l.length = m * n + m := by rw [h, Nat.mul_succ]
    have hne : l ≠ [] := fun e => by
      rw [e] at hl
      simp at hl
      omega
    unfold Kp139Neutral.chunksBy
    rw [if_neg hne, chunks_eq hm n f (l.drop m) (by rw [List.length_drop]; omega) (by omega), List.range_succ_eq_map, List.map_cons, List.map_map]
    congr 1
    refine List.map_congr_left fun i _ => ?_
    show ((l.drop m).drop (m * i)).take m = (l.drop (m * (i + 1))).take m
    rw [List.drop_drop, Nat.mul_succ, Nat.add_comm]
theorem getD_cut (l : List Int) (a m j : Nat) (hj : j < m) : ((l.drop a).take m).getD j 0 = l.getD (a + j) 0 := by
  rw [List.getD_eq_getElem?_getD, List.getD_eq_getElem?_getD, List.getElem?_take_of_lt hj, List.getElem?_drop]
theorem ancs_eq {zs : List Int} {n : Nat} (h : zs.length = 3 * n) : (Kp139Neutral.chunks 3 zs).map Kp139Neutral.anchor = ancs zs n := by
  unfold Kp139Neutral.chunks ancs
  rw [chunks_eq (by decide) n zs.length zs h (by omega), List.map_map]
  refine List.map_congr_left fun i _ => ?_
  show Kp139Neutral.anchor ((zs.drop (3 * i)).take 3) = _
  unfold Kp139Neutral.anchor
  rw [getD_cut _ _ _ _ (by decide), getD_cut _ _ _ _ (by decide), getD_cut _ _ _ _ (by decide)]
  rfl
theorem boxs_eq {zs : List Int} {n : Nat} (h : zs.length = 6 * n) : (Kp139Neutral.chunks 6 zs).map Kp139Neutral.box = boxs zs n := by
  unfold Kp139Neutral.chunks boxs
  rw [chunks_eq (by decide) n zs.length zs h (by omega), List.map_map]
  refine List.map_congr_left fun i _ => ?_
  show Kp139Neutral.box ((zs.drop (6 * i)).take 6) = _
  unfold Kp139Neutral.box
  rw [getD_cut _ _ _ _ (by decide), getD_cut _ _ _ _ (by decide), getD_cut _ _ _ _ (by decide), getD_cut _ _ _ _ (by decide), getD_cut _ _ _ _ (by decide), getD_cut _ _ _ _ (by decide)]
  rfl
theorem sheet_boxes {nine za zb : List Int} {n : Nat} (h : zb.length = 6 * n) : (Kp139Neutral.sheet nine za zb).boxes = (boxs zb n).length := by
  unfold Kp139Neutral.sheet
  rw [boxs_eq h]
theorem sheet_all {nine za zb : List Int} {n : Nat} (h : zb.length = 6 * n) (hn : (boxs zb n).length ≤ 256) : (Kp139Neutral.sheet nine za zb).all = boxs zb n := by
  unfold Kp138.Sheet.all Kp139Neutral.sheet
  rw [boxs_eq h]
  show (((boxs zb n) ++ List.replicate 256 _).take 256).take (boxs zb n).length = boxs zb n
  rw [List.take_take, Nat.min_eq_left hn, List.take_left']
  rfl
end My
end
section
set_option Elab.async false
set_option linter.all false
set_option maxRecDepth 100000
set_option maxHeartbeats 4000000
namespace My
open PySem PySem.Spec PyProof.Rows L2
def newPart (H H' : Hp) : Hp := fun b => if (H b).isSome = true then none else H' b
theorem new_at {H H' : Hp} {b : Addr} (h : H b = none) : newPart H H' b = H' b := by
  unfold newPart
  rw [h]
  rfl
theorem new_old {H H' : Hp} {b : Addr} (h : H b ≠ none) : newPart H H' b = none := by
  unfold newPart
  cases e : H b with
  | none => exact absurd e h
  | some o => rfl
theorem new_same {H H' : Hp} : Same (newPart H H') H' := fun b o e => by
  cases q : H b with
  | none => rw [new_at q] at e; exact e
  | some x =>
    rw [new_old (by rw [q]; exact fun z => nomatch z)] at e
    cases e
section
variable {K : PySem.W.Frag} {H H' : Hp} {a : Addr}
theorem HasF.new {f : Str} {v : V} (h : HasF K H' a f v) (n : H a = none) : HasF K (newPart H H') a f v := by
  obtain ⟨C, dx, fs, e, r⟩ := h
  exact ⟨C, dx, fs, by rw [new_at n]; exact e, r⟩
theorem HasF.keep {f : Str} {v : V} {ex : List Addr} (h : HasF K H a f v) (k : Keep ex H H') (n : ¬ a ∈ ex) : HasF K H' a f v := by
  obtain ⟨C, dx, fs, e, r⟩ := h
  exact ⟨C, dx, fs, k _ _ e n, r⟩
theorem CornerAt.new {c : Kp138.Anchor} (h : CornerAt K H' a c) (n : H a = none) : CornerAt K (newPart H H') a c := ⟨h.x.new n, h.y.new n, h.zero.new n⟩
theorem BoxAt.new {c : Kp138.Box} (h : BoxAt K H' a c) (n : H a = none) : BoxAt K (newPart H H') a c := ⟨h.x.new n, h.y.new n, h.w.new n, h.h.new n, h.field.new n, h.zero.new n⟩
theorem CornerAt.keep {c : Kp138.Anchor} {ex : List Addr} (h : CornerAt K H a c) (k : Keep ex H H') (n : ¬ a ∈ ex) : CornerAt K H' a c := ⟨h.x.keep k n, h.y.keep k n, h.zero.keep k n⟩
theorem NumsAt.keep {Hc : Hp} {c u : Addr} {ns : List Int} (N : NumsAt K Hc H c u ns) (k : Keep [u] H H') : NumsAt K Hc H' c u ns := ⟨N.sq, k.same N.same fun b hb => (List.mem_singleton.mp hb).symm ▸ N.u, N.u⟩
theorem NumsAt.mono {Hc : Hp} {c u : Addr} {ns : List Int} (N : NumsAt K Hc H c u ns) (k : Same H H') : NumsAt K Hc H' c u ns := ⟨N.sq, N.same.trans k, N.u⟩
theorem Keep.free {ex : List Addr} {b : Addr} (k : Keep ex H H') (h : H' b = none) (n : ¬ b ∈ ex) : H b = none := by
  cases e : H b with
  | none => rfl
  | some o =>
    rw [k b o e n] at h
    cases h
end
theorem CursorAt.mono {A : Ad} {H H' : Hp} {u c : Addr} {k : Nat} (h : CursorAt A H u c k) (s : Same H H') : CursorAt A H' u c k := let ⟨dx, e⟩ := h.ex; ⟨dx, s _ _ e⟩
theorem drop_at {ns xs ys : List Int} {k : Nat} (h : ns.drop k = xs ++ ys) : ns.drop (k + xs.length) = ys := by
  have e := congrArg (List.drop xs.length) h
  rw [List.drop_left] at e
  rw [← e, List.drop_drop]
theorem at_at {ns ys : List Int} {k : Nat} {x : Int} (h : ns.drop k = x :: ys) : ns[k]? = some x ∧ ns.drop (k + 1) = ys := by
  have e : (ns.drop k)[0]? = some x := by rw [h]; rfl
  rw [List.getElem?_drop] at e
  refine ⟨e, ?_⟩
  exact drop_at (xs := [x]) h
theorem CursorAt.ne {A : Ad} {H : Hp} {u c b : Addr} {k : Nat} (h : CursorAt A H u c k) (n : H b = none) : ¬ b ∈ [u] := fun hm => by
  obtain ⟨dx, e⟩ := h.ex
  rw [List.mem_singleton.mp hm, e] at n
  cases n
theorem lt9 {l : List Int} (h : l.length = 9) {j : Nat} (hj : j < 9) : j < l.length := h ▸ hj
/-- how a sheet's numbers stand in the list from place k on -/
structure SheetNs (ns : List Int) (k : Nat) (nine za zb : List Int) (na nb : Nat) (rest : List Int) : Prop where
  at_ : ns.drop k = nine ++ ((za.length : Int) :: (za ++ ((zb.length : Int) :: (zb ++ rest))))
  l9 : nine.length = 9
  la : za.length = 3 * na
  lb : zb.length = 6 * nb
  le : ns.length ≤ 100000
  nn : ∀ z ∈ ns, 0 ≤ z
def spTakeSheet (K : PySem.W.Frag) (A : Ad) : Sp := fun vs H Q _ => ∃ (u c : Addr) (k : Nat) (ns : List Int) (Hc : Hp) (nine za zb : List Int) (na nb : Nat) (rest : List Int), vs = [.ref u] ∧ CursorAt A H u c k ∧ NumsAt K Hc H c u ns ∧ SheetNs ns k nine za zb na nb rest ∧
  ∀ (H' : Hp) (a : Addr) (Hs : Hp), Keep [u] H H' → CursorAt A H' u c (k + 9 + 1 + za.length + 1 + zb.length) → SheetAt K Hs a (Kp139Neutral.sheet nine za zb) (boxs zb nb) → Same Hs H' → (∀ b, H b ≠ none → Hs b = none) → Q (.ref a) H'
def spInNumbers : Sp := fun vs H Q _ => (∃ v : Int, vs = [.int v] ∧ ∀ (H' : Hp) (r : Addr), Same H H' → H r = none → H' r = some (.lst [.int 0, .int v]) → Q (.ref r) H') ∨
  (∃ (r0 : Addr) (zs : List Nat), vs = [.ref r0] ∧ H r0 = some (.lst (zs.map nV)) ∧ zs.length ≤ 1000 ∧ ∀ (H' : Hp) (r : Addr), Same H H' → H r = none → H' r = some (.lst ([.int 1, nV zs.length] ++ zs.map nV)) → Q (.ref r) H')
section
variable {P : Program} {w : World} {K : PySem.W.Frag} {mg : Str → Option Value} {base : Heap} {A : Ad}
theorem sc51 : FnScope ["answer"] ["answer"] (defScope (top 51)) := ⟨rfl, rfl, rfl, by decide +kernel, rfl, by decide +kernel, by decide +kernel⟩
theorem ok51 {f : Addr} {fd : FuncData} (F : Fun K "in_numbers" "in_numbers" (top 51) f fd) (M : Mg mg) : FnOk P w K mg base CX0 1 f fd ["answer"] spInNumbers := by
  refine F.ok sc51 (fun vs H Q E h => ?_) (fun cdv Ar outer sh H vs Q E hr h => ?_)
  · rcases h with ⟨v, rfl, _⟩ | ⟨r0, zs, rfl, _⟩ <;> rfl
  · refine ⟨_, pss_cons (ps_if (pt_val (pe_callB (r := rIsInt K) cr_isInt (by rfl) M.isinstance PyProof.Rows.boot_isinstance (pa_cons (pv 0) (pa_cons (pe_bltn (v := .ty "int") (by rfl) M.int boot_int0 rfl) pa_nil)))) (pss_one (ps_ret (pe_lst (pa_cons (pe_cst M.number (by rfl)) (pa_cons (pv 0) pa_nil))))) pss_nil) <|
      pss_one <| ps_ret <| pe_op op_cat (pe_lst (pa_cons (pe_cst M.row (by rfl)) (pa_cons (pe_callB (call_lenK (K := K) rfl) (by rfl) M.len PySem.boot_len (pa_cons (pv 0) pa_nil)) pa_nil))) (pv 0), ?_⟩
    rcases h with ⟨v, rfl, k⟩ | ⟨r0, zs, rfl, hz, hle, k⟩
    · refine ⟨_, rfl, .inl ⟨_, rfl, _, rfl, _, rfl, by show 2 ≤ sizeLine; decide, fun r hr' => ?_⟩⟩
      exact k _ r ((Same.refl H).put hr') hr' upd_same
    · refine ⟨_, rfl, .inr (.inl ⟨r0, _, rfl, hz, _, rfl, ?_⟩)⟩
      refine ⟨_, rfl, r0, _, rfl, .inl (SqL.of hz), by show 2 ≤ sizeLine; decide, fun p hp => ?_⟩
      have e : ((zs.map nV).length : Int) = (zs.length : Int) := by rw [List.length_map]
      rw [e]
      have hr0 : r0 ≠ p := ne_of_none hz hp
      refine ⟨_, rfl, p, r0, _, _, rfl, rfl, upd_same, by rw [upd_ne hr0]; exact hz, by rw [List.length_map, sizeLine_eq]; show 2 + zs.length ≤ _; omega, fun r hr' => ?_⟩
      have hrp : r ≠ p := fun q => by
        rw [q, upd_same] at hr'
        cases hr'
      refine k _ r (((Same.refl H).put hp).put hr') ?_ upd_same
      rw [upd_ne hrp] at hr'
      exact hr'
theorem sc49 : FnScope ["cursor", "nine", "corners", "boxes"] ["cursor"] (defScope (top 49)) := ⟨rfl, rfl, rfl, by decide +kernel, rfl, by decide +kernel, by decide +kernel⟩
theorem ok49 {f : Addr} {fd : FuncData} (F : Fun K "take_sheet" "take_sheet" (top 49) f fd) (T : Tx K A) (m3 : Mth P w K mg base 1 A.U "take_several" ["self", "size"] (spSome K A)) (m4 : Mth P w K mg base 2 A.U "take_row" ["self"] (spRow K A))
    (d47 : Def P w K mg base 3 "corners_from" ["row"] (spCorners K)) (d48 : Def P w K mg base 3 "boxes_from" ["row"] (spBoxes K)) (mS : Mak P w K mg base 1 "Sheet" A.S ["self", "width", "height", "shift", "side", "dust", "noise", "fill", "blank", "fields", "corners", "boxes"] (spSInit A)) :
    FnOk P w K mg base CX0 4 f fd ["cursor"] (spTakeSheet K A) := by
  refine F.ok sc49 (fun vs H Q E h => ?_) (fun cdv Ar outer sh H vs Q E hr h => ?_)
  · obtain ⟨u, c, k, ns, Hc, nine, za, zb, na, nb, rest, rfl, _⟩ := h
    rfl
  · refine gen fun G' hG => ?_
    obtain ⟨u, c, k, ns, Hc, nine, za, zb, na, nb, rest, rfl, U, N, Z, kk⟩ := h
    refine hG ?_
    refine ⟨_, pss_cons (ps_set (i := 1) sc49.nd rfl (Or.inl rfl) (pe_mth (pv 0) m3 hr (pa_cons pe_int pa_nil))) <|
      pss_cons (ps_set (i := 2) sc49.nd rfl (Or.inl rfl) (pe_def d47 hr (by rfl) (pa_cons (pe_mth0 (pv 0) m4 hr) pa_nil))) <|
      pss_cons (ps_set (i := 3) sc49.nd rfl (Or.inl rfl) (pe_def d48 hr (by rfl) (pa_cons (pe_mth0 (pv 0) m4 hr) pa_nil))) <|
      pss_one <| ps_ret <| pe_mak mS hr (by rfl) (pa_cons (pe_ix (r := rIxL K) ix_list (pv 1) pe_int (fun _ _ => rfl)) <| pa_cons (pe_ix (r := rIxL K) ix_list (pv 1) pe_int (fun _ _ => rfl)) <| pa_cons (pe_ix (r := rIxL K) ix_list (pv 1) pe_int (fun _ _ => rfl)) <| pa_cons (pe_ix (r := rIxL K) ix_list (pv 1) pe_int (fun _ _ => rfl)) <| pa_cons (pe_ix (r := rIxL K) ix_list (pv 1) pe_int (fun _ _ => rfl)) <|
        pa_cons (pe_ix (r := rIxL K) ix_list (pv 1) pe_int (fun _ _ => rfl)) <| pa_cons (pe_ix (r := rIxL K) ix_list (pv 1) pe_int (fun _ _ => rfl)) <| pa_cons (pe_ix (r := rIxL K) ix_list (pv 1) pe_int (fun _ _ => rfl)) <| pa_cons (pe_ix (r := rIxL K) ix_list (pv 1) pe_int (fun _ _ => rfl)) <| pa_cons (pv 2) <| pa_cons (pv 3) pa_nil), ?_⟩
    refine gen fun G' hG => ?_
    obtain ⟨dx, hU⟩ := id U.ex
    refine hG ?_
    have e9 : (ns.drop k).take 9 = nine := by rw [Z.at_, List.take_left' Z.l9]
    have q1 := drop_at Z.at_
    rw [Z.l9] at q1
    refine gen fun G' hG => ?_
    obtain ⟨hz1, q2⟩ := at_at q1
    refine hG ?_
    have ea : (ns.drop (k + 9 + 1)).take za.length = za := by rw [q2, List.take_left' rfl]
    have q3 := drop_at q2
    refine gen fun G' hG => ?_
    obtain ⟨hz2, q4⟩ := at_at q3
    refine hG ?_
    have eb : (ns.drop (k + 9 + 1 + za.length + 1)).take zb.length = zb := by rw [q4, List.take_left' rfl]
    have mem9 : ∀ z ∈ nine, 0 ≤ z := fun z hz => Z.nn z (by
      have : z ∈ ns.drop k := by rw [Z.at_]; exact List.mem_append_left _ hz
      exact List.mem_of_mem_drop this)
    have mema : ∀ z ∈ za, 0 ≤ z := fun z hz => Z.nn z (by
      rw [← ea] at hz
      exact List.mem_of_mem_drop (List.mem_of_mem_take hz))
    have memb : ∀ z ∈ zb, 0 ≤ z := fun z hz => Z.nn z (by
      rw [← eb] at hz
      exact List.mem_of_mem_drop (List.mem_of_mem_take hz))
    have lena : za.length ≤ 100000 := by
      have : za.length = ((ns.drop (k + 9 + 1)).take za.length).length := by rw [ea]
      rw [List.length_take, List.length_drop] at this
      have := Z.le
      omega
    have lenb : zb.length ≤ 100000 := by
      have : zb.length = ((ns.drop (k + 9 + 1 + za.length + 1)).take zb.length).length := by rw [eb]
      rw [List.length_take, List.length_drop] at this
      have := Z.le
      omega
    refine ⟨_, rfl, u, dx, _, rfl, hU, rfl, u, c, k, 9, ns, Hc, rfl, U, N, fun H1 r9 kp1 nr9 hr9 U1 => ?_⟩
    rw [e9] at hr9
    refine gen fun G' hG => ?_
    obtain ⟨dx1, hU1⟩ := id U1.ex
    refine hG ?_
    have N1 := N.keep kp1
    refine ⟨_, rfl, u, dx1, _, rfl, hU1, rfl, u, c, k + 9, za.length, ns, Hc, rfl, U1, N1, hz1, fun H2 ra kp2 nra hra U2 => ?_⟩
    rw [ea] at hra
    have kp12 := kp1.trans kp2
    refine ⟨ra, za, na, rfl, SqL.of hra, Z.la, lena, mema, fun H3 lc cs s3 nlc hlc ncs hcs => ?_⟩
    have U3 := U2.mono s3
    refine gen fun G' hG => ?_
    obtain ⟨dx3, hU3⟩ := id U3.ex
    refine hG ?_
    have N3 := (N1.keep kp2).mono s3
    refine ⟨_, rfl, u, dx3, _, rfl, hU3, rfl, u, c, k + 9 + 1 + za.length, zb.length, ns, Hc, rfl, U3, N3, hz2, fun H4 rb kp4 nrb hrb U4 => ?_⟩
    rw [eb] at hrb
    refine ⟨rb, zb, nb, rfl, SqL.of hrb, Z.lb, lenb, memb, fun H5 lb bx s5 nlb hlb nbx hbx => ?_⟩
    have nr9u := U.ne nr9
    have r9at : H5 r9 = some (.lst (nine.map V.int)) := s5 _ _ (kp4 _ _ (s3 _ _ (kp2 _ _ hr9 nr9u)) nr9u)
    have R := SqL.of (K := K) r9at
    have l9 := Z.l9
    refine ⟨_, rfl, r9, _, _, _, rfl, rfl, R, at_of (j := 0) rfl (item_of mem9 (lt9 l9 (by decide))), ?_⟩
    refine ⟨_, rfl, r9, _, _, _, rfl, rfl, R, at_of (j := 1) rfl (item_of mem9 (lt9 l9 (by decide))), ?_⟩
    refine ⟨_, rfl, r9, _, _, _, rfl, rfl, R, at_of (j := 2) rfl (item_of mem9 (lt9 l9 (by decide))), ?_⟩
    refine ⟨_, rfl, r9, _, _, _, rfl, rfl, R, at_of (j := 3) rfl (item_of mem9 (lt9 l9 (by decide))), ?_⟩
    refine ⟨_, rfl, r9, _, _, _, rfl, rfl, R, at_of (j := 4) rfl (item_of mem9 (lt9 l9 (by decide))), ?_⟩
    refine ⟨_, rfl, r9, _, _, _, rfl, rfl, R, at_of (j := 5) rfl (item_of mem9 (lt9 l9 (by decide))), ?_⟩
    refine ⟨_, rfl, r9, _, _, _, rfl, rfl, R, at_of (j := 6) rfl (item_of mem9 (lt9 l9 (by decide))), ?_⟩
    refine ⟨_, rfl, r9, _, _, _, rfl, rfl, R, at_of (j := 7) rfl (item_of mem9 (lt9 l9 (by decide))), ?_⟩
    refine ⟨_, rfl, r9, _, _, _, rfl, rfl, R, at_of (j := 8) rfl (item_of mem9 (lt9 l9 (by decide))), ?_⟩
    refine ⟨_, rfl, _, rfl, fun x dxx nx nd ne => ⟨x, dxx, _, _, _, _, _, _, _, _, _, _, _, rfl, upd_same, fun H6 kp6 hx => ⟨rfl, ?_⟩⟩⟩
    have s6 : Same H5 H6 := made_same nx nd kp6
    have U5 := U4.mono s5
    have kp14 : Keep [u] H H4 := (kp12.trans (Keep.of s3)).trans kp4
    have kp15 : Keep [u] H H5 := kp14.trans (Keep.of s5)
    have fx : H x = none := kp15.free nx (U5.ne nx)
    have flc : H lc = none := kp12.free nlc (U2.ne nlc)
    have flb : H lb = none := kp14.free nlb (U4.ne nlb)
    have fcs : ∀ c ∈ cs, H c = none := fun c hc => kp12.free (ncs c hc) (U2.ne (ncs c hc))
    have fbx : ∀ c ∈ bx, H c = none := fun c hc => kp14.free (nbx c hc) (U4.ne (nbx c hc))
    refine kk H6 x (newPart H H6) (kp15.trans (Keep.of s6)) (U5.mono s6) ?_ new_same (fun b hb => new_old hb)
    have hf : ∀ {f : Str} {v : V}, NoAttr K A.S f → List.lookup f (sf (.int ((nine.getD 0 0).toNat : Int)) (.int ((nine.getD 1 0).toNat : Int)) (.int ((nine.getD 2 0).toNat : Int)) (.int ((nine.getD 3 0).toNat : Int)) (.int ((nine.getD 4 0).toNat : Int)) (.int ((nine.getD 5 0).toNat : Int)) (.int ((nine.getD 6 0).toNat : Int)) (.int ((nine.getD 7 0).toNat : Int)) (.int ((nine.getD 8 0).toNat : Int)) (.ref lc) (.ref lb)) = some v → HasF K (newPart H H6) x f v :=
      fun {f v} ha hv => HasF.new ⟨A.S, dxx, _, hx, T.clS, ha, hv⟩ fx
    refine ⟨hf T.s1 rfl, hf T.s2 rfl, hf T.s3 rfl, hf T.s4 rfl, hf T.s5 rfl, hf T.s6 rfl, hf T.s7 rfl, hf T.s8 rfl, hf T.s9 rfl, ⟨lc, cs, hf T.s10 rfl, ?_, ?_⟩, ⟨lb, bx, hf T.s11 rfl, ?_, ?_⟩⟩
    · rw [new_at flc]
      exact s6 _ _ (s5 _ _ (kp4 _ _ hlc (U2.ne nlc)))
    · have e : (Kp139Neutral.sheet nine za zb).anchor = ancs za na := ancs_eq Z.la
      rw [e]
      refine ⟨hcs.1, fun i c A' h1 h2 => ?_⟩
      have hm := List.mem_of_getElem? h1
      have q := ((hcs.2 i c A' h1 h2).keep kp4 (U2.ne (ncs c hm))).mono (s5.trans s6)
      exact q.new (fcs c hm)
    · rw [new_at flb]
      exact s6 _ _ hlb
    · refine ⟨hbx.1, fun i c B h1 h2 => ?_⟩
      have hm := List.mem_of_getElem? h1
      exact ((hbx.2 i c B h1 h2).mono s6).new (fbx c hm)
end
end My
end
section
set_option Elab.async false
set_option linter.all false
set_option maxRecDepth 100000
set_option maxHeartbeats 4000000
namespace My
open PySem PySem.Spec PyProof.Rows L2
abbrev S0 := Kp139Neutral.S
def stepS (s : S0) (q : Kp139.Call) : S0 × Kp139.Ans := match s with
  | some a => (some (Kp139.act a q).1, (Kp139.act a q).2)
  | none => (if (Kp139.act Kp139Neutral.dummy q).2 = .num 0 then some (Kp139.act Kp139Neutral.dummy q).1 else none, (Kp139.act Kp139Neutral.dummy q).2)
structure RelS (K : PySem.W.Frag) (A : Ad) (H : Hp) (t l m : Addr) (ex : List Addr) (s : S0) : Prop where
  core : ∃ sv n, TallyAt A H t sv n l m ∧ ∀ a, s = some a → ∃ sa bs Hs, sv = .ref sa ∧ n = a.sheets ∧ SheetAt K Hs sa a.s bs ∧ Same Hs H ∧ (∀ b ∈ t :: l :: m :: ex, Hs b = none) ∧ H l = some (.lst (a.sure.map nV)) ∧ H m = some (.lst (a.maybe.map nV)) ∧
    a.sure.length = bs.length ∧ a.maybe.length = bs.length ∧ rightB a.s bs true ∧ a.s.all = bs
  ll : ∃ xs, H l = some (.lst xs)
  mm : ∃ xs, H m = some (.lst xs)
  lm : l ≠ m
  tx : ¬ t ∈ ex
  lx : ¬ l ∈ ex
  mx : ¬ m ∈ ex
theorem Keep.wk {ex ex' : List Addr} {H H' : Hp} (k : Keep ex H H') (h : ∀ b ∈ ex, b ∈ ex') : Keep ex' H H' := fun b o e hb => k b o e fun hm => hb (h b hm)
theorem RelS.keepU {K : PySem.W.Frag} {A : Ad} {H H' : Hp} {t l m u : Addr} {ex : List Addr} {s : S0} (R : RelS K A H t l m ex s) (k : Keep [u] H H') (hu : u ∈ ex) : RelS K A H' t l m ex s := by
  obtain ⟨⟨sv, n, ⟨dx, hT⟩, hs⟩, ⟨xs, ll⟩, ⟨ys, mm⟩, lm, tx, lx, mx⟩ := R
  have ne : ∀ {b : Addr}, ¬ b ∈ ex → ¬ b ∈ [u] := fun {b} hb hm => hb (by rw [List.mem_singleton.mp hm]; exact hu)
  refine ⟨⟨sv, n, ⟨dx, k _ _ hT (ne tx)⟩, fun a ea => ?_⟩, ⟨xs, k _ _ ll (ne lx)⟩, ⟨ys, k _ _ mm (ne mx)⟩, lm, tx, lx, mx⟩
  obtain ⟨sa, bs, Hs, h1, h2, h3, h4, h5, h6, h7, h8⟩ := hs a ea
  exact ⟨sa, bs, Hs, h1, h2, h3, k.same h4 fun b hb => h5 b (by rw [List.mem_singleton.mp hb]; simp [hu]), h5, k _ _ h6 (ne lx), k _ _ h7 (ne mx), h8⟩
theorem RelS.same {K : PySem.W.Frag} {A : Ad} {H H' : Hp} {t l m : Addr} {ex : List Addr} {s : S0} (R : RelS K A H t l m ex s) (k : Same H H') : RelS K A H' t l m ex s := by
  obtain ⟨⟨sv, n, hT, hs⟩, ⟨xs, ll⟩, ⟨ys, mm⟩, lm, tx, lx, mx⟩ := R
  refine ⟨⟨sv, n, hT.mono k, fun a ea => ?_⟩, ⟨xs, k _ _ ll⟩, ⟨ys, k _ _ mm⟩, lm, tx, lx, mx⟩
  obtain ⟨sa, bs, Hs, h1, h2, h3, h4, h5, h6, h7, h8⟩ := hs a ea
  exact ⟨sa, bs, Hs, h1, h2, h3, h4.trans k, h5, k _ _ h6, k _ _ h7, h8⟩
def AnsV (H : Hp) (v : V) (a : Kp139.Ans) : Prop := match a with
  | .num z => v = .int z
  | .out zs => ∃ r, v = .ref r ∧ H r = some (.lst (zs.map nV)) ∧ zs.length ≤ 1000
def picB (ps : List Int) : List Nat := (Kp139Neutral.nats ps ++ List.replicate (Kp139.ROOM - ps.length) 0).take Kp139.ROOM
def Post (K : PySem.W.Frag) (A : Ad) (H : Hp) (Q : VK) (t u c l m : Addr) (ex : List Addr) (s : S0) (q : Kp139.Call) (k' : Nat) : Prop :=
  ∀ (H' : Hp) (v : V) (l' m' : Addr), Keep [t, l, m, u] H H' → RelS K A H' t l' m' ex (stepS s q).1 → (l' = l ∨ H l' = none) → (m' = m ∨ H m' = none) → CursorAt A H' u c k' → AnsV H' v (stepS s q).2 → Q v H'
def spAnswer (K : PySem.W.Frag) (A : Ad) : Sp := fun vs H Q _ => ∃ (t u c : Addr) (k : Nat) (l m : Addr) (ns : List Int) (Hc : Hp) (ex : List Addr) (s : S0), vs = [.ref t, .ref u] ∧ CursorAt A H u c k ∧ NumsAt K Hc H c u ns ∧ RelS K A H t l m ex s ∧ u ∈ ex ∧ (∀ b ∈ ex, H b ≠ none) ∧
  ((∃ nine za zb na nb rest, ns[k]? = some 0 ∧ SheetNs ns (k + 1) nine za zb na nb rest ∧ Post K A H Q t u c l m ex s (.start (Kp139Neutral.sheet nine za zb)) (k + 1 + 9 + 1 + za.length + 1 + zb.length)) ∨
   (∃ a ps rest, s = some a ∧ ns.drop k = 1 :: (ps.length : Int) :: (ps ++ rest) ∧ Pic a.s ps ∧ a.sheets < 4294967295 ∧ Post K A H Q t u c l m ex s (.sheet (picB ps) 0) (k + 1 + 1 + ps.length)) ∨
   (∃ a z rest, s = some a ∧ ns.drop k = 2 :: z :: rest ∧ 0 ≤ z ∧ Post K A H Q t u c l m ex s (.count z.toNat) (k + 1 + 1)))
/-! ### the machine's steps -/
theorem act_bad {sh : Kp138.Sheet} (h : Kp138.good sh = false) (a : Kp139.Abs) : Kp139.act a (.start sh) = (a, .num (-22)) := by
  show (if Kp138.good sh = false then (a, Kp139.Ans.num (-22)) else (Kp139.start sh, Kp139.Ans.num 0)) = _
  rw [if_pos h]
theorem act_good {sh : Kp138.Sheet} (h : Kp138.good sh = true) (a : Kp139.Abs) : Kp139.act a (.start sh) = (Kp139.start sh, .num 0) := by
  show (if Kp138.good sh = false then (a, Kp139.Ans.num (-22)) else (Kp139.start sh, Kp139.Ans.num 0)) = _
  rw [if_neg (by rw [h]; exact fun z => nomatch z)]
theorem step_bad {s : S0} {sh : Kp138.Sheet} (h : Kp138.good sh = false) : stepS s (.start sh) = (s, .num (-22)) := by
  cases s with
  | none =>
    show ((if (Kp139.act Kp139Neutral.dummy (.start sh)).2 = .num 0 then some (Kp139.act Kp139Neutral.dummy (.start sh)).1 else none), (Kp139.act Kp139Neutral.dummy (.start sh)).2) = _
    rw [act_bad h]
    rfl
  | some a =>
    show (some (Kp139.act a (.start sh)).1, (Kp139.act a (.start sh)).2) = _
    rw [act_bad h]
theorem step_start {s : S0} {sh : Kp138.Sheet} (h : Kp138.good sh = true) : stepS s (.start sh) = (some (Kp139.start sh), .num 0) := by
  cases s with
  | none =>
    show ((if (Kp139.act Kp139Neutral.dummy (.start sh)).2 = .num 0 then some (Kp139.act Kp139Neutral.dummy (.start sh)).1 else none), (Kp139.act Kp139Neutral.dummy (.start sh)).2) = _
    rw [act_good h]
    rfl
  | some a =>
    show (some (Kp139.act a (.start sh)).1, (Kp139.act a (.start sh)).2) = _
    rw [act_good h]
theorem pic_eq {s : Kp138.Sheet} {bs : List Kp138.Box} {ps : List Int} (ok : Ok s bs) (pic : Pic s ps) : Kp139.pic s (picB ps) = nP ps := by
  have hle : ps.length ≤ Kp139.ROOM := by
    rw [pic.len]
    exact Nat.mul_le_mul ok.w2 ok.h2
  unfold Kp139.pic picB
  rw [List.take_take, ← pic.len, Nat.min_eq_left hle, List.take_left' (by unfold Kp139Neutral.nats; rw [List.length_map])]
  rfl
theorem step_sheet {a : Kp139.Abs} {bs : List Kp138.Box} {ps : List Int} (ok : Ok a.s bs) (pic : Pic a.s ps) (hn : a.sheets < 4294967295) :
    (Kp138.found a.s (nP ps) = .faint → stepS (some a) (.sheet (picB ps) 0) = (some a, .num (-61))) ∧ (Kp138.found a.s (nP ps) = .none_ → stepS (some a) (.sheet (picB ps) 0) = (some a, .num (-2))) ∧
    ∀ d t n, Kp138.found a.s (nP ps) = .here d t n → stepS (some a) (.sheet (picB ps) 0) = (some (Kp139.add a (Kp138.read a.s (nP ps) d t)), .out ((List.range 64).map fun f => if f < a.s.fields then Kp139.result a.s (Kp138.read a.s (nP ps) d t) f else Kp139.NONE)) := by
  have hf : ¬ a.sheets = Kp139.FULL := by
    unfold Kp139.FULL
    omega
  have e : Kp139.act a (.sheet (picB ps) 0) = (match Kp139.seen a.s (nP ps) with
      | .inl v => (a, Kp139.Ans.num v)
      | .inr t => (Kp139.add a t, Kp139.Ans.out ((List.range 64).map fun f => if f < a.s.fields then Kp139.result a.s t f else Kp139.NONE))) := by
    rw [← pic_eq ok pic]
    exact if_neg hf
  have es : stepS (some a) (.sheet (picB ps) 0) = (some (Kp139.act a (.sheet (picB ps) 0)).1, (Kp139.act a (.sheet (picB ps) 0)).2) := rfl
  refine ⟨fun h => ?_, fun h => ?_, fun d t n h => ?_⟩
  · rw [es, e]
    unfold Kp139.seen
    rw [h]
  · rw [es, e]
    unfold Kp139.seen
    rw [h]
  · rw [es, e]
    unfold Kp139.seen
    rw [h]
theorem out_math {s : Kp138.Sheet} {bs : List Kp138.Box} {ts : List Nat} (ok : Ok s bs) (h : s.all = bs) (hl : ts.length = bs.length) : ((List.range 64).map fun f => if f < s.fields then Kp139.result s ts f else Kp139.NONE) = (List.range 64).map fun f => fieldR (rowL bs ts f) := by
  refine List.map_congr_left fun f _ => ?_
  by_cases hf : f < s.fields
  · rw [if_pos hf, result_math h hl]
  · rw [if_neg hf]
    have e : rowL bs ts f = [] := by
      unfold rowL
      rw [List.map_eq_nil_iff, List.filter_eq_nil_iff]
      intro q hq
      have := ok.box q.1 (List.of_mem_zip (show (q.1, q.2) ∈ bs.zip ts from hq)).1
      simp
      omega
    rw [e]
    rfl
section
variable {P : Program} {w : World} {K : PySem.W.Frag} {mg : Str → Option Value} {base : Heap} {A : Ad}
theorem sc50 : FnScope ["tally", "cursor", "call"] ["tally", "cursor"] (defScope (top 50)) := ⟨rfl, rfl, rfl, by decide +kernel, rfl, by decide +kernel, by decide +kernel⟩
theorem ok50 {f : Addr} {fd : FuncData} (F : Fun K "answer_call" "answer_call" (top 50) f fd) (T : Tx K A) (M : Mg mg) (u2 : Mth P w K mg base 1 A.U "take" ["self"] (spTake K A)) (u4 : Mth P w K mg base 2 A.U "take_row" ["self"] (spRow K A)) (d49 : Def P w K mg base 4 "take_sheet" ["cursor"] (spTakeSheet K A))
    (t1 : Mth P w K mg base 5 A.T "oc_start" ["self", "sheet"] (spStart K A)) (t2 : Mth P w K mg base 7 A.T "oc_sheet" ["self", "picture"] (spSheet K A)) (t4 : Mth P w K mg base 1 A.T "oc_count" ["self", "k"] (spCount A)) : FnOk P w K mg base CX0 8 f fd ["tally", "cursor"] (spAnswer K A) := by
  refine F.ok sc50 (fun vs H Q E h => ?_) (fun cdv Ar outer sh H vs Q E hr h => ?_)
  · obtain ⟨t, u, c, k, l, m, ns, Hc, ex, s, rfl, _⟩ := h
    rfl
  · refine gen fun G' hG => ?_
    obtain ⟨t, u, c, k, l, m, ns, Hc, ex, s, rfl, U, N, R, hu, hex, h⟩ := h
    refine hG ?_
    refine ⟨_, pss_cons (ps_set (i := 2) sc50.nd rfl (Or.inl rfl) (pe_mth0 (pv 1) u2 hr)) <|
      pss_cons (ps_if (pt_cmpR op_eq (pv 2) (pe_cst M.start (by rfl)) (nomark _)) (pss_one (ps_ret (pe_mth (pv 0) t1 hr (pa_cons (pe_def d49 hr (by rfl) (pa_cons (pv 1) pa_nil)) pa_nil)))) pss_nil) <|
      pss_cons (ps_if (pt_cmpR op_eq (pv 2) (pe_cst M.sheet (by rfl)) (nomark _)) (pss_one (ps_ret (pe_mth (pv 0) t2 hr (pa_cons (pe_mth0 (pv 1) u4 hr) pa_nil)))) pss_nil) <|
      pss_one <| ps_ret (pe_mth (pv 0) t4 hr (pa_cons (pe_mth0 (pv 1) u2 hr) pa_nil)), ?_⟩
    refine gen fun G' hG => ?_
    obtain ⟨dx, hU⟩ := id U.ex
    refine hG ?_
    have big : ∀ b ∈ [u], b ∈ [t, l, m, u] := fun b hb => by rw [List.mem_singleton.mp hb]; simp
    refine sg fun Ra hRa => ?_
    rcases h with ⟨nine, za, zb, na, nb, rest, hz, Z, post⟩ | ⟨a, ps, rest, rfl, hz, pic, hsh, post⟩ | ⟨a, z, rest, rfl, hz, hz0, post⟩
    · refine ⟨_, rfl, u, dx, _, rfl, hU, rfl, u, c, k, ns, 0, Hc, rfl, U, N, hz, fun H1 kp1 U1 => hRa _ _ ?_⟩
      have R1 := R.keepU kp1 hu
      refine gen fun G' hG => ?_
      obtain ⟨sv, n, hT1, _⟩ := id R1.core
      obtain ⟨dxT, hT1'⟩ := id hT1.ex
      refine hG ?_
      refine sg fun Rb hRb => ⟨_, rfl, rfl, _, rfl, ?_⟩
      refine ⟨_, rfl, t, dxT, _, rfl, hT1', rfl, _, rfl, u, c, k + 1, ns, Hc, nine, za, zb, na, nb, rest, rfl, U1, N.keep kp1, Z, fun H2 sa Hs kp2 U2 S sHs hnew => ?_⟩
      have kp12 := kp1.trans kp2
      have R2 := R1.keepU kp2 hu
      refine gen fun G' hG => ?_
      obtain ⟨sv2, n2, hT2, _⟩ := id R2.core
      refine hG ?_
      have hb := sheet_boxes (nine := nine) (za := za) Z.lb
      have ha : (boxs zb nb).length ≤ 256 → (Kp139Neutral.sheet nine za zb).all = boxs zb nb := sheet_all Z.lb
      have hst : Hs t = none := hnew t (by rw [hT1']; exact fun z => nomatch z)
      refine ⟨t, sa, _, _, sv2, n2, l, m, Hs, rfl, hT2, S, sHs, hst, fun hf H3 s3 => ?_, fun ht H3 l' m' kp3 hT3 hl3 hm3 nl3 nm3 hlm => ?_⟩
      · have e := step_bad (s := s) ((right_false hb ha).mp hf)
        refine post H3 _ l m ((kp12.trans (Keep.of s3)).wk big) ?_ (.inl rfl) (.inl rfl) (U2.mono s3) ?_
        · rw [e]
          exact R2.same s3
        · rw [e]
          rfl
      · have e := step_start (s := s) ((good_right hb ha).mpr ht)
        have ok := ok_of ht
        have eall := ha ok.b2
        have hex2 : ∀ b ∈ ex, H2 b ≠ none := fun b hbx hn => by
          by_cases hbu : b ∈ [u]
          · exact U2.ne hn hbu
          · cases q : H b with
            | none => exact hex b hbx q
            | some o =>
              rw [kp12 b o q hbu] at hn
              cases hn
        have hex1 : ∀ b ∈ ex, H1 b ≠ none := fun b hbx hn => by
          by_cases hbu : b ∈ [u]
          · exact U1.ne hn hbu
          · cases q : H b with
            | none => exact hex b hbx q
            | some o =>
              rw [kp1 b o q hbu] at hn
              cases hn
        have nHs : ∀ {b : Addr}, H2 b = none → Hs b = none := fun {b} hn => sHs.free hn
        have tu : ¬ u ∈ [t] := fun hm => R.tx (by rw [← List.mem_singleton.mp hm]; exact hu)
        have kp3' : Keep [t, l, m, u] H2 H3 := kp3.wk fun b hb => by rw [List.mem_singleton.mp hb]; simp
        refine post H3 _ l' m' ((kp12.wk big).trans kp3') ?_ (.inr (kp12.free nl3 (U2.ne nl3))) (.inr (kp12.free nm3 (U2.ne nm3))) ?_ ?_
        · rw [e]
          have esure : ((Kp139.start (Kp139Neutral.sheet nine za zb)).sure.map nV) = List.replicate (boxs zb nb).length (.int 0) := by
            show ((Kp139Neutral.sheet nine za zb).all.map fun _ => 0).map nV = _
            rw [eall, List.map_map]
            exact List.map_const' ..
          refine ⟨⟨.ref sa, 0, hT3, fun a ea => ?_⟩, ⟨_, hl3⟩, ⟨_, hm3⟩, hlm, R.tx, fun hm => hex2 _ hm nl3, fun hm => hex2 _ hm nm3⟩
          have ea' : Kp139.start (Kp139Neutral.sheet nine za zb) = a := Option.some.inj ea
          subst ea'
          refine ⟨sa, boxs zb nb, Hs, rfl, rfl, S, kp3.same sHs (fun b hb => by rw [List.mem_singleton.mp hb]; exact hst), fun b hb => ?_, by rw [esure]; exact hl3, by rw [show (Kp139.start (Kp139Neutral.sheet nine za zb)).maybe.map nV = List.replicate (boxs zb nb).length (.int 0) from esure]; exact hm3, ?_, ?_, ht, eall⟩
          · rcases List.mem_cons.mp hb with q | hb
            · rw [q]; exact hst
            · rcases List.mem_cons.mp hb with q | hb
              · rw [q]; exact nHs nl3
              · rcases List.mem_cons.mp hb with q | hb
                · rw [q]; exact nHs nm3
                · exact hnew b (hex1 b hb)
          · show ((Kp139Neutral.sheet nine za zb).all.map fun _ => 0).length = _
            rw [List.length_map, eall]
          · show ((Kp139Neutral.sheet nine za zb).all.map fun _ => 0).length = _
            rw [List.length_map, eall]
        · refine gen fun G' hG => ?_
          obtain ⟨dx2, hU2⟩ := U2.ex
          refine hG ?_
          exact ⟨dx2, kp3 _ _ hU2 tu⟩
        · rw [e]
          rfl
    · refine gen fun G' hG => ?_
      obtain ⟨hz1, q1⟩ := at_at hz
      obtain ⟨hz2, q2⟩ := at_at q1
      refine hG ?_
      have ep : (ns.drop (k + 1 + 1)).take ps.length = ps := by rw [q2, List.take_left' rfl]
      refine ⟨_, rfl, u, dx, _, rfl, hU, rfl, u, c, k, ns, 1, Hc, rfl, U, N, hz1, fun H1 kp1 U1 => hRa _ _ ?_⟩
      have R1 := R.keepU kp1 hu
      refine gen fun G' hG => ?_
      obtain ⟨sv, n, hT1, _⟩ := id R1.core
      obtain ⟨dxT, hT1'⟩ := id hT1.ex
      obtain ⟨dx1, hU1⟩ := id U1.ex
      refine hG ?_
      refine sg fun Rb hRb => ⟨_, rfl, rfl, _, rfl, hRb _ _ ?_⟩
      refine sg fun Rc hRc => ⟨_, rfl, rfl, _, rfl, ?_⟩
      refine ⟨_, rfl, t, dxT, _, rfl, hT1', rfl, _, rfl, u, dx1, _, rfl, hU1, rfl, u, c, k + 1, ps.length, ns, Hc, rfl, U1, N.keep kp1, hz2, fun H2 r kp2 nr hr2 U2 => ?_⟩
      rw [ep] at hr2
      have kp12 := kp1.trans kp2
      have R2 := R1.keepU kp2 hu
      refine gen fun G' hG => ?_
      obtain ⟨sv2, n2, hT2, hs2⟩ := id R2.core
      obtain ⟨sa, bs, Hs, rfl, rfl, S, sHs, hnone, hl2, hm2, ls, lp, ht, eall⟩ := hs2 a rfl
      refine hG ?_
      have ok := ok_of ht
      refine gen fun G' hG => ?_
      obtain ⟨e1, e2, e3⟩ := step_sheet ok pic hsh
      refine hG ?_
      refine ⟨t, r, sa, a.s, bs, ps, _, l, m, a.sure, a.maybe, Hs, rfl, hT2, S, sHs, hnone t (by simp), hnone l (by simp), hnone m (by simp), hl2, hm2, ls, lp, R.lm, SqL.of hr2, ht, pic, hsh, fun ef H3 s3 => ?_, fun ef H3 s3 => ?_, fun d th cc ef H3 r3 kp3 nr3 hT3 hl3 hm3 hr3 => ?_⟩
      · refine post H3 _ l m ((kp12.trans (Keep.of s3)).wk big) ?_ (.inl rfl) (.inl rfl) (U2.mono s3) ?_
        · rw [e1 ef]
          exact R2.same s3
        · rw [e1 ef]
          rfl
      · refine post H3 _ l m ((kp12.trans (Keep.of s3)).wk big) ?_ (.inl rfl) (.inl rfl) (U2.mono s3) ?_
        · rw [e2 ef]
          exact R2.same s3
        · rw [e2 ef]
          rfl
      · have ets : Kp138.read a.s (nP ps) d th = bs.map (Kp138.boxTold a.s (nP ps) d th) := by
          unfold Kp138.read
          rw [eall]
        have lts : (bs.map (Kp138.boxTold a.s (nP ps) d th)).length = bs.length := List.length_map _
        have e := e3 d th cc ef
        rw [ets] at e
        generalize bs.map (Kp138.boxTold a.s (nP ps) d th) = ts at e lts hl3 hm3 hr3
        have kp3' : Keep [t, l, m, u] H2 H3 := kp3.wk fun b hb => by
          simp only [List.mem_cons, List.not_mem_nil, or_false] at hb ⊢
          rcases hb with q | q | q
          · exact .inl q
          · exact .inr (.inl q)
          · exact .inr (.inr (.inl q))
        have tu : ¬ u ∈ [t, l, m] := fun hm => by
          simp only [List.mem_cons, List.not_mem_nil, or_false] at hm
          rcases hm with q | q | q
          · exact R.tx (by rw [← q]; exact hu)
          · exact R.lx (by rw [← q]; exact hu)
          · exact R.mx (by rw [← q]; exact hu)
        refine post H3 _ l m ((kp12.wk big).trans kp3') ?_ (.inl rfl) (.inl rfl) ?_ ?_
        · rw [e]
          refine ⟨⟨.ref sa, _, hT3, fun a' ea => ?_⟩, ⟨_, hl3⟩, ⟨_, hm3⟩, R.lm, R.tx, R.lx, R.mx⟩
          have ea' : Kp139.add a ts = a' := Option.some.inj ea
          subst ea'
          have esu : (Kp139.add a ts).sure = Kp139.count a.sure (sureK bs ts) := count_congr fun k hk => sure_math eall lts (by omega)
          have epe : (Kp139.add a ts).maybe = Kp139.count a.maybe (perK bs ts) := count_congr fun k hk => perhaps_math eall lts (by omega)
          refine ⟨sa, bs, Hs, rfl, rfl, S, kp3.same sHs (fun b hb => hnone b (by
            simp only [List.mem_cons, List.not_mem_nil, or_false] at hb ⊢
            rcases hb with q | q | q
            · exact .inl q
            · exact .inr (.inl q)
            · exact .inr (.inr (.inl q)))), hnone, by rw [esu]; exact hl3, by rw [epe]; exact hm3, by rw [esu, count_len]; exact ls, by rw [epe, count_len]; exact lp, ht, eall⟩
        · refine gen fun G' hG => ?_
          obtain ⟨dx2, hU2⟩ := U2.ex
          refine hG ?_
          exact ⟨dx2, kp3 _ _ hU2 tu⟩
        · rw [e]
          show ∃ r, V.ref r3 = .ref r ∧ _
          rw [out_math ok eall lts]
          exact ⟨r3, rfl, hr3, by rw [List.length_map, List.length_range]; decide⟩
    · refine gen fun G' hG => ?_
      obtain ⟨hz1, q1⟩ := at_at hz
      obtain ⟨hz2, q2⟩ := at_at q1
      refine hG ?_
      refine ⟨_, rfl, u, dx, _, rfl, hU, rfl, u, c, k, ns, 2, Hc, rfl, U, N, hz1, fun H1 kp1 U1 => hRa _ _ ?_⟩
      have R1 := R.keepU kp1 hu
      refine gen fun G' hG => ?_
      obtain ⟨sv, n, hT1, _⟩ := id R1.core
      obtain ⟨dxT, hT1'⟩ := id hT1.ex
      obtain ⟨dx1, hU1⟩ := id U1.ex
      refine hG ?_
      refine sg fun Rb hRb => ⟨_, rfl, rfl, _, rfl, hRb _ _ ?_⟩
      refine sg fun Rc hRc => ⟨_, rfl, rfl, _, rfl, hRc _ _ ?_⟩
      refine ⟨_, rfl, t, dxT, _, rfl, hT1', rfl, _, rfl, u, dx1, _, rfl, hU1, rfl, u, c, k + 1, ns, z, Hc, rfl, U1, N.keep kp1, hz2, fun H2 kp2 U2 => ?_⟩
      have kp12 := kp1.trans kp2
      have R2 := R1.keepU kp2 hu
      refine gen fun G' hG => ?_
      obtain ⟨sv2, n2, hT2, hs2⟩ := id R2.core
      obtain ⟨sa, bs, Hs, rfl, rfl, S, sHs, hnone, hl2, hm2, ls, lp, ht, eall⟩ := hs2 a rfl
      refine hG ?_
      have estep : stepS (some a) (.count z.toNat) = (some a, if a.s.all.length ≤ z.toNat then .num (-22) else .out [a.sure.getD z.toNat 0, a.maybe.getD z.toNat 0, a.sheets]) := rfl
      refine ⟨t, z.toNat, _, _, l, m, a.sure, a.maybe, by rw [Int.toNat_of_nonneg hz0]; rfl, hT2, hl2, hm2, by rw [ls, lp], fun hk => ?_, fun x y hx hy H3 r s3 nr hr3 => ?_⟩
      · rw [eall, ← ls, if_pos hk] at estep
        refine post H2 _ l m (kp12.wk big) ?_ (.inl rfl) (.inl rfl) U2 ?_
        · rw [estep]
          exact R2
        · rw [estep]
          rfl
      · have hk := (List.getElem?_eq_some_iff.mp hx).1
        rw [eall, ← ls, if_neg (by omega)] at estep
        refine post H3 _ l m ((kp12.trans (Keep.of s3)).wk big) ?_ (.inl rfl) (.inl rfl) (U2.mono s3) ?_
        · rw [estep]
          exact R2.same s3
        · rw [estep]
          refine ⟨r, rfl, ?_, by show 3 ≤ 1000; decide⟩
          rw [hr3, List.getD_eq_getElem?_getD, List.getD_eq_getElem?_getD, hx, hy]
          rfl
end
end My
end
section
set_option Elab.async false
set_option linter.all false
set_option maxRecDepth 100000
set_option maxHeartbeats 2000000
namespace My
open PySem PySem.Spec PyProof.Rows L2
/-! ### the numbers as calls -/
theorem row_some {l x t : List Int} (h : PyFlat.row l = some (x, t)) : l = (x.length : Int) :: (x ++ t) := by
  cases l with
  | nil => cases h
  | cons n r =>
    have h : (if 0 ≤ n ∧ n.toNat ≤ r.length then some (r.take n.toNat, r.drop n.toNat) else none) = some (x, t) := h
    by_cases hc : 0 ≤ n ∧ n.toNat ≤ r.length
    · rw [if_pos hc] at h
      have h := Option.some.inj h
      injection h with h1 h2
      subst h1 h2
      rw [List.take_append_drop, List.length_take, Nat.min_eq_left hc.2]
      congr 1
      omega
    · rw [if_neg hc] at h
      cases h
theorem rows_succ {k : Nat} {l t : List Int} {xs : List (List Int)} (h : PyFlat.rows (k + 1) l = some (xs, t)) : ∃ x s ys, PyFlat.row l = some (x, s) ∧ PyFlat.rows k s = some (ys, t) ∧ xs = x :: ys := by
  unfold PyFlat.rows at h
  cases e : PyFlat.row l with
  | none =>
    rw [e] at h
    cases h
  | some p =>
    obtain ⟨x, s⟩ := p
    rw [e] at h
    dsimp only at h
    cases e2 : PyFlat.rows k s with
    | none =>
      rw [e2] at h
      cases h
    | some p2 =>
      obtain ⟨ys, t2⟩ := p2
      rw [e2] at h
      have h := Option.some.inj h
      injection h with h1 h2
      subst h1 h2
      exact ⟨x, s, ys, rfl, e2, rfl⟩
theorem rows_zero {l t : List Int} {xs : List (List Int)} (h : PyFlat.rows 0 l = some (xs, t)) : xs = [] ∧ l = t := by
  have h := Option.some.inj (show some ([], l) = some (xs, t) from h)
  injection h with h1 h2
  exact ⟨h1.symm, h2⟩
def ShN (s : S0) : Nat := match s with
  | none => 0
  | some a => a.sheets
theorem act_sheets (a : Kp139.Abs) (q : Kp139.Call) : (Kp139.act a q).1.sheets ≤ a.sheets + 1 := by
  cases q with
  | start s =>
    cases h : Kp138.good s with
    | false => rw [act_bad h]; exact Nat.le_succ _
    | true => rw [act_good h]; exact Nat.zero_le _
  | sheet b wy =>
    show (if a.sheets = Kp139.FULL then (a, Kp139.Ans.num (-28)) else match Kp139.seen a.s (Kp139.pic a.s b) with
      | .inl v => (a, Kp139.Ans.num v)
      | .inr t => (Kp139.add a t, Kp139.Ans.out ((List.range 64).map fun f => if f < a.s.fields then Kp139.result a.s t f else Kp139.NONE))).1.sheets ≤ _
    split
    · exact Nat.le_succ _
    · split
      · exact Nat.le_succ _
      · exact Nat.le_refl _
  | count k => exact Nat.le_succ _
theorem step_sheets (s : S0) (q : Kp139.Call) : ShN (stepS s q).1 ≤ ShN s + 1 := by
  cases s with
  | some a => exact act_sheets a q
  | none =>
    show ShN (if (Kp139.act Kp139Neutral.dummy q).2 = .num 0 then some (Kp139.act Kp139Neutral.dummy q).1 else none) ≤ 1
    split
    · exact act_sheets Kp139Neutral.dummy q
    · exact Nat.zero_le _
/-- what a call is, and how its numbers stand -/
def Form (ns : List Int) (k : Nat) (s : S0) (q : Kp139.Call) (k' : Nat) : Prop :=
  (∃ nine za zb na nb rest, q = .start (Kp139Neutral.sheet nine za zb) ∧ k' = k + 1 + 9 + 1 + za.length + 1 + zb.length ∧ ns[k]? = some 0 ∧ SheetNs ns (k + 1) nine za zb na nb rest) ∨
  (∃ a ps rest, q = .sheet (picB ps) 0 ∧ k' = k + 1 + 1 + ps.length ∧ s = some a ∧ ns.drop k = 1 :: (ps.length : Int) :: (ps ++ rest) ∧ Pic a.s ps) ∨
  (∃ a z rest, q = .count z.toNat ∧ k' = k + 1 + 1 ∧ s = some a ∧ ns.drop k = 2 :: z :: rest ∧ 0 ≤ z)
theorem step_of {s : S0} {c : List (List Int)} {q : Kp139.Call} (h : Kp139Neutral.callOf c = some q) (hs : s = none → ∃ sh, q = .start sh) : Kp139Neutral.step s c = ((stepS s q).1, Kp139Neutral.ansOf (stepS s q).2) := by
  unfold Kp139Neutral.step
  rw [h]
  cases s with
  | some a => rfl
  | none =>
    obtain ⟨sh, rfl⟩ := hs rfl
    rfl
theorem nine_of : ∀ {l : List Int}, l.length = 9 → ∃ x0 x1 x2 x3 x4 x5 x6 x7 x8, l = [x0, x1, x2, x3, x4, x5, x6, x7, x8]
  | [x0, x1, x2, x3, x4, x5, x6, x7, x8], _ => ⟨x0, x1, x2, x3, x4, x5, x6, x7, x8, rfl⟩
theorem one_num : ∀ {l : List Int}, l.length = 1 → ∃ x, l = [x]
  | [x], _ => ⟨x, rfl⟩
theorem next {ns : List Int} {k f : Nat} {cs : List (List (List Int))} {s : S0} (hc : PyFlat.calls PyKp139.shape f (ns.drop k) = some cs) (ha : Kp139Neutral.askedFrom s (cs.map PyKp139.whole) = true) (hk : k < ns.length) (hn : ∀ z ∈ ns, 0 ≤ z) (hle : ns.length ≤ 100000) :
    ∃ q k' f' cs', cs.length = cs'.length + 1 ∧ PyFlat.calls PyKp139.shape f' (ns.drop k') = some cs' ∧ Kp139Neutral.askedFrom (stepS s q).1 (cs'.map PyKp139.whole) = true ∧
      PyFlat.played Kp139Neutral.step s (cs.map PyKp139.whole) = Kp139Neutral.ansOf (stepS s q).2 :: PyFlat.played Kp139Neutral.step (stepS s q).1 (cs'.map PyKp139.whole) ∧ k < k' ∧ Form ns k s q k' := by
  obtain ⟨p, r, er⟩ : ∃ p r, ns.drop k = p :: r := by
    cases e : ns.drop k with
    | nil =>
      have := congrArg List.length e
      rw [List.length_drop] at this
      simp at this
      omega
    | cons p r => exact ⟨p, r, rfl⟩
  obtain ⟨hp, hr⟩ := at_at er
  rw [er] at hc
  cases f with
  | zero => cases hc
  | succ f =>
    have hc : (match PyFlat.call PyKp139.shape (p :: r) with
      | none => none
      | some (c, t) => match PyFlat.calls PyKp139.shape f t with
        | none => none
        | some cs => some (c :: cs)) = some cs := hc
    cases e1 : PyFlat.call PyKp139.shape (p :: r) with
    | none =>
      rw [e1] at hc
      cases hc
    | some ct =>
      obtain ⟨c, t⟩ := ct
      rw [e1] at hc
      cases e2 : PyFlat.calls PyKp139.shape f t with
      | none =>
        dsimp only at hc
        rw [e2] at hc
        cases hc
      | some cs' =>
        dsimp only at hc
        rw [e2] at hc
        have ecs : c :: cs' = cs := Option.some.inj hc
        subst ecs
        -- what is asked of this call
        have ha : (Kp139Neutral.asked1 (PyKp139.whole c) && (Kp139Neutral.may s (PyKp139.whole c) && Kp139Neutral.askedFrom (Kp139Neutral.step s (PyKp139.whole c)).1 (cs'.map PyKp139.whole))) = true := ha
        rw [Bool.and_eq_true, Bool.and_eq_true] at ha
        obtain ⟨a1, a2, a3⟩ := ha
        have fin : ∀ (q : Kp139.Call) (k' : Nat), Kp139Neutral.callOf (PyKp139.whole c) = some q → (s = none → ∃ sh, q = .start sh) → ns.drop k' = t → k < k' → Form ns k s q k' →
            ∃ q k' f' cs'', (c :: cs').length = cs''.length + 1 ∧ PyFlat.calls PyKp139.shape f' (ns.drop k') = some cs'' ∧ Kp139Neutral.askedFrom (stepS s q).1 (cs''.map PyKp139.whole) = true ∧
              PyFlat.played Kp139Neutral.step s ((c :: cs').map PyKp139.whole) = Kp139Neutral.ansOf (stepS s q).2 :: PyFlat.played Kp139Neutral.step (stepS s q).1 (cs''.map PyKp139.whole) ∧ k < k' ∧ Form ns k s q k' := by
          intro q k' hq hs ht hkk hf
          have es := step_of hq hs
          refine ⟨q, k', f, cs', rfl, by rw [ht]; exact e2, ?_, ?_, hkk, hf⟩
          · rw [es] at a3
            exact a3
          · show (Kp139Neutral.step s (PyKp139.whole c)).2 :: PyFlat.played Kp139Neutral.step (Kp139Neutral.step s (PyKp139.whole c)).1 (cs'.map PyKp139.whole) = _
            rw [es]
        -- the form of the call
        have e1 : (match PyKp139.shape p with
          | none => none
          | some (n, j) => if r.length < n then none else match PyFlat.rows j (r.drop n) with
            | none => none
            | some (xs, t) => some ((p :: r.take n) :: xs, t)) = some (c, t) := e1
        by_cases h0 : p = 0
        · subst h0
          have e1 : (if r.length < 9 then none else match PyFlat.rows 2 (r.drop 9) with
            | none => none
            | some (xs, t) => some ((0 :: r.take 9) :: xs, t)) = some (c, t) := e1
          by_cases h9 : r.length < 9
          · rw [if_pos h9] at e1
            cases e1
          · rw [if_neg h9] at e1
            cases r0 : PyFlat.rows 2 (r.drop 9) with
            | none =>
              rw [r0] at e1
              cases e1
            | some xs =>
              obtain ⟨xs, t1⟩ := xs
              rw [r0] at e1
              have e1 := Option.some.inj e1
              injection e1 with ec et
              subst et
              obtain ⟨za, s1, ys, r1, ra, rfl⟩ := rows_succ r0
              obtain ⟨zb, s2, ws, r2, rb, rfl⟩ := rows_succ ra
              obtain ⟨rfl, rfl⟩ := rows_zero rb
              · skip
                have g1 := row_some r1
                have g2 := row_some r2
                obtain ⟨x0, x1, x2, x3, x4, x5, x6, x7, x8, e9⟩ := nine_of (l := r.take 9) (by rw [List.length_take]; omega)
                rw [e9] at ec
                subst ec
                have a1 : Kp139Neutral.sheetAsked [x0, x1, x2, x3, x4, x5, x6, x7, x8] za zb = true := a1
                unfold Kp139Neutral.sheetAsked at a1
                simp only [Bool.and_eq_true, decide_eq_true_eq] at a1
                have er9 : r = [x0, x1, x2, x3, x4, x5, x6, x7, x8] ++ ((za.length : Int) :: (za ++ ((zb.length : Int) :: (zb ++ s2)))) := by
                  conv => lhs; rw [← List.take_append_drop 9 r]
                  rw [e9, g1, g2]
                have Z : SheetNs ns (k + 1) [x0, x1, x2, x3, x4, x5, x6, x7, x8] za zb 4 (zb.length / 6) s2 := ⟨by rw [hr]; exact er9, rfl, by omega, by omega, hle, hn⟩
                have q1 := drop_at Z.at_
                have q2 := (at_at q1).2
                have q3 := drop_at q2
                have q4 := (at_at q3).2
                have q5 := drop_at q4
                refine fin (.start (Kp139Neutral.sheet [x0, x1, x2, x3, x4, x5, x6, x7, x8] za zb)) (k + 1 + 9 + 1 + za.length + 1 + zb.length) rfl (fun _ => ⟨_, rfl⟩) q5 (by omega) ?_
                exact .inl ⟨_, za, zb, _, _, s2, rfl, rfl, hp, Z⟩
        · by_cases h1 : p = 1
          · subst h1
            have e1 : (if r.length < 0 then none else match PyFlat.rows 1 (r.drop 0) with
              | none => none
              | some (xs, t) => some ((1 :: r.take 0) :: xs, t)) = some (c, t) := e1
            rw [if_neg (Nat.not_lt_zero _)] at e1
            cases r0 : PyFlat.rows 1 (r.drop 0) with
            | none =>
              rw [r0] at e1
              cases e1
            | some xs =>
              obtain ⟨xs, t0⟩ := xs
              rw [r0] at e1
              have e1 := Option.some.inj e1
              injection e1 with ec et
              subst et
              obtain ⟨ps, t1, ys, r1, ra, rfl⟩ := rows_succ r0
              obtain ⟨rfl, rfl⟩ := rows_zero ra
              rw [List.drop_zero] at r1
              rw [List.take_zero] at ec
              subst ec
              have g1 := row_some r1
              cases s with
              | none =>
                have a2 : Kp139Neutral.opens [[1], ps] = true := a2
                cases a2
              | some a =>
                have a2 : decide (ps.length = a.s.width * a.s.height) = true := a2
                have a2 := of_decide_eq_true a2
                have a1 : (ps.all fun z => Kp139Neutral.natural z 8) = true := a1
                rw [List.all_eq_true] at a1
                have hd : ns.drop k = 1 :: (ps.length : Int) :: (ps ++ t1) := by rw [er, g1]
                have q1 := (at_at hd).2
                have q2 := (at_at q1).2
                have q3 := drop_at q2
                refine fin (.sheet (picB ps) 0) (k + 1 + 1 + ps.length) rfl (fun e => nomatch e) q3 (by omega) ?_
                refine .inr (.inl ⟨a, ps, t1, rfl, rfl, rfl, hd, a2, fun x hx => ?_⟩)
                have := a1 x hx
                unfold Kp139Neutral.natural at this
                simp only [Bool.and_eq_true, decide_eq_true_eq] at this
                omega
          · by_cases h2 : p = 2
            · subst h2
              have e1 : (if r.length < 1 then none else match PyFlat.rows 0 (r.drop 1) with
                | none => none
                | some (xs, t) => some ((2 :: r.take 1) :: xs, t)) = some (c, t) := e1
              by_cases h9 : r.length < 1
              · rw [if_pos h9] at e1
                cases e1
              · rw [if_neg h9] at e1
                have e1 : some ([2 :: r.take 1], r.drop 1) = some (c, t) := e1
                have e1 := Option.some.inj e1
                injection e1 with ec et
                obtain ⟨z, ez⟩ := one_num (l := r.take 1) (by rw [List.length_take]; omega)
                rw [ez] at ec
                subst ec et
                cases s with
                | none =>
                  have a2 : Kp139Neutral.opens [[2, z]] = true := a2
                  cases a2
                | some a =>
                  have hd : ns.drop k = 2 :: z :: r.drop 1 := by
                    rw [er]
                    congr 1
                    conv => lhs; rw [← List.take_append_drop 1 r, ez]
                    rfl
                  have q1 := (at_at hd).2
                  obtain ⟨hz, q2⟩ := at_at q1
                  refine fin (.count z.toNat) (k + 1 + 1) rfl (fun e => nomatch e) q2 (by omega) ?_
                  exact .inr (.inr ⟨a, z, _, rfl, rfl, rfl, hd, hn z (List.mem_of_getElem? hz)⟩)
            · have : PyKp139.shape p = none := by
                unfold PyKp139.shape
                rw [if_neg h0, if_neg h1, if_neg h2]
              rw [this] at e1
              cases e1
theorem asked_split {ns : List Int} (hask : PyKp139.answers_asked ns = true) : ∃ cs, PyFlat.calls PyKp139.shape ns.length ns = some cs ∧ cs.length ≤ 3000 ∧ Kp139Neutral.askedFrom Kp139Neutral.start (cs.map PyKp139.whole) = true ∧ PyKp139.answers ns = PyFlat.told (PyFlat.played Kp139Neutral.step Kp139Neutral.start (cs.map PyKp139.whole)) := by
  unfold PyKp139.answers_asked at hask
  unfold PyKp139.answers
  unfold PyKp139.calls at hask ⊢
  cases eraw : PyFlat.calls PyKp139.shape ns.length ns with
  | none =>
    rw [eraw] at hask
    cases hask
  | some cs =>
    rw [eraw] at hask
    have hask : (PyFlat.atMost 3000 (cs.map PyKp139.whole) && Kp139Neutral.asked (cs.map PyKp139.whole)) = true := hask
    rw [Bool.and_eq_true] at hask
    have h1 := of_decide_eq_true hask.1
    rw [List.length_map] at h1
    have h2 := hask.2
    unfold Kp139Neutral.asked at h2
    rw [Bool.and_eq_true, Bool.and_eq_true] at h2
    exact ⟨cs, rfl, h1, h2.2.2, rfl⟩
theorem done {f : Nat} {cs : List (List (List Int))} (h : PyFlat.calls PyKp139.shape f [] = some cs) : cs = [] := by
  cases f <;> exact (Option.some.inj h).symm
end My
end
section
set_option Elab.async false
set_option linter.all false
set_option maxRecDepth 100000
set_option maxHeartbeats 4000000
namespace My
open PySem PySem.Spec PyProof.Rows L2
def spAnswers (K : PySem.W.Frag) : Sp := fun vs H Q _ => ∃ (c : Addr) (ns : List Int), vs = [.ref c] ∧ SqL K H c (ns.map V.int) ∧ ns.length ≤ 30000 ∧ (∀ z ∈ ns, 0 ≤ z) ∧ PyKp139.answers_asked ns = true ∧
  ∀ (H' : Hp) (p : Addr), H' p = some (.lst ((PyKp139.answers ns).map V.int)) → Q (.ref p) H'
theorem ans_ints (a : Kp139.Ans) {H : Hp} {r : Addr} : (match a with
    | .num z => H r = some (.lst [.int 0, .int z])
    | .out zs => H r = some (.lst ([.int 1, nV zs.length] ++ zs.map nV))) → H r = some (.lst ((Kp139Neutral.ansOf a).map V.int)) := by
  cases a with
  | num z => exact fun h => h
  | out zs =>
    intro h
    have h : H r = some (.lst ([.int 1, nV zs.length] ++ zs.map nV)) := h
    rw [h]
    show some (HO.lst ([.int 1, nV zs.length] ++ zs.map nV)) = some (HO.lst (([1, (zs.length : Int)] ++ Kp139Neutral.outs zs).map V.int))
    rw [List.map_append]
    unfold Kp139Neutral.outs
    rw [List.map_map]
    rfl
theorem ans_len {a : Kp139.Ans} {H : Hp} {v : V} (h : AnsV H v a) : (Kp139Neutral.ansOf a).length ≤ 1002 := by
  cases a with
  | num z => show 2 ≤ 1002; decide
  | out zs =>
    obtain ⟨r, _, _, hl⟩ := h
    show ([1, (zs.length : Int)] ++ Kp139Neutral.outs zs).length ≤ 1002
    unfold Kp139Neutral.outs
    rw [List.length_append, List.length_map]
    show 2 + zs.length ≤ 1002
    omega
theorem told_cons (a : List Int) (l : List (List Int)) : PyFlat.told (a :: l) = ((a.length : Int) :: a) ++ PyFlat.told l := rfl
/-- between two turns -/
structure Turn0 (K : PySem.W.Frag) (A : Ad) (H0 : Hp) (c t u g : Addr) (ns : List Int) (k : Nat) (σ : St) (H : Hp) : Prop where
  ex : ∃ (l m : Addr) (s : S0) (f : Nat) (cs : List (List (List Int))) (out : List Int), CursorAt A H u c k ∧ NumsAt K H0 H c u ns ∧ RelS K A H t l m [u, g] s ∧ H g = some (.lst (out.map V.int)) ∧ H0 l = none ∧ H0 m = none ∧
    PyFlat.calls PyKp139.shape f (ns.drop k) = some cs ∧ Kp139Neutral.askedFrom s (cs.map PyKp139.whole) = true ∧ out ++ PyFlat.told (PyFlat.played Kp139Neutral.step s (cs.map PyKp139.whole)) = PyKp139.answers ns ∧ ShN s + cs.length ≤ 3000 ∧ out.length + 1003 * cs.length ≤ 1003 * 3000
  slots : ∃ v4 : Option V, σ = [some (.ref c), some (.ref t), some (.ref u), some (.ref g), v4]
section
variable {P : Program} {w : World} {K : PySem.W.Frag} {mg : Str → Option Value} {base : Heap} {A : Ad}
theorem sc52 : FnScope ["calls", "tally", "cursor", "given", "answer"] ["calls"] (defScope (top 52)) := ⟨rfl, rfl, rfl, by decide +kernel, rfl, by decide +kernel, by decide +kernel⟩
theorem ok52 {f : Addr} {fd : FuncData} (F : Fun K "answers" "answers" (top 52) f fd) (T : Tx K A) (M : Mg mg) (mT : Mak P w K mg base 1 "Tally" A.T ["self"] (spTInit A)) (mU : Mak P w K mg base 1 "Cursor" A.U ["self", "numbers"] (spUInit A)) (u1 : Mth P w K mg base 1 A.U "at_end" ["self"] (spEnd K A))
    (d50 : Def P w K mg base 8 "answer_call" ["tally", "cursor"] (spAnswer K A)) (d51 : Def P w K mg base 1 "in_numbers" ["answer"] spInNumbers) : FnOk P w K mg base CX0 9 f fd ["calls"] (spAnswers K) := by
  refine F.ok sc52 (fun vs H Q E h => ?_) (fun cdv Ar outer sh H vs Q E hr h => ?_)
  · obtain ⟨c, ns, rfl, _⟩ := h
    rfl
  · refine gen fun G' hG => ?_
    obtain ⟨c, ns, rfl, hC, hlen, h0, hask, kk⟩ := h
    refine hG ?_
    refine ⟨_, pss_cons (ps_set (i := 1) sc52.nd rfl (Or.inl rfl) (pe_mak0 mT hr (by rfl))) <|
      pss_cons (ps_set (i := 2) sc52.nd rfl (Or.inl rfl) (pe_mak mU hr (by rfl) (pa_cons (pv 0) pa_nil))) <|
      pss_cons (ps_set (i := 3) sc52.nd rfl (Or.inl rfl) (pe_lst pa_nil)) <|
      pss_cons (ps_while PassesOwn.never (pt_not (pt_val (pe_mth0 (pv 2) u1 hr))) <|
        pss_cons (ps_set (i := 4) sc52.nd rfl (Or.inl rfl) (pe_def d51 hr (by rfl) (pa_cons (pe_def d50 hr (by rfl) (pa_cons (pv 1) (pa_cons (pv 2) pa_nil))) pa_nil))) <|
        pss_cons (ps_expr <| pe_bmK (K := K) rfl PySem.F.plainAttrs_list PySem.F.slot_list_append PySem.F.type_list_append mt_append (pv 3) (pa_cons (pe_callB (call_lenK (K := K) rfl) (by rfl) M.len PySem.boot_len (pa_cons (pv 4) pa_nil)) pa_nil)) <|
        pss_one (ps_expr <| pe_bmK (K := K) rfl PySem.F.plainAttrs_list PySem.F.slot_list_extend PySem.F.type_list_extend mt_extend (pv 3) (pa_cons (pv 4) pa_nil))) <|
      pss_one <| ps_ret (pv 3), ?_⟩
    -- Tally()
    refine sg fun Ra hRa => ?_
    intro t dt nt ndt net
    have sA : Same H (upd (upd H dt (.own t)) t (.ins A.T dt [])) := ((Same.refl H).put ndt).put (by rw [upd_ne (Ne.symm net)]; exact nt)
    refine ⟨t, dt, rfl, upd_same, fun H1 l m kp1 hT1 hl1 hm1 nl nm hlm => ⟨rfl, hRa _ _ ?_⟩⟩
    have s1 : Same H H1 := made_same nt ndt kp1
    have nl0 : H l = none := sA.free nl
    have nm0 : H m = none := sA.free nm
    -- Cursor(calls)
    refine sg fun Ra hRa => ⟨_, rfl, fun u du nu ndu neu => ⟨u, du, c, rfl, upd_same, fun H2 kp2 hU2 => ⟨rfl, hRa _ _ ?_⟩⟩⟩
    have s2 : Same H1 H2 := made_same nu ndu kp2
    -- given = []
    refine sg fun Ra hRa => ⟨by show 0 ≤ sizeLine; decide, fun g ng => hRa _ _ ?_⟩
    have s3 : Same H2 (upd H2 g (.lst [])) := (Same.refl H2).put ng
    have s13 := (s1.trans s2).trans s3
    have nu0 : H u = none := s1.free nu
    have ng0 : H g = none := (s1.trans s2).free ng
    refine gen fun G' hG => ?_
    obtain ⟨dT, hT1'⟩ := id hT1.ex
    refine hG ?_
    have tu : t ≠ u := ne_of_none hT1' nu
    have lu : l ≠ u := ne_of_none hl1 nu
    have mu : m ≠ u := ne_of_none hm1 nu
    have tg : t ≠ g := ne_of_none (s2 _ _ hT1') ng
    have lg : l ≠ g := ne_of_none (s2 _ _ hl1) ng
    have mg' : m ≠ g := ne_of_none (s2 _ _ hm1) ng
    have ug : u ≠ g := ne_of_none hU2 ng
    refine gen fun G' hG => ?_
    obtain ⟨cs, eraw, hlen3, hfrom, eans⟩ := asked_split hask
    refine hG ?_
    · · skip
        refine sg fun Rw hRw => ⟨fun j σ H' => ∃ k, j = ns.length - k ∧ Turn0 K A H c t u g ns k σ H', ⟨ns.length - 0, 0, rfl, ?_⟩, ?_⟩
        · refine ⟨⟨l, m, none, ns.length, cs, [], ⟨du, s3 _ _ hU2⟩, ⟨hC, s13, nu0⟩, ?_, upd_same, nl0, nm0, eraw, hfrom, ?_, by show 0 + cs.length ≤ 3000; omega, by show 0 + _ ≤ _; omega⟩, none, rfl⟩
          · refine ⟨⟨.non, 0, (hT1.mono s2).mono s3, fun a e => nomatch e⟩, ⟨_, s3 _ _ (s2 _ _ hl1)⟩, ⟨_, s3 _ _ (s2 _ _ hm1)⟩, hlm, ?_, ?_, ?_⟩
            · simp [tu, tg]
            · simp [lu, lg]
            · simp [mu, mg']
          · rw [eans]
            rfl
        · intro j σ H3 hp3
          refine gen fun G' hG => ?_
          obtain ⟨k, rfl, ⟨l, m, s, f', cs, out, U, N, R, hg, nl, nm, hcs, hfr, hout, hsh, hol⟩, v4, rfl⟩ := hp3
          refine hG ?_
          refine gen fun G' hG => ?_
          obtain ⟨dU, hU⟩ := id U.ex
          refine hG ?_
          refine ⟨_, rfl, u, dU, _, rfl, hU, rfl, u, c, k, ns, H, rfl, U, N, _, rfl, ?_⟩
          refine rite (fun hb => ?_) (fun hb => ?_)
          · have hk : k < ns.length := by
              cases hd : decide ((ns.length : Int) ≤ k) with
              | true =>
                rw [hd] at hb
                cases hb
              | false =>
                have := of_decide_eq_false hd
                omega
            refine gen fun G' hG => ?_
            obtain ⟨q, k', f2, cs', hl1, hc1, ha1, hp1, hkk, form⟩ := next hcs hfr hk h0 (by omega)
            refine hG ?_
            refine ⟨fun σ' H' => Turn0 K A H c t u g ns k' σ' H' ∧ k < k', fun σ' H' h => ⟨ns.length - k', Nat.sub_lt_sub_left hk h.2, k', rfl, h.1⟩, ?_⟩
            have post : Post K A H3 (fun v H4 => spInNumbers ([v] ++ []) H4 (fun x H5 => tSeq (tDrop (tBM K "list" rAppend (tVar 3) (tCons (tCB (rLen K) (tCons (tVar 4) tNil)) tNil))) (tDrop (tBM K "list" rExtend (tVar 3) (tCons (tVar 4) tNil)))
                { nx := fun σ' H' => Turn0 K A H c t u g ns k' σ' H' ∧ k < k', rt := Q } [some (.ref c), some (.ref t), some (.ref u), some (.ref g), some x] H5) E0) t u c l m [u, g] s q k' := by
              intro H4 v l' m' kp4 R4 hl4 hm4 U4 av
              have gex : ¬ g ∈ [t, l, m, u] := fun hm' => by
                simp only [List.mem_cons, List.not_mem_nil, or_false] at hm'
                rcases hm' with e | e | e | e
                · exact R.tx (by rw [e]; simp)
                · exact R.lx (by rw [← e]; simp)
                · exact R.mx (by rw [← e]; simp)
                · exact ug e.symm
              have hg4 := kp4 _ _ hg gex
              have sH4 : Same H H4 := kp4.same N.same fun b hb => by
                simp only [List.mem_cons, List.not_mem_nil, or_false] at hb
                rcases hb with e | e | e | e
                · rw [e]; exact nt
                · rw [e]; exact nl
                · rw [e]; exact nm
                · rw [e]; exact nu0
              have nl' : H l' = none := by
                rcases hl4 with e | e
                · rw [e]; exact nl
                · exact N.same.free e
              have nm' : H m' = none := by
                rcases hm4 with e | e
                · rw [e]; exact nm
                · exact N.same.free e
              have alen := ans_len av
              have sizes := sizeLine_eq
              -- behind in_numbers
              have go : ∀ (H5 : Hp) (r : Addr), Same H4 H5 → H4 r = none → H5 r = some (.lst ((Kp139Neutral.ansOf (stepS s q).2).map V.int)) →
                  tSeq (tDrop (tBM K "list" rAppend (tVar 3) (tCons (tCB (rLen K) (tCons (tVar 4) tNil)) tNil))) (tDrop (tBM K "list" rExtend (tVar 3) (tCons (tVar 4) tNil)))
                    { nx := fun σ' H' => Turn0 K A H c t u g ns k' σ' H' ∧ k < k', rt := Q } [some (.ref c), some (.ref t), some (.ref u), some (.ref g), some (.ref r)] H5 := by
                intro H5 r s5 nr hr5
                have hg5 := s5 _ _ hg4
                have rg : r ≠ g := Ne.symm (ne_of_none hg4 nr)
                refine ⟨_, rfl, .inl ⟨rfl, _, SqL.of hg5⟩, _, rfl, r, _, rfl, .inl (SqL.of hr5), g, _, _, rfl, rfl, hg5, by rw [List.length_map]; omega, ?_⟩
                refine ⟨_, rfl, .inl ⟨rfl, _, SqL.of upd_same⟩, _, rfl, g, r, _, _, rfl, rfl, upd_same, by rw [upd_ne rg]; exact hr5, by rw [List.length_append, List.length_map, List.length_map]; show _ + 1 + _ ≤ _; omega, ?_⟩
                have kp6 : Keep [g] H5 (upd (upd H5 g (.lst (out.map V.int ++ [.int (((Kp139Neutral.ansOf (stepS s q).2).map V.int).length : Nat)]))) g (.lst ((out.map V.int ++ [.int (((Kp139Neutral.ansOf (stepS s q).2).map V.int).length : Nat)]) ++ (Kp139Neutral.ansOf (stepS s q).2).map V.int))) := (keep1 (o' := .lst [])).trans (keep1 (o' := .lst []))
                have ugn : ¬ u ∈ [g] := fun hm' => ug (List.mem_singleton.mp hm')
                refine ⟨⟨⟨l', m', (stepS s q).1, f2, cs', out ++ (((Kp139Neutral.ansOf (stepS s q).2).length : Int) :: Kp139Neutral.ansOf (stepS s q).2), ?_, ⟨hC, kp6.same (sH4.trans s5) (fun b hb => by rw [List.mem_singleton.mp hb]; exact ng0), nu0⟩, (R4.same s5).keepU kp6 (by simp), ?_, nl', nm', hc1, ha1, ?_, ?_, ?_⟩, _, rfl⟩, hkk⟩
                · refine gen fun G' hG => ?_
                  obtain ⟨d4, e4⟩ := (U4.mono s5).ex
                  refine hG ?_
                  exact ⟨d4, kp6 _ _ e4 ugn⟩
                · rw [upd_same, List.map_append, List.length_map]
                  congr 2
                  rw [List.append_assoc]
                  rfl
                · rw [hp1, told_cons] at hout
                  rw [List.append_assoc]
                  exact hout
                · have := step_sheets s q
                  omega
                · rw [List.length_append, List.length_cons]
                  omega
              generalize eans2 : (stepS s q).2 = ans at av go
              cases ans with
              | num z =>
                have ev : v = .int z := av
                subst ev
                refine .inl ⟨z, rfl, fun H5 r s5 nr hr5 => ?_⟩
                exact go H5 r s5 nr (ans_ints (.num z) hr5)
              | out zs =>
                refine gen fun G' hG => ?_
                obtain ⟨r0, rfl, hr0, hz⟩ := av
                refine hG ?_
                refine .inr ⟨r0, zs, rfl, hr0, hz, fun H5 r s5 nr hr5 => ?_⟩
                exact go H5 r s5 nr (ans_ints (.out zs) hr5)
            have hex : ∀ b ∈ [u, g], H3 b ≠ none := fun b hb hn => by
              simp only [List.mem_cons, List.not_mem_nil, or_false] at hb
              rcases hb with e | e
              · rw [e, hU] at hn
                cases hn
              · rw [e, hg] at hn
                cases hn
            refine ⟨_, rfl, _, rfl, t, u, c, k, l, m, ns, H, [u, g], s, rfl, U, N, R, by simp, hex, ?_⟩
            rcases form with ⟨nine, za, zb, na, nb, rest, rfl, rfl, hz, Z⟩ | ⟨a, ps, rest, rfl, rfl, rfl, hd, pic⟩ | ⟨a, z, rest, rfl, rfl, rfl, hd, hz⟩
            · exact .inl ⟨nine, za, zb, na, nb, rest, hz, Z, post⟩
            · exact .inr (.inl ⟨a, ps, rest, rfl, hd, pic, by have : ShN (some a) = a.sheets := rfl; omega, post⟩)
            · exact .inr (.inr ⟨a, z, rest, rfl, hd, hz, post⟩)
          · have hk : ns.length ≤ k := by
              cases hd : decide ((ns.length : Int) ≤ k) with
              | true =>
                have := of_decide_eq_true hd
                omega
              | false =>
                rw [hd] at hb
                cases hb
            rw [List.drop_eq_nil_of_le hk] at hcs
            have ec := done hcs
            subst ec
            have hout : out ++ [] = PyKp139.answers ns := hout
            rw [List.append_nil] at hout
            refine hRw _ _ ⟨_, rfl, kk H3 g ?_⟩
            rw [← hout]
            exact hg
end
end My
end
section
set_option Elab.async false
set_option linter.all false
set_option maxRecDepth 100000
set_option maxHeartbeats 4000000
namespace My
open PySem PySem.Spec PyProof.Rows L2
/-! ### what the top has written -/
def TopD (K : PySem.W.Frag) (mg : Str → Option Value) (x : Str) (st : Stmt) : Prop := ∃ (f : Addr) (fd : FuncData), Fun K x x st f fd ∧ mg x = some (.ref f)
def MetD (K : PySem.W.Frag) (C : Addr) (m qual : Str) (st : Stmt) : Prop := ∃ (f : Addr) (fd : FuncData), Fun K m qual st f fd ∧ Meth K C m f
def ClsD (K : PySem.W.Frag) (mg : Str → Option Value) (x : Str) (C : Addr) : Prop := mg x = some (.ref C) ∧ PySem.W.makesIn K C = true ∧ PySem.W.keepIn K (.ref C) = true
theorem topD_mk {K : PySem.W.Frag} {h : Heap} {mg : Str → Option Value} {x : Str} {st : Stmt} {f : Addr} {oc kV doc pm cdv ct : Value} {od an : Option Addr} {osl : Array (Option Value)} (X : K.In h) (G : h.Ns mainGlobals mg) (a : PySem.W.nsIn K mainGlobals x = some (some (.ref f)))
    (l : K.lookup f = some ⟨oc, od, .func (PySem.W.fnOf x x (defArgs st) (defBody st) (defScope st) .none kV doc pm an cdv ct), osl⟩) (c : PySem.W.codeIn K cdv x = true) (k : PySem.W.keepIn K (.ref f) = true) : TopD K mg x st := ⟨f, _, fun_mk l c k, PySem.W.mg_of X G a⟩
theorem metD_mk {K : PySem.W.Frag} {C : Addr} {m qual : Str} {st : Stmt} {f : Addr} {oc kV doc pm cdv ct : Value} {od an : Option Addr} {osl : Array (Option Value)} (a : PySem.W.findIn K (.ref C) m = some (some (.ref f))) (i : PySem.W.isFn K (.ref f) = true)
    (l : K.lookup f = some ⟨oc, od, .func (PySem.W.fnOf m qual (defArgs st) (defBody st) (defScope st) .none kV doc pm an cdv ct), osl⟩) (c : PySem.W.codeIn K cdv qual = true) (k : PySem.W.keepIn K (.ref f) = true) : MetD K C m qual st := ⟨f, _, fun_mk l c k, ⟨a, i, k⟩⟩
theorem clsD_mk {K : PySem.W.Frag} {h : Heap} {mg : Str → Option Value} {x : Str} {C : Addr} (X : K.In h) (G : h.Ns mainGlobals mg) (a : PySem.W.nsIn K mainGlobals x = some (some (.ref C))) (m : PySem.W.makesIn K C = true) (k : PySem.W.keepIn K (.ref C) = true) : ClsD K mg x C := ⟨PySem.W.mg_of X G a, m, k⟩
theorem cls_mk {K : PySem.W.Frag} {C : Addr} (pg : PySem.W.plainGet K C Str.empty = true) (hd : PySem.W.hasDictIn K C = true) (po : PySem.W.plainOver K C = true) (sa : PySem.W.findIn K (.ref C) "__setattr__" = some (some (.builtin "object.__setattr__"))) : Cls K C := ⟨pg, hd, po, sa⟩
theorem na_mk {K : PySem.W.Frag} {C : Addr} {f : Str} (h : PySem.W.findIn K (.ref C) f = some none) : NoAttr K C f := h
theorem cst_mk {K : PySem.W.Frag} {h : Heap} {mg : Str → Option Value} {x : Str} {i : Int} {t : Tok} (X : K.In h) (G : h.Ns mainGlobals mg) (a : PySem.W.nsIn K mainGlobals x = some (some (.int i t))) : ∃ t, mg x = some (Value.int i t) := ⟨t, PySem.W.mg_of X G a⟩
theorem len0 {us : List Value} (h : us.length = 0) : us = [] := List.length_eq_zero_iff.mp h
theorem lenS {n : Nat} {us : List Value} (h : us.length = n + 1) : ∃ x vs, us = x :: vs ∧ vs.length = n := by
  cases us with
  | nil => cases h
  | cons x vs => exact ⟨x, vs, rfl, Nat.succ.inj h⟩
theorem len1 {us : List Value} (h : us.length = 1) : ∃ x0, us = [x0] := by
  obtain ⟨x0, vs, rfl, h2⟩ := lenS h
  rw [len0 h2]
  exact ⟨x0, rfl⟩
theorem len2 {us : List Value} (h : us.length = 2) : ∃ x0 x1, us = [x0, x1] := by
  obtain ⟨x0, vs, rfl, h2⟩ := lenS h
  obtain ⟨x1, rfl⟩ := len1 h2
  exact ⟨x0, x1, rfl⟩
theorem len3 {us : List Value} (h : us.length = 3) : ∃ x0 x1 x2, us = [x0, x1, x2] := by
  obtain ⟨x0, vs, rfl, h2⟩ := lenS h
  obtain ⟨x1, x2, rfl⟩ := len2 h2
  exact ⟨x0, x1, x2, rfl⟩
theorem len4 {us : List Value} (h : us.length = 4) : ∃ x0 x1 x2 x3, us = [x0, x1, x2, x3] := by
  obtain ⟨x0, vs, rfl, h2⟩ := lenS h
  obtain ⟨x1, x2, x3, rfl⟩ := len3 h2
  exact ⟨x0, x1, x2, x3, rfl⟩
theorem len5 {us : List Value} (h : us.length = 5) : ∃ x0 x1 x2 x3 x4, us = [x0, x1, x2, x3, x4] := by
  obtain ⟨x0, vs, rfl, h2⟩ := lenS h
  obtain ⟨x1, x2, x3, x4, rfl⟩ := len4 h2
  exact ⟨x0, x1, x2, x3, x4, rfl⟩
theorem len6 {us : List Value} (h : us.length = 6) : ∃ x0 x1 x2 x3 x4 x5, us = [x0, x1, x2, x3, x4, x5] := by
  obtain ⟨x0, vs, rfl, h2⟩ := lenS h
  obtain ⟨x1, x2, x3, x4, x5, rfl⟩ := len5 h2
  exact ⟨x0, x1, x2, x3, x4, x5, rfl⟩
theorem len7 {us : List Value} (h : us.length = 7) : ∃ x0 x1 x2 x3 x4 x5 x6, us = [x0, x1, x2, x3, x4, x5, x6] := by
  obtain ⟨x0, vs, rfl, h2⟩ := lenS h
  obtain ⟨x1, x2, x3, x4, x5, x6, rfl⟩ := len6 h2
  exact ⟨x0, x1, x2, x3, x4, x5, x6, rfl⟩
theorem len8 {us : List Value} (h : us.length = 8) : ∃ x0 x1 x2 x3 x4 x5 x6 x7, us = [x0, x1, x2, x3, x4, x5, x6, x7] := by
  obtain ⟨x0, vs, rfl, h2⟩ := lenS h
  obtain ⟨x1, x2, x3, x4, x5, x6, x7, rfl⟩ := len7 h2
  exact ⟨x0, x1, x2, x3, x4, x5, x6, x7, rfl⟩
theorem len9 {us : List Value} (h : us.length = 9) : ∃ x0 x1 x2 x3 x4 x5 x6 x7 x8, us = [x0, x1, x2, x3, x4, x5, x6, x7, x8] := by
  obtain ⟨x0, vs, rfl, h2⟩ := lenS h
  obtain ⟨x1, x2, x3, x4, x5, x6, x7, x8, rfl⟩ := len8 h2
  exact ⟨x0, x1, x2, x3, x4, x5, x6, x7, x8, rfl⟩
theorem len10 {us : List Value} (h : us.length = 10) : ∃ x0 x1 x2 x3 x4 x5 x6 x7 x8 x9, us = [x0, x1, x2, x3, x4, x5, x6, x7, x8, x9] := by
  obtain ⟨x0, vs, rfl, h2⟩ := lenS h
  obtain ⟨x1, x2, x3, x4, x5, x6, x7, x8, x9, rfl⟩ := len9 h2
  exact ⟨x0, x1, x2, x3, x4, x5, x6, x7, x8, x9, rfl⟩
theorem len11 {us : List Value} (h : us.length = 11) : ∃ x0 x1 x2 x3 x4 x5 x6 x7 x8 x9 x10, us = [x0, x1, x2, x3, x4, x5, x6, x7, x8, x9, x10] := by
  obtain ⟨x0, vs, rfl, h2⟩ := lenS h
  obtain ⟨x1, x2, x3, x4, x5, x6, x7, x8, x9, x10, rfl⟩ := len10 h2
  exact ⟨x0, x1, x2, x3, x4, x5, x6, x7, x8, x9, x10, rfl⟩
theorem len12 {us : List Value} (h : us.length = 12) : ∃ x0 x1 x2 x3 x4 x5 x6 x7 x8 x9 x10 x11, us = [x0, x1, x2, x3, x4, x5, x6, x7, x8, x9, x10, x11] := by
  obtain ⟨x0, vs, rfl, h2⟩ := lenS h
  obtain ⟨x1, x2, x3, x4, x5, x6, x7, x8, x9, x10, x11, rfl⟩ := len11 h2
  exact ⟨x0, x1, x2, x3, x4, x5, x6, x7, x8, x9, x10, x11, rfl⟩
theorem all_mk {P : Program} {w : World} {K : PySem.W.Frag} {mg : Str → Option Value} {fa : Addr} {A : Ad} (hfa : mg "answers" = some (.ref fa))
    (kC : ClsD K mg "Corner" A.C)
    (kB : ClsD K mg "Box" A.B)
    (kS : ClsD K mg "Sheet" A.S)
    (kT : ClsD K mg "Tally" A.T)
    (kU : ClsD K mg "Cursor" A.U)
    (T : Tx K A)
    (M : Mg mg)
    (d5 : TopD K mg "between" (top 5))
    (d6 : TopD K mg "lies_within" (top 6))
    (d7 : TopD K mg "overlap" (top 7))
    (d8 : TopD K mg "square_of" (top 8))
    (d9 : TopD K mg "zone_of" (top 9))
    (d10 : TopD K mg "area_of" (top 10))
    (d11 : TopD K mg "measures_right" (top 11))
    (d12 : TopD K mg "corner_right" (top 12))
    (d13 : TopD K mg "box_right" (top 13))
    (d14 : TopD K mg "fields_right" (top 14))
    (d15 : TopD K mg "om_right" (top 15))
    (d22 : TopD K mg "ink_of" (top 22))
    (d23 : TopD K mg "ink_within" (top 23))
    (d24 : TopD K mg "ink_in_squares" (top 24))
    (d25 : TopD K mg "best_shift" (top 25))
    (d26 : TopD K mg "om_find" (top 26))
    (d27 : TopD K mg "told_of" (top 27))
    (d28 : TopD K mg "om_read" (top 28))
    (d36 : TopD K mg "told_by_field" (top 36))
    (d37 : TopD K mg "told_of_field" (top 37))
    (d38 : TopD K mg "is_sure" (top 38))
    (d39 : TopD K mg "is_perhaps" (top 39))
    (d47 : TopD K mg "corners_from" (top 47))
    (d48 : TopD K mg "boxes_from" (top 48))
    (d49 : TopD K mg "take_sheet" (top 49))
    (d50 : TopD K mg "answer_call" (top 50))
    (d51 : TopD K mg "in_numbers" (top 51))
    (d52 : TopD K mg "answers" (top 52))
    (eC0 : MetD K A.C "__init__" "Corner.__init__" (inClass (top 2) 0))
    (eB0 : MetD K A.B "__init__" "Box.__init__" (inClass (top 3) 0))
    (eS0 : MetD K A.S "__init__" "Sheet.__init__" (inClass (top 4) 0))
    (eT0 : MetD K A.T "__init__" "Tally.__init__" (inClass (top 40) 0))
    (eT1 : MetD K A.T "oc_start" "Tally.oc_start" (inClass (top 40) 1))
    (eT3 : MetD K A.T "count_sheet" "Tally.count_sheet" (inClass (top 40) 3))
    (eT2 : MetD K A.T "oc_sheet" "Tally.oc_sheet" (inClass (top 40) 2))
    (eT4 : MetD K A.T "oc_count" "Tally.oc_count" (inClass (top 40) 4))
    (eU0 : MetD K A.U "__init__" "Cursor.__init__" (inClass (top 46) 0))
    (eU1 : MetD K A.U "at_end" "Cursor.at_end" (inClass (top 46) 1))
    (eU2 : MetD K A.U "take" "Cursor.take" (inClass (top 46) 2))
    (eU3 : MetD K A.U "take_several" "Cursor.take_several" (inClass (top 46) 3))
    (eU4 : MetD K A.U "take_row" "Cursor.take_row" (inClass (top 46) 4)) :
    ∃ fd : FuncData, (∀ (s : Shared) (us : List Value), us.length = (["calls"] : List Str).length → BindsTo s fd ⟨us, []⟩ ((["calls"] : List Str).zip us)) ∧ ∀ base : Heap, K.In base → base.Ns mainGlobals mg → FnOk P w K mg base CX0 9 fa fd ["calls"] (spAnswers K) := by
  obtain ⟨f5, fd5, F5, m5⟩ := d5
  have b5 := F5.binds (ps := ["number", "least", "most"]) fun _ _ _ _ _ _ us hl => by obtain ⟨x0, x1, x2, rfl⟩ := len3 hl; rfl
  have D5 : ∀ base : Heap, Def P w K mg base 1 "between" ["number", "least", "most"] spBetween := fun base => ⟨f5, fd5, ok5 F5, m5, F5.kp, b5⟩
  obtain ⟨f6, fd6, F6, m6⟩ := d6
  have b6 := F6.binds (ps := ["inner", "outer"]) fun _ _ _ _ _ _ us hl => by obtain ⟨x0, x1, rfl⟩ := len2 hl; rfl
  have D6 : ∀ base : Heap, Def P w K mg base 1 "lies_within" ["inner", "outer"] (spWithin K) := fun base => ⟨f6, fd6, ok6 F6, m6, F6.kp, b6⟩
  obtain ⟨f7, fd7, F7, m7⟩ := d7
  have b7 := F7.binds (ps := ["one", "other"]) fun _ _ _ _ _ _ us hl => by obtain ⟨x0, x1, rfl⟩ := len2 hl; rfl
  have D7 : ∀ base : Heap, Def P w K mg base 1 "overlap" ["one", "other"] (spOverlap K) := fun base => ⟨f7, fd7, ok7 F7, m7, F7.kp, b7⟩
  obtain ⟨f8, fd8, F8, m8⟩ := d8
  have b8 := F8.binds (ps := ["sheet", "corner"]) fun _ _ _ _ _ _ us hl => by obtain ⟨x0, x1, rfl⟩ := len2 hl; rfl
  have D8 : ∀ base : Heap, Def P w K mg base 1 "square_of" ["sheet", "corner"] (spSquare K) := fun base => ⟨f8, fd8, ok8 F8, m8, F8.kp, b8⟩
  obtain ⟨f9, fd9, F9, m9⟩ := d9
  have b9 := F9.binds (ps := ["sheet", "corner"]) fun _ _ _ _ _ _ us hl => by obtain ⟨x0, x1, rfl⟩ := len2 hl; rfl
  have D9 : ∀ base : Heap, Def P w K mg base 2 "zone_of" ["sheet", "corner"] (spZone K) := fun base => ⟨f9, fd9, ok9 F9 (D8 base), m9, F9.kp, b9⟩
  obtain ⟨f10, fd10, F10, m10⟩ := d10
  have b10 := F10.binds (ps := ["box"]) fun _ _ _ _ _ _ us hl => by obtain ⟨x0, rfl⟩ := len1 hl; rfl
  have D10 : ∀ base : Heap, Def P w K mg base 1 "area_of" ["box"] (spArea K) := fun base => ⟨f10, fd10, ok10 F10, m10, F10.kp, b10⟩
  obtain ⟨f11, fd11, F11, m11⟩ := d11
  have b11 := F11.binds (ps := ["sheet"]) fun _ _ _ _ _ _ us hl => by obtain ⟨x0, rfl⟩ := len1 hl; rfl
  have D11 : ∀ base : Heap, Def P w K mg base 2 "measures_right" ["sheet"] (spMeasures K) := fun base => ⟨f11, fd11, ok11 F11 M (D5 base), m11, F11.kp, b11⟩
  obtain ⟨f12, fd12, F12, m12⟩ := d12
  have b12 := F12.binds (ps := ["sheet", "place"]) fun _ _ _ _ _ _ us hl => by obtain ⟨x0, x1, rfl⟩ := len2 hl; rfl
  have D12 : ∀ base : Heap, Def P w K mg base 3 "corner_right" ["sheet", "place"] (spCornerR K) := fun base => ⟨f12, fd12, ok12 F12 M (D6 base) (D7 base) (D8 base) (D9 base) (D10 base), m12, F12.kp, b12⟩
  obtain ⟨f13, fd13, F13, m13⟩ := d13
  have b13 := F13.binds (ps := ["sheet", "box"]) fun _ _ _ _ _ _ us hl => by obtain ⟨x0, x1, rfl⟩ := len2 hl; rfl
  have D13 : ∀ base : Heap, Def P w K mg base 2 "box_right" ["sheet", "box"] (spBoxR K) := fun base => ⟨f13, fd13, ok13 F13 (D6 base) (D10 base), m13, F13.kp, b13⟩
  obtain ⟨f14, fd14, F14, m14⟩ := d14
  have b14 := F14.binds (ps := ["sheet"]) fun _ _ _ _ _ _ us hl => by obtain ⟨x0, rfl⟩ := len1 hl; rfl
  have D14 : ∀ base : Heap, Def P w K mg base 1 "fields_right" ["sheet"] (spFieldsR K) := fun base => ⟨f14, fd14, ok14 F14 M, m14, F14.kp, b14⟩
  obtain ⟨f15, fd15, F15, m15⟩ := d15
  have b15 := F15.binds (ps := ["sheet"]) fun _ _ _ _ _ _ us hl => by obtain ⟨x0, rfl⟩ := len1 hl; rfl
  have D15 : ∀ base : Heap, Def P w K mg base 4 "om_right" ["sheet"] (spRight K) := fun base => ⟨f15, fd15, ok15 F15 M (D11 base) (D12 base) (D13 base) (D14 base), m15, F15.kp, b15⟩
  obtain ⟨f22, fd22, F22, m22⟩ := d22
  have b22 := F22.binds (ps := ["picture", "edge"]) fun _ _ _ _ _ _ us hl => by obtain ⟨x0, x1, rfl⟩ := len2 hl; rfl
  have D22 : ∀ base : Heap, Def P w K mg base 1 "ink_of" ["picture", "edge"] (spInk K) := fun base => ⟨f22, fd22, ok22 F22, m22, F22.kp, b22⟩
  obtain ⟨f23, fd23, F23, m23⟩ := d23
  have b23 := F23.binds (ps := ["sheet", "ink", "x", "y", "w", "h"]) fun _ _ _ _ _ _ us hl => by obtain ⟨x0, x1, x2, x3, x4, x5, rfl⟩ := len6 hl; rfl
  have D23 : ∀ base : Heap, Def P w K mg base 1 "ink_within" ["sheet", "ink", "x", "y", "w", "h"] (spInkIn K) := fun base => ⟨f23, fd23, ok23 F23 M, m23, F23.kp, b23⟩
  obtain ⟨f24, fd24, F24, m24⟩ := d24
  have b24 := F24.binds (ps := ["sheet", "ink", "dx", "dy"]) fun _ _ _ _ _ _ us hl => by obtain ⟨x0, x1, x2, x3, rfl⟩ := len4 hl; rfl
  have D24 : ∀ base : Heap, Def P w K mg base 2 "ink_in_squares" ["sheet", "ink", "dx", "dy"] (spSquares K) := fun base => ⟨f24, fd24, ok24 F24 (D23 base), m24, F24.kp, b24⟩
  obtain ⟨f25, fd25, F25, m25⟩ := d25
  have b25 := F25.binds (ps := ["sheet", "ink"]) fun _ _ _ _ _ _ us hl => by obtain ⟨x0, x1, rfl⟩ := len2 hl; rfl
  have D25 : ∀ base : Heap, Def P w K mg base 3 "best_shift" ["sheet", "ink"] (spBest K) := fun base => ⟨f25, fd25, ok25 F25 M (D24 base), m25, F25.kp, b25⟩
  obtain ⟨f26, fd26, F26, m26⟩ := d26
  have b26 := F26.binds (ps := ["sheet", "picture"]) fun _ _ _ _ _ _ us hl => by obtain ⟨x0, x1, rfl⟩ := len2 hl; rfl
  have D26 : ∀ base : Heap, Def P w K mg base 5 "om_find" ["sheet", "picture"] (spFind K) := fun base => ⟨f26, fd26, ok26 F26 M (D15 base) (D22 base) (D25 base), m26, F26.kp, b26⟩
  obtain ⟨f27, fd27, F27, m27⟩ := d27
  have b27 := F27.binds (ps := ["sheet", "box", "has"]) fun _ _ _ _ _ _ us hl => by obtain ⟨x0, x1, x2, rfl⟩ := len3 hl; rfl
  have D27 : ∀ base : Heap, Def P w K mg base 1 "told_of" ["sheet", "box", "has"] (spTold K) := fun base => ⟨f27, fd27, ok27 F27 M, m27, F27.kp, b27⟩
  obtain ⟨f28, fd28, F28, m28⟩ := d28
  have b28 := F28.binds (ps := ["sheet", "picture"]) fun _ _ _ _ _ _ us hl => by obtain ⟨x0, x1, rfl⟩ := len2 hl; rfl
  have D28 : ∀ base : Heap, Def P w K mg base 6 "om_read" ["sheet", "picture"] (spRead K) := fun base => ⟨f28, fd28, ok28 F28 M (D26 base) (D22 base) (D23 base) (D27 base), m28, F28.kp, b28⟩
  obtain ⟨f36, fd36, F36, m36⟩ := d36
  have b36 := F36.binds (ps := ["sheet", "told"]) fun _ _ _ _ _ _ us hl => by obtain ⟨x0, x1, rfl⟩ := len2 hl; rfl
  have D36 : ∀ base : Heap, Def P w K mg base 1 "told_by_field" ["sheet", "told"] (spByField K) := fun base => ⟨f36, fd36, ok36 F36 M, m36, F36.kp, b36⟩
  obtain ⟨f37, fd37, F37, m37⟩ := d37
  have b37 := F37.binds (ps := ["row"]) fun _ _ _ _ _ _ us hl => by obtain ⟨x0, rfl⟩ := len1 hl; rfl
  have D37 : ∀ base : Heap, Def P w K mg base 1 "told_of_field" ["row"] (spField K) := fun base => ⟨f37, fd37, ok37 F37 M, m37, F37.kp, b37⟩
  obtain ⟨f38, fd38, F38, m38⟩ := d38
  have b38 := F38.binds (ps := ["reading", "row"]) fun _ _ _ _ _ _ us hl => by obtain ⟨x0, x1, rfl⟩ := len2 hl; rfl
  have D38 : ∀ base : Heap, Def P w K mg base 1 "is_sure" ["reading", "row"] (spSure K) := fun base => ⟨f38, fd38, ok38 F38 M, m38, F38.kp, b38⟩
  obtain ⟨f39, fd39, F39, m39⟩ := d39
  have b39 := F39.binds (ps := ["reading", "row"]) fun _ _ _ _ _ _ us hl => by obtain ⟨x0, x1, rfl⟩ := len2 hl; rfl
  have D39 : ∀ base : Heap, Def P w K mg base 2 "is_perhaps" ["reading", "row"] (spPerhaps K) := fun base => ⟨f39, fd39, ok39 F39 M (D37 base), m39, F39.kp, b39⟩
  obtain ⟨fC0, fdC0, FC0, mC0⟩ := eC0
  have bC0 := FC0.binds (ps := ["self", "x", "y", "zero"]) fun _ _ _ _ _ _ us hl => by obtain ⟨x0, x1, x2, x3, rfl⟩ := len4 hl; rfl
  have XC : ∀ base : Heap, Mak P w K mg base 1 "Corner" A.C ["self", "x", "y", "zero"] (spCInit A) := fun base => ⟨fC0, fdC0, ⟨kC.2.1, mC0.at_, mC0.fn, kC.2.2⟩, okC0 FC0 T, kC.1, bC0⟩
  obtain ⟨fB0, fdB0, FB0, mB0⟩ := eB0
  have bB0 := FB0.binds (ps := ["self", "x", "y", "w", "h", "field", "zero"]) fun _ _ _ _ _ _ us hl => by obtain ⟨x0, x1, x2, x3, x4, x5, x6, rfl⟩ := len7 hl; rfl
  have XB : ∀ base : Heap, Mak P w K mg base 1 "Box" A.B ["self", "x", "y", "w", "h", "field", "zero"] (spBInit A) := fun base => ⟨fB0, fdB0, ⟨kB.2.1, mB0.at_, mB0.fn, kB.2.2⟩, okB0 FB0 T, kB.1, bB0⟩
  obtain ⟨fS0, fdS0, FS0, mS0⟩ := eS0
  have bS0 := FS0.binds (ps := ["self", "width", "height", "shift", "side", "dust", "noise", "fill", "blank", "fields", "corners", "boxes"]) fun _ _ _ _ _ _ us hl => by obtain ⟨x0, x1, x2, x3, x4, x5, x6, x7, x8, x9, x10, x11, rfl⟩ := len12 hl; rfl
  have XS : ∀ base : Heap, Mak P w K mg base 1 "Sheet" A.S ["self", "width", "height", "shift", "side", "dust", "noise", "fill", "blank", "fields", "corners", "boxes"] (spSInit A) := fun base => ⟨fS0, fdS0, ⟨kS.2.1, mS0.at_, mS0.fn, kS.2.2⟩, okS0 FS0 T, kS.1, bS0⟩
  obtain ⟨fT0, fdT0, FT0, mT0⟩ := eT0
  have bT0 := FT0.binds (ps := ["self"]) fun _ _ _ _ _ _ us hl => by obtain ⟨x0, rfl⟩ := len1 hl; rfl
  have XT : ∀ base : Heap, Mak P w K mg base 1 "Tally" A.T ["self"] (spTInit A) := fun base => ⟨fT0, fdT0, ⟨kT.2.1, mT0.at_, mT0.fn, kT.2.2⟩, okT0 FT0 T, kT.1, bT0⟩
  obtain ⟨fT1, fdT1, FT1, mT1⟩ := eT1
  have bT1 := FT1.binds (ps := ["self", "sheet"]) fun _ _ _ _ _ _ us hl => by obtain ⟨x0, x1, rfl⟩ := len2 hl; rfl
  have T1 : ∀ base : Heap, Mth P w K mg base 5 A.T "oc_start" ["self", "sheet"] (spStart K A) := fun base => ⟨fT1, fdT1, T.clT, mT1, okT1 FT1 T (D15 base), bT1⟩
  obtain ⟨fT3, fdT3, FT3, mT3⟩ := eT3
  have bT3 := FT3.binds (ps := ["self", "told", "rows"]) fun _ _ _ _ _ _ us hl => by obtain ⟨x0, x1, x2, rfl⟩ := len3 hl; rfl
  have T3 : ∀ base : Heap, Mth P w K mg base 3 A.T "count_sheet" ["self", "told", "rows"] (spCountSheet K A) := fun base => ⟨fT3, fdT3, T.clT, mT3, okT3 FT3 T M (D38 base) (D39 base), bT3⟩
  obtain ⟨fT2, fdT2, FT2, mT2⟩ := eT2
  have bT2 := FT2.binds (ps := ["self", "picture"]) fun _ _ _ _ _ _ us hl => by obtain ⟨x0, x1, rfl⟩ := len2 hl; rfl
  have T2 : ∀ base : Heap, Mth P w K mg base 7 A.T "oc_sheet" ["self", "picture"] (spSheet K A) := fun base => ⟨fT2, fdT2, T.clT, mT2, okT2 FT2 T M (D28 base) (D36 base) (D37 base) (T3 base), bT2⟩
  obtain ⟨fT4, fdT4, FT4, mT4⟩ := eT4
  have bT4 := FT4.binds (ps := ["self", "k"]) fun _ _ _ _ _ _ us hl => by obtain ⟨x0, x1, rfl⟩ := len2 hl; rfl
  have T4 : ∀ base : Heap, Mth P w K mg base 1 A.T "oc_count" ["self", "k"] (spCount A) := fun base => ⟨fT4, fdT4, T.clT, mT4, okT4 FT4 T M, bT4⟩
  obtain ⟨fU0, fdU0, FU0, mU0⟩ := eU0
  have bU0 := FU0.binds (ps := ["self", "numbers"]) fun _ _ _ _ _ _ us hl => by obtain ⟨x0, x1, rfl⟩ := len2 hl; rfl
  have XU : ∀ base : Heap, Mak P w K mg base 1 "Cursor" A.U ["self", "numbers"] (spUInit A) := fun base => ⟨fU0, fdU0, ⟨kU.2.1, mU0.at_, mU0.fn, kU.2.2⟩, okU0 FU0 T, kU.1, bU0⟩
  obtain ⟨fU1, fdU1, FU1, mU1⟩ := eU1
  have bU1 := FU1.binds (ps := ["self"]) fun _ _ _ _ _ _ us hl => by obtain ⟨x0, rfl⟩ := len1 hl; rfl
  have U1 : ∀ base : Heap, Mth P w K mg base 1 A.U "at_end" ["self"] (spEnd K A) := fun base => ⟨fU1, fdU1, T.clU, mU1, okU1 FU1 T M, bU1⟩
  obtain ⟨fU2, fdU2, FU2, mU2⟩ := eU2
  have bU2 := FU2.binds (ps := ["self"]) fun _ _ _ _ _ _ us hl => by obtain ⟨x0, rfl⟩ := len1 hl; rfl
  have U2 : ∀ base : Heap, Mth P w K mg base 1 A.U "take" ["self"] (spTake K A) := fun base => ⟨fU2, fdU2, T.clU, mU2, okU2 FU2 T, bU2⟩
  obtain ⟨fU3, fdU3, FU3, mU3⟩ := eU3
  have bU3 := FU3.binds (ps := ["self", "size"]) fun _ _ _ _ _ _ us hl => by obtain ⟨x0, x1, rfl⟩ := len2 hl; rfl
  have U3 : ∀ base : Heap, Mth P w K mg base 1 A.U "take_several" ["self", "size"] (spSome K A) := fun base => ⟨fU3, fdU3, T.clU, mU3, okU3 FU3 T, bU3⟩
  obtain ⟨fU4, fdU4, FU4, mU4⟩ := eU4
  have bU4 := FU4.binds (ps := ["self"]) fun _ _ _ _ _ _ us hl => by obtain ⟨x0, rfl⟩ := len1 hl; rfl
  have U4 : ∀ base : Heap, Mth P w K mg base 2 A.U "take_row" ["self"] (spRow K A) := fun base => ⟨fU4, fdU4, T.clU, mU4, okU4 FU4 T (U2 base) (U3 base), bU4⟩
  obtain ⟨f47, fd47, F47, m47⟩ := d47
  have b47 := F47.binds (ps := ["row"]) fun _ _ _ _ _ _ us hl => by obtain ⟨x0, rfl⟩ := len1 hl; rfl
  have D47 : ∀ base : Heap, Def P w K mg base 3 "corners_from" ["row"] (spCorners K) := fun base => ⟨f47, fd47, ok47 F47 T M (XC base), m47, F47.kp, b47⟩
  obtain ⟨f48, fd48, F48, m48⟩ := d48
  have b48 := F48.binds (ps := ["row"]) fun _ _ _ _ _ _ us hl => by obtain ⟨x0, rfl⟩ := len1 hl; rfl
  have D48 : ∀ base : Heap, Def P w K mg base 3 "boxes_from" ["row"] (spBoxes K) := fun base => ⟨f48, fd48, ok48 F48 T M (XB base), m48, F48.kp, b48⟩
  obtain ⟨f49, fd49, F49, m49⟩ := d49
  have b49 := F49.binds (ps := ["cursor"]) fun _ _ _ _ _ _ us hl => by obtain ⟨x0, rfl⟩ := len1 hl; rfl
  have D49 : ∀ base : Heap, Def P w K mg base 4 "take_sheet" ["cursor"] (spTakeSheet K A) := fun base => ⟨f49, fd49, ok49 F49 T (U3 base) (U4 base) (D47 base) (D48 base) (XS base), m49, F49.kp, b49⟩
  obtain ⟨f50, fd50, F50, m50⟩ := d50
  have b50 := F50.binds (ps := ["tally", "cursor"]) fun _ _ _ _ _ _ us hl => by obtain ⟨x0, x1, rfl⟩ := len2 hl; rfl
  have D50 : ∀ base : Heap, Def P w K mg base 8 "answer_call" ["tally", "cursor"] (spAnswer K A) := fun base => ⟨f50, fd50, ok50 F50 T M (U2 base) (U4 base) (D49 base) (T1 base) (T2 base) (T4 base), m50, F50.kp, b50⟩
  obtain ⟨f51, fd51, F51, m51⟩ := d51
  have b51 := F51.binds (ps := ["answer"]) fun _ _ _ _ _ _ us hl => by obtain ⟨x0, rfl⟩ := len1 hl; rfl
  have D51 : ∀ base : Heap, Def P w K mg base 1 "in_numbers" ["answer"] spInNumbers := fun base => ⟨f51, fd51, ok51 F51 M, m51, F51.kp, b51⟩
  obtain ⟨f52, fd52, F52, m52⟩ := d52
  have e52 := hfa.symm.trans m52
  cases e52
  obtain ⟨oc, od, kV, doc, pm, an, cdv, ct, osl, rfl, lk, hcd⟩ := id F52.ex
  exact ⟨_, fun s us hu => (by obtain ⟨x0, rfl⟩ := len1 hu; exact .of_eq rfl), fun base _ _ => ok52 F52 T M (XT base) (XU base) (U1 base) (D50 base) (D51 base)⟩

theorem tx_mk {K : PySem.W.Frag} {cC cB cS cT cU : Addr} (hC : Cls K cC) (hB : Cls K cB) (hS : Cls K cS) (hT : Cls K cT) (hU : Cls K cU)
    (n0 : PySem.W.findIn K (.ref cC) "x" = some none) (n1 : PySem.W.findIn K (.ref cC) "y" = some none) (n2 : PySem.W.findIn K (.ref cC) "zero" = some none) (n3 : PySem.W.findIn K (.ref cB) "x" = some none) (n4 : PySem.W.findIn K (.ref cB) "y" = some none) (n5 : PySem.W.findIn K (.ref cB) "w" = some none) (n6 : PySem.W.findIn K (.ref cB) "h" = some none) (n7 : PySem.W.findIn K (.ref cB) "field" = some none) (n8 : PySem.W.findIn K (.ref cB) "zero" = some none) (n9 : PySem.W.findIn K (.ref cS) "width" = some none) (n10 : PySem.W.findIn K (.ref cS) "height" = some none) (n11 : PySem.W.findIn K (.ref cS) "shift" = some none) (n12 : PySem.W.findIn K (.ref cS) "side" = some none) (n13 : PySem.W.findIn K (.ref cS) "dust" = some none) (n14 : PySem.W.findIn K (.ref cS) "noise" = some none) (n15 : PySem.W.findIn K (.ref cS) "fill" = some none) (n16 : PySem.W.findIn K (.ref cS) "blank" = some none) (n17 : PySem.W.findIn K (.ref cS) "fields" = some none) (n18 : PySem.W.findIn K (.ref cS) "corners" = some none) (n19 : PySem.W.findIn K (.ref cS) "boxes" = some none) (n20 : PySem.W.findIn K (.ref cT) "sheet" = some none) (n21 : PySem.W.findIn K (.ref cT) "counted" = some none) (n22 : PySem.W.findIn K (.ref cT) "sure" = some none) (n23 : PySem.W.findIn K (.ref cT) "perhaps" = some none) (n24 : PySem.W.findIn K (.ref cU) "numbers" = some none) (n25 : PySem.W.findIn K (.ref cU) "place" = some none) : Tx K ⟨cC, cB, cS, cT, cU⟩ :=
  ⟨hC, hB, hS, hT, hU, n0, n1, n2, n3, n4, n5, n6, n7, n8, n9, n10, n11, n12, n13, n14, n15, n16, n17, n18, n19, n20, n21, n22, n23, n24, n25⟩
theorem all_mk2 {P : Program} {w : World} {K : PySem.W.Frag} {mg : Str → Option Value} {fa cC cB cS cT cU : Addr} (hfa : mg "answers" = some (.ref fa))
    (kC : ClsD K mg "Corner" cC)
    (kB : ClsD K mg "Box" cB)
    (kS : ClsD K mg "Sheet" cS)
    (kT : ClsD K mg "Tally" cT)
    (kU : ClsD K mg "Cursor" cU)
    (T : Tx K ⟨cC, cB, cS, cT, cU⟩)
    (M : Mg mg)
    (d5 : TopD K mg "between" (top 5))
    (d6 : TopD K mg "lies_within" (top 6))
    (d7 : TopD K mg "overlap" (top 7))
    (d8 : TopD K mg "square_of" (top 8))
    (d9 : TopD K mg "zone_of" (top 9))
    (d10 : TopD K mg "area_of" (top 10))
    (d11 : TopD K mg "measures_right" (top 11))
    (d12 : TopD K mg "corner_right" (top 12))
    (d13 : TopD K mg "box_right" (top 13))
    (d14 : TopD K mg "fields_right" (top 14))
    (d15 : TopD K mg "om_right" (top 15))
    (d22 : TopD K mg "ink_of" (top 22))
    (d23 : TopD K mg "ink_within" (top 23))
    (d24 : TopD K mg "ink_in_squares" (top 24))
    (d25 : TopD K mg "best_shift" (top 25))
    (d26 : TopD K mg "om_find" (top 26))
    (d27 : TopD K mg "told_of" (top 27))
    (d28 : TopD K mg "om_read" (top 28))
    (d36 : TopD K mg "told_by_field" (top 36))
    (d37 : TopD K mg "told_of_field" (top 37))
    (d38 : TopD K mg "is_sure" (top 38))
    (d39 : TopD K mg "is_perhaps" (top 39))
    (d47 : TopD K mg "corners_from" (top 47))
    (d48 : TopD K mg "boxes_from" (top 48))
    (d49 : TopD K mg "take_sheet" (top 49))
    (d50 : TopD K mg "answer_call" (top 50))
    (d51 : TopD K mg "in_numbers" (top 51))
    (d52 : TopD K mg "answers" (top 52))
    (eC0 : MetD K cC "__init__" "Corner.__init__" (inClass (top 2) 0))
    (eB0 : MetD K cB "__init__" "Box.__init__" (inClass (top 3) 0))
    (eS0 : MetD K cS "__init__" "Sheet.__init__" (inClass (top 4) 0))
    (eT0 : MetD K cT "__init__" "Tally.__init__" (inClass (top 40) 0))
    (eT1 : MetD K cT "oc_start" "Tally.oc_start" (inClass (top 40) 1))
    (eT3 : MetD K cT "count_sheet" "Tally.count_sheet" (inClass (top 40) 3))
    (eT2 : MetD K cT "oc_sheet" "Tally.oc_sheet" (inClass (top 40) 2))
    (eT4 : MetD K cT "oc_count" "Tally.oc_count" (inClass (top 40) 4))
    (eU0 : MetD K cU "__init__" "Cursor.__init__" (inClass (top 46) 0))
    (eU1 : MetD K cU "at_end" "Cursor.at_end" (inClass (top 46) 1))
    (eU2 : MetD K cU "take" "Cursor.take" (inClass (top 46) 2))
    (eU3 : MetD K cU "take_several" "Cursor.take_several" (inClass (top 46) 3))
    (eU4 : MetD K cU "take_row" "Cursor.take_row" (inClass (top 46) 4)) :
    ∃ fd : FuncData, (∀ (s : Shared) (us : List Value), us.length = (["calls"] : List Str).length → BindsTo s fd ⟨us, []⟩ ((["calls"] : List Str).zip us)) ∧ ∀ base : Heap, K.In base → base.Ns mainGlobals mg → FnOk P w K mg base CX0 9 fa fd ["calls"] (spAnswers K) :=
  all_mk (A := ⟨cC, cB, cS, cT, cU⟩) hfa kC kB kS kT kU T M d5 d6 d7 d8 d9 d10 d11 d12 d13 d14 d15 d22 d23 d24 d25 d26 d27 d28 d36 d37 d38 d39 d47 d48 d49 d50 d51 d52 eC0 eB0 eS0 eT0 eT1 eT3 eT2 eT4 eU0 eU1 eU2 eU3 eU4
end My
end
set_option Elab.async false
/- the twin that the head would lay of its written part and then never use: its name is taken, so the file stays small -/
theorem PySem.W.Fast.te2649897199547334775 : True := trivial
/- and the program stands for itself where the head would write all its names out -/
abbrev PySem.W.Fast.tw15886125939110456727 : PySem.Program := PySem.Challenge.pw_sheetreader_s01_answers
theorem PySem.W.Fast.te15886125939110456727 : PySem.Challenge.pw_sheetreader_s01_answers = PySem.W.Fast.tw15886125939110456727 := rfl
open PySem PySem.W PyProof.Rows
set_option maxRecDepth 100000 in
set_option maxHeartbeats 0 in
theorem PySem.Challenge.cw_sheetreader_s01_answers_holds : PySem.Challenge.rw_sheetreader_s01_answers.Holds := by
  w_on; k_headS; (case hw => exact ⟨[.list [.int 0, .int 0, .int 0, .int 0, .int 0, .int 0, .int 0, .int 0, .int 0, .int 0, .int 12, .int 0, .int 0, .int 0, .int 0, .int 0, .int 0, .int 0, .int 0, .int 0, .int 0, .int 0, .int 0, .int 0]], by decide +kernel, by decide +kernel⟩)
  k_fillS
  refine L2.walk_specK (r := PySem.Challenge.rw_sheetreader_s01_answers) (k := 9) (CX := L2.CX0) (ps := ["calls"]) (sp := My.spAnswers) (by decide +kernel) rfl rfl ⟨rfl, by decide, by decide⟩ (fun w h Y => PySem.W.kIn_of Y) ?F ?S (fun _ _ _ _ z => z)
  case F =>
    intro w mg fa h Y KX G hmg
    refine' My.all_mk2 hmg ?zkC ?zkB ?zkS ?zkT ?zkU ?zT ?zM ?zd5 ?zd6 ?zd7 ?zd8 ?zd9 ?zd10 ?zd11 ?zd12 ?zd13 ?zd14 ?zd15 ?zd22 ?zd23 ?zd24 ?zd25 ?zd26 ?zd27 ?zd28 ?zd36 ?zd37 ?zd38 ?zd39 ?zd47 ?zd48 ?zd49 ?zd50 ?zd51 ?zd52 ?zeC0 ?zeB0 ?zeS0 ?zeT0 ?zeT1 ?zeT3 ?zeT2 ?zeT4 ?zeU0 ?zeU1 ?zeU2 ?zeU3 ?zeU4
    case zkC => (refine' My.clsD_mk KX G ?qa ?qm ?qk; (case qa => k_is); (case qm => k_is); (case qk => k_is))
    case zkB => (refine' My.clsD_mk KX G ?qa ?qm ?qk; (case qa => k_is); (case qm => k_is); (case qk => k_is))
    case zkS => (refine' My.clsD_mk KX G ?qa ?qm ?qk; (case qa => k_is); (case qm => k_is); (case qk => k_is))
    case zkT => (refine' My.clsD_mk KX G ?qa ?qm ?qk; (case qa => k_is); (case qm => k_is); (case qk => k_is))
    case zkU => (refine' My.clsD_mk KX G ?qa ?qm ?qk; (case qa => k_is); (case qm => k_is); (case qk => k_is))
    case zT =>
      refine' My.tx_mk ?xc0 ?xc1 ?xc2 ?xc3 ?xc4 ?xn0 ?xn1 ?xn2 ?xn3 ?xn4 ?xn5 ?xn6 ?xn7 ?xn8 ?xn9 ?xn10 ?xn11 ?xn12 ?xn13 ?xn14 ?xn15 ?xn16 ?xn17 ?xn18 ?xn19 ?xn20 ?xn21 ?xn22 ?xn23 ?xn24 ?xn25
      case xc0 => (refine' My.cls_mk ?qa ?qb ?qc ?qd; (case qa => k_is); (case qb => k_is); (case qc => k_is); (case qd => k_is))
      case xc1 => (refine' My.cls_mk ?qa ?qb ?qc ?qd; (case qa => k_is); (case qb => k_is); (case qc => k_is); (case qd => k_is))
      case xc2 => (refine' My.cls_mk ?qa ?qb ?qc ?qd; (case qa => k_is); (case qb => k_is); (case qc => k_is); (case qd => k_is))
      case xc3 => (refine' My.cls_mk ?qa ?qb ?qc ?qd; (case qa => k_is); (case qb => k_is); (case qc => k_is); (case qd => k_is))
      case xc4 => (refine' My.cls_mk ?qa ?qb ?qc ?qd; (case qa => k_is); (case qb => k_is); (case qc => k_is); (case qd => k_is))
      case xn0 => k_is
      case xn1 => k_is
      case xn2 => k_is
      case xn3 => k_is
      case xn4 => k_is
      case xn5 => k_is
      case xn6 => k_is
      case xn7 => k_is
      case xn8 => k_is
      case xn9 => k_is
      case xn10 => k_is
      case xn11 => k_is
      case xn12 => k_is
      case xn13 => k_is
      case xn14 => k_is
      case xn15 => k_is
      case xn16 => k_is
      case xn17 => k_is
      case xn18 => k_is
      case xn19 => k_is
      case xn20 => k_is
      case xn21 => k_is
      case xn22 => k_is
      case xn23 => k_is
      case xn24 => k_is
      case xn25 => k_is
    case zM =>
      refine' My.Mg.mk ?xb0 ?xb1 ?xb2 ?xb3 ?xb4 ?xb5 ?xb6 ?xb7 ?xb8 ?xb9 ?xc0 ?xc1 ?xc2 ?xc3 ?xc4 ?xc5 ?xc6 ?xc7 ?xc8 ?xc9 ?xc10 ?xc11 ?xc12 ?xc13 ?xc14 ?xc15
      case xb0 => (refine' PySem.W.mg_none_of KX G ?qa; (case qa => k_is))
      case xb1 => (refine' PySem.W.mg_none_of KX G ?qa; (case qa => k_is))
      case xb2 => (refine' PySem.W.mg_none_of KX G ?qa; (case qa => k_is))
      case xb3 => (refine' PySem.W.mg_none_of KX G ?qa; (case qa => k_is))
      case xb4 => (refine' PySem.W.mg_none_of KX G ?qa; (case qa => k_is))
      case xb5 => (refine' PySem.W.mg_none_of KX G ?qa; (case qa => k_is))
      case xb6 => (refine' PySem.W.mg_none_of KX G ?qa; (case qa => k_is))
      case xb7 => (refine' PySem.W.mg_none_of KX G ?qa; (case qa => k_is))
      case xb8 => (refine' PySem.W.mg_none_of KX G ?qa; (case qa => k_is))
      case xb9 => (refine' PySem.W.mg_none_of KX G ?qa; (case qa => k_is))
      case xc0 => (refine' My.cst_mk KX G ?qa; (case qa => k_is))
      case xc1 => (refine' My.cst_mk KX G ?qa; (case qa => k_is))
      case xc2 => (refine' My.cst_mk KX G ?qa; (case qa => k_is))
      case xc3 => (refine' My.cst_mk KX G ?qa; (case qa => k_is))
      case xc4 => (refine' My.cst_mk KX G ?qa; (case qa => k_is))
      case xc5 => (refine' My.cst_mk KX G ?qa; (case qa => k_is))
      case xc6 => (refine' My.cst_mk KX G ?qa; (case qa => k_is))
      case xc7 => (refine' My.cst_mk KX G ?qa; (case qa => k_is))
      case xc8 => (refine' My.cst_mk KX G ?qa; (case qa => k_is))
      case xc9 => (refine' My.cst_mk KX G ?qa; (case qa => k_is))
      case xc10 => (refine' My.cst_mk KX G ?qa; (case qa => k_is))
      case xc11 => (refine' My.cst_mk KX G ?qa; (case qa => k_is))
      case xc12 => (refine' My.cst_mk KX G ?qa; (case qa => k_is))
      case xc13 => (refine' My.cst_mk KX G ?qa; (case qa => k_is))
      case xc14 => (refine' My.cst_mk KX G ?qa; (case qa => k_is))
      case xc15 => (refine' My.cst_mk KX G ?qa; (case qa => k_is))
    case zd5 => (refine' My.topD_mk KX G ?qa ?ql ?qc ?qk; (case qa => k_is); (case ql => k_is); (case qc => k_is); (case qk => k_is))
    case zd6 => (refine' My.topD_mk KX G ?qa ?ql ?qc ?qk; (case qa => k_is); (case ql => k_is); (case qc => k_is); (case qk => k_is))
    case zd7 => (refine' My.topD_mk KX G ?qa ?ql ?qc ?qk; (case qa => k_is); (case ql => k_is); (case qc => k_is); (case qk => k_is))
    case zd8 => (refine' My.topD_mk KX G ?qa ?ql ?qc ?qk; (case qa => k_is); (case ql => k_is); (case qc => k_is); (case qk => k_is))
    case zd9 => (refine' My.topD_mk KX G ?qa ?ql ?qc ?qk; (case qa => k_is); (case ql => k_is); (case qc => k_is); (case qk => k_is))
    case zd10 => (refine' My.topD_mk KX G ?qa ?ql ?qc ?qk; (case qa => k_is); (case ql => k_is); (case qc => k_is); (case qk => k_is))
    case zd11 => (refine' My.topD_mk KX G ?qa ?ql ?qc ?qk; (case qa => k_is); (case ql => k_is); (case qc => k_is); (case qk => k_is))
    case zd12 => (refine' My.topD_mk KX G ?qa ?ql ?qc ?qk; (case qa => k_is); (case ql => k_is); (case qc => k_is); (case qk => k_is))
    case zd13 => (refine' My.topD_mk KX G ?qa ?ql ?qc ?qk; (case qa => k_is); (case ql => k_is); (case qc => k_is); (case qk => k_is))
    case zd14 => (refine' My.topD_mk KX G ?qa ?ql ?qc ?qk; (case qa => k_is); (case ql => k_is); (case qc => k_is); (case qk => k_is))
    case zd15 => (refine' My.topD_mk KX G ?qa ?ql ?qc ?qk; (case qa => k_is); (case ql => k_is); (case qc => k_is); (case qk => k_is))
    case zd22 => (refine' My.topD_mk KX G ?qa ?ql ?qc ?qk; (case qa => k_is); (case ql => k_is); (case qc => k_is); (case qk => k_is))
    case zd23 => (refine' My.topD_mk KX G ?qa ?ql ?qc ?qk; (case qa => k_is); (case ql => k_is); (case qc => k_is); (case qk => k_is))
    case zd24 => (refine' My.topD_mk KX G ?qa ?ql ?qc ?qk; (case qa => k_is); (case ql => k_is); (case qc => k_is); (case qk => k_is))
    case zd25 => (refine' My.topD_mk KX G ?qa ?ql ?qc ?qk; (case qa => k_is); (case ql => k_is); (case qc => k_is); (case qk => k_is))
    case zd26 => (refine' My.topD_mk KX G ?qa ?ql ?qc ?qk; (case qa => k_is); (case ql => k_is); (case qc => k_is); (case qk => k_is))
    case zd27 => (refine' My.topD_mk KX G ?qa ?ql ?qc ?qk; (case qa => k_is); (case ql => k_is); (case qc => k_is); (case qk => k_is))
    case zd28 => (refine' My.topD_mk KX G ?qa ?ql ?qc ?qk; (case qa => k_is); (case ql => k_is); (case qc => k_is); (case qk => k_is))
    case zd36 => (refine' My.topD_mk KX G ?qa ?ql ?qc ?qk; (case qa => k_is); (case ql => k_is); (case qc => k_is); (case qk => k_is))
    case zd37 => (refine' My.topD_mk KX G ?qa ?ql ?qc ?qk; (case qa => k_is); (case ql => k_is); (case qc => k_is); (case qk => k_is))
    case zd38 => (refine' My.topD_mk KX G ?qa ?ql ?qc ?qk; (case qa => k_is); (case ql => k_is); (case qc => k_is); (case qk => k_is))
    case zd39 => (refine' My.topD_mk KX G ?qa ?ql ?qc ?qk; (case qa => k_is); (case ql => k_is); (case qc => k_is); (case qk => k_is))
    case zd47 => (refine' My.topD_mk KX G ?qa ?ql ?qc ?qk; (case qa => k_is); (case ql => k_is); (case qc => k_is); (case qk => k_is))
    case zd48 => (refine' My.topD_mk KX G ?qa ?ql ?qc ?qk; (case qa => k_is); (case ql => k_is); (case qc => k_is); (case qk => k_is))
    case zd49 => (refine' My.topD_mk KX G ?qa ?ql ?qc ?qk; (case qa => k_is); (case ql => k_is); (case qc => k_is); (case qk => k_is))
    case zd50 => (refine' My.topD_mk KX G ?qa ?ql ?qc ?qk; (case qa => k_is); (case ql => k_is); (case qc => k_is); (case qk => k_is))
    case zd51 => (refine' My.topD_mk KX G ?qa ?ql ?qc ?qk; (case qa => k_is); (case ql => k_is); (case qc => k_is); (case qk => k_is))
    case zd52 => (refine' My.topD_mk KX G ?qa ?ql ?qc ?qk; (case qa => k_is); (case ql => k_is); (case qc => k_is); (case qk => k_is))
    case zeC0 => (refine' My.metD_mk ?qa ?qi ?ql ?qc ?qk; (case qa => k_is); (case qi => k_is); (case ql => k_is); (case qc => k_is); (case qk => k_is))
    case zeB0 => (refine' My.metD_mk ?qa ?qi ?ql ?qc ?qk; (case qa => k_is); (case qi => k_is); (case ql => k_is); (case qc => k_is); (case qk => k_is))
    case zeS0 => (refine' My.metD_mk ?qa ?qi ?ql ?qc ?qk; (case qa => k_is); (case qi => k_is); (case ql => k_is); (case qc => k_is); (case qk => k_is))
    case zeT0 => (refine' My.metD_mk ?qa ?qi ?ql ?qc ?qk; (case qa => k_is); (case qi => k_is); (case ql => k_is); (case qc => k_is); (case qk => k_is))
    case zeT1 => (refine' My.metD_mk ?qa ?qi ?ql ?qc ?qk; (case qa => k_is); (case qi => k_is); (case ql => k_is); (case qc => k_is); (case qk => k_is))
    case zeT3 => (refine' My.metD_mk ?qa ?qi ?ql ?qc ?qk; (case qa => k_is); (case qi => k_is); (case ql => k_is); (case qc => k_is); (case qk => k_is))
    case zeT2 => (refine' My.metD_mk ?qa ?qi ?ql ?qc ?qk; (case qa => k_is); (case qi => k_is); (case ql => k_is); (case qc => k_is); (case qk => k_is))
    case zeT4 => (refine' My.metD_mk ?qa ?qi ?ql ?qc ?qk; (case qa => k_is); (case qi => k_is); (case ql => k_is); (case qc => k_is); (case qk => k_is))
    case zeU0 => (refine' My.metD_mk ?qa ?qi ?ql ?qc ?qk; (case qa => k_is); (case qi => k_is); (case ql => k_is); (case qc => k_is); (case qk => k_is))
    case zeU1 => (refine' My.metD_mk ?qa ?qi ?ql ?qc ?qk; (case qa => k_is); (case qi => k_is); (case ql => k_is); (case qc => k_is); (case qk => k_is))
    case zeU2 => (refine' My.metD_mk ?qa ?qi ?ql ?qc ?qk; (case qa => k_is); (case qi => k_is); (case ql => k_is); (case qc => k_is); (case qk => k_is))
    case zeU3 => (refine' My.metD_mk ?qa ?qi ?ql ?qc ?qk; (case qa => k_is); (case qi => k_is); (case ql => k_is); (case qc => k_is); (case qk => k_is))
    case zeU4 => (refine' My.metD_mk ?qa ?qi ?ql ?qc ?qk; (case qa => k_is); (case qi => k_is); (case ql => k_is); (case qc => k_is); (case qk => k_is))
  case S =>
    intro K H xs a hO hwi hask hx
    cases hx with
    | cons h1 h2 =>
      cases h2
      cases h1 with
      | lst hs ha =>
        have e := L2.ints_dw a.1 _ ha
        subst e
        have q : ((Codec.inLen 0 30000 a.1 && a.1.all (Codec.inInt 0 4294967295)) && true) = true := hwi
        rw [Bool.and_eq_true, Bool.and_eq_true] at q
        refine ⟨_, a.1, rfl, hs, (Codec.inNat_iff.mp q.1.1).2, fun z hz => ?_, hask, fun H' p hp => .lst (L2.SqL.of hp) (L2.dw_ints _)⟩
        have qz := List.all_eq_true.mp q.1.2 z hz
        unfold Codec.inInt at qz
        simp only [Bool.and_eq_true, decide_eq_true_eq] at qz
        exact qz.1
#print axioms PySem.Challenge.cw_sheetreader_s01_answers_holds
